import PyProof.Rows.All
import Wide.All
import OpenK.AllK
import Wide.FinOn
import HandS.ForMost
import HandS.Wide
import HandS.WideBits
import HandS.EndBits
import HandS.Steps
import HandS.ExcInit
import KE.KExcLine
import KE.KExcIs
import HandS.ExcOwn
import HandS.ExcValue
import HandS.IsInst
import HandS.ExcField
import HandS.Conv
import HandS.SortInts
import HandS.HotCalls
import KE.DataFind
import HandS.Lambda
import HandS.EndOwn
import HandS.TupAny
import KE.GoesMore
import HandS.Style
import HandS.SuiteRaise
import HandS.RaiseFrom
import HandS.ExcInitHot
import KE.KTryMore
import KE.KCallOwn
import HandS.Property
import HandS.ClsMeth
import HandS.RaiseMore
import HandS.WordsExc
import HandS.MakeKwOnly
import HandS.Text
import HandS.StrMore
import HandS.FStr
import KE.IntTextLaws
import HandS.Deep
import HandS.Walk
import HandS.NoneIn
import PyProof.StrLawsRepr
import PyProof.ExcBaseAll.LookupError
import PyProof.ExcBaseAll.ArithmeticError
import PyProof.ExcBaseAll.ValueError
import PySem.Challenge.RW_lamprounds_k05_whole_texts_judged
set_option Elab.async false
set_option linter.all false
set_option maxRecDepth 100000
namespace Lamp
open PySem PySem.Spec PyProof.Rows L2
/-! A def's promise where it is known that no repr is under way. -/
structure FnG (P : Program) (w : World) (K : PySem.W.Frag) (mg : Str → Option Value) (base : Heap) (k : Nat) (f : Addr) (fd : FuncData) (ps : List Str) (sp : Sp) : Prop where
  many : ∀ vs H Q E, sp vs H Q E → vs.length = ps.length
  goes : ∀ (A : Around) (out : List Env) (s : Shared) (H : Hp) (ar : Args) (us : List Value) (vs : List V) (Q : VK) (E : XK), A.guards = some [] → Room k A → Env0 P w K mg base A out s H →
    BindsTo s fd ar (ps.zip us) → Vals vs us → sp vs H Q E → codeAny (model P w) A (.call (.ref f) ar) (CR CX0 out P w H s Q E) s
section
variable {P : Program} {w : World} {K : PySem.W.Frag} {mg : Str → Option Value} {base : Heap}
theorem FnG.of {k : Nat} {f : Addr} {fd : FuncData} {ps : List Str} {sp : Sp} (F : FnOk P w K mg base CX0 k f fd ps sp) : FnG P w K mg base k f fd ps sp :=
  ⟨F.len, fun A out s H ar us vs Q E _ hr he hb hv hs => F.run A out s H ar us vs Q E hr he hb hv hs⟩
theorem FnG.up {j k : Nat} {f : Addr} {fd : FuncData} {ps : List Str} {sp : Sp} (F : FnG P w K mg base j f fd ps sp) (h : j ≤ k) : FnG P w K mg base k f fd ps sp :=
  ⟨F.many, fun A out s H ar us vs Q E hg hr he hb hv hs => F.goes A out s H ar us vs Q E hg (hr.mono h) he hb hv hs⟩
/-- the rule for a def, by its body -/
theorem okG {x qual : Str} {st : Stmt} {f : Addr} {fd : FuncData} {N ps : List Str} {k : Nat} {sp : Sp} (F : Fun K x qual st f fd) (S : FnScope N ps (defScope st)) (len : ∀ vs H Q E, sp vs H Q E → vs.length = ps.length)
    (hbody : ∀ (cdv : Value) (A : Around) (outer : List Env) (s : Shared) (H : Hp) (vs : List V) (Q : VK) (E : XK), A.guards = some [] → Room k (A.deeper (envOfC qual (defScope st) s.heap.objs.size f cdv)) → sp vs H Q E →
      ∃ t, PSs (cxOf CX0 P w K mg base N qual (defScope st) f cdv A outer s H E).nox (defBody st) t ∧ t { nx := fun _ H' => Q .non H', rt := Q } (start N vs) H) : FnG P w K mg base (k + 1) f fd ps sp := by
  obtain ⟨oc, od, kV, doc, pm, an, cdv, ct, osl, efd, hlk, hcode⟩ := F.ex
  subst efd
  refine ⟨len, fun A out s H ar us vs Q E hgd hroom hst hbind hvals hs => ?_⟩
  have hcount := len _ _ _ _ hs
  have inK : K.In s.heap := hst.mod.kin.keeps fun b o e => (hst.bs b o e).1
  have noLim : s.heap.NoLimit := hst.mod.nolimit.keeps fun b o e => (hst.bs b o e).1
  refine codeAny_call_function hroom.depth (inK _ _ hlk) rfl S.co S.gen rfl (PySem.W.codeRec_of inK hcode) (hbind _ _ _ _ ?_)
  refine wpAny_newFunctionEnv_cells S.kind (fun y hy => ?_) fun env eenv s1 xin => ?_
  · obtain ⟨nm, val⟩ := y
    cases S.par nm (List.of_mem_zip hy).1 with
    | inl isLocal => exact .inl isLocal
    | inr isCell => exact .inr ⟨isCell, PySem.W.cellsFrom_some _ _ _ (.inl isCell)⟩
  subst eenv
  refine ⟨noLim.keeps xin.toInCall.keep, codeAny_func ?_⟩
  obtain ⟨t, ht0, hq⟩ := hbody cdv A out s H vs Q E hgd (hroom.deeper _) hs
  have ht := ht0.nox
  have inv0 : Inv (cxOf CX0 P w K mg base N qual (defScope st) f cdv A out s H E) [] (start N vs) H s1 := inv_start S hroom.hd hst hcount hvals xin
  have fin : ∀ {σ' : L2.St} {H' : Hp} {v : V} {u : Value} {s' : Shared}, Inv (cxOf CX0 P w K mg base N qual (defScope st) f cdv A out s H E) [] σ' H' s' → RelV v u → Q v H' → CE out P w H s Q u s' := fun J rv q => ⟨_, _, J.os, J.bare, J.base, J.hok, rv, q⟩
  refine wpAny_mono (ht.run [] s1 (start N vs) H _ inv0 hq) (fun flow s' told => ?_) fun e s' told => told
  match flow, told with
  | .ret u, ⟨v, σ', H', J, rv, q⟩ => exact fin J rv q
  | .next, ⟨σ', H', J, q⟩ => exact fin (v := V.non) (u := Value.none) J rfl q
  | .brk, ⟨_, _, _, q⟩ => exact False.elim q
  | .cont, ⟨_, _, _, q⟩ => exact False.elim q
end
section
variable {X : Cx} {k : Nat} {f : Addr} {fd : FuncData} {ps : List Str} {sp : Sp} {dvs : List V} {ds : List Value} {x : Str} {p pos : Pos} {e : Expr} {es : List Expr} {t : TA}
theorem runG {pins : List (Addr × Obj)} {σ : L2.St} {H : Hp} {s : Shared} {Q : VK} {us : List Value} {vs : List V} (F : FnG X.prog X.w X.K X.mg X.base k f fd ps sp) (hgd : X.A.guards = some []) (hr : Room k X.A) (hb : Binds X.K fd ps [])
    (I : Inv X pins σ H s) (r : Vals vs us) (h : sp vs H Q E0) : wpAny (model X.prog X.w) X.A (call (.ref f) us) (EP X pins σ Q) X.xe s := by
  have hl : (us ++ []).length = ps.length := by rw [List.append_nil, ← r.length]; exact F.many _ _ _ _ h
  have hbb := hb s us I.kIn hl
  rw [List.append_nil] at hbb
  refine wpAny_call (codeAny_mono (F.goes X.A X.stack s H ⟨us, []⟩ us vs Q E0 hgd hr I.env0 hbb r h) fun res s' told => ?_)
  match res, told with
  | .error _, told => exact False.elim told
  | .ok (.ret u), told => exact I.after told
  | .ok .next, told => exact False.elim told
  | .ok .brk, told => exact False.elim told
  | .ok .cont, told => exact False.elim told
/-- f(e, ..) -/
def tCallG (sp : Sp) (t : TA) : TE := fun σ H Q => t σ H fun vs H1 => sp vs H1 Q E0
theorem pe_callG (F : FnG X.prog X.w X.K X.mg X.base k f fd ps sp) (hgd : X.A.guards = some []) (hr : Room k X.A) (hg : Gl X x) (hm : X.mg x = some (.ref f)) (hk : PySem.W.keepIn X.K (.ref f) = true) (hb : Binds X.K fd ps [])
    (ha : PA X (e :: es) t) (hdb : (x == ("__debug__" : Str)) = false := by decide) (he : starEach (e :: es) X.env = (false, eval e X.env) :: starEach es X.env := by rfl) (hpl : (backTo pos (starEach es X.env)).any (·.1) = false := by rfl) :
    PE X (.Call (.Name x p) (e :: es) [] pos) (tCallG sp t) :=
  ⟨fun pins s σ H Q I h => wpAny_Call_Name_kw (ld_glob I hg hm (PySem.W.callWith_K (h₀ := X.base) I.ok.mod.kin hk (thn (ha.run pos pins s σ H _ I h) fun us s1 ⟨vs, H1, I1, r, q⟩ =>
    ⟨I1.kIn, runG F hgd hr hb I1 r q⟩) he hpl) hdb)⟩
end
/-! the law's own call, from its promise -/
theorem law_goes {P : Program} {w : World} {K : PySem.W.Frag} {mg mb : Str → Option Value} {k : Nat} {fa a : Addr} {fd : FuncData} {x : Str} {sp : Sp} {sh : Shared} {vs : List Value} {ns : List Int} {H : Hp}
    (inK : K.In sh.heap) (nsG : sh.heap.Ns mainGlobals mg) (nsB : sh.heap.Ns builtinsNs mb) (bltn : ∀ x : Str, x ≠ "__name__" → mb x = bootBuiltins x) (noLim : sh.heap.NoLimit) (noGen : sh.gens = #[])
    (there : sh.heap.get? a = some { cls := .type "list", data := .seq vs.toArray }) (room : Room k callerA)
    (F : ∀ base : Heap, K.In base → base.Ns mainGlobals mg → FnG P w K mg base k fa fd [x] sp) (hbind : ∀ (s : Shared) (u : Value), BindsTo s fd ⟨[u], []⟩ [(x, u)])
    (asked : sp [.ref a] H (fun v _ => v = .bl true) E0) (only : Only H) (hok : HOk P w H sh.heap) (alone : ∀ b u, H b = some u → b = a ∧ K.lookup a = none) :
    codeAny (model P w) callerA (.call (.ref fa) ⟨[.ref a], []⟩) (fun r s' => r = .ok (.ret (.bool true)) ∧ OldK sh.heap s'.heap ∧ s'.os = sh.os ∧ AllBare s'.gens) sh := by
  have untold : ∀ {b : Addr} {o : Obj}, sh.heap.get? b = some o → (b = a → o.cls ≠ .type "list") → H b = none := fun {b o} e ne => by
    cases q : H b with
    | none => rfl
    | some u =>
      have eb := (alone b u q).1
      subst eb
      rw [there] at e
      cases e
      exact absurd rfl (ne rfl)
  have nsKeep : ∀ {b : Addr} {m : Str → Option Value}, sh.heap.Ns b m → (hidT sh.heap H).Ns b m := fun {b m} told => by
    obtain ⟨o, es, ep, e, d, r⟩ := told
    refine ⟨o, es, ep, hidT_get e ?_, d, r⟩
    cases q : H b with
    | none => rfl
    | some u =>
      have eb := (alone b u q).1
      subst eb
      rw [there] at e
      cases e
      exact Data.noConfusion d
  have inK' : K.In (hidT sh.heap H) := fun b o e => hidT_get (inK b o e) (by
    cases q : H b with
    | none => rfl
    | some u =>
      obtain ⟨eb, none⟩ := alone b u q
      rw [eb, none] at e
      cases e)
  obtain ⟨mc, lim1, lim2⟩ := noLim
  have start0 : Env0 P w K mg (hidT sh.heap H) callerA [] sh H :=
    { frames := rfl, mod := ⟨inK', nsKeep nsG, ⟨mb, nsKeep nsB, bltn⟩, ⟨mc, nsKeep lim1, lim2⟩⟩, bs := fun b o e => of_hidT e, bsz := Nat.le_of_eq (hidT_size _ _), funs := trivial, frf := (fun b hb => nomatch hb), hok := hok, bare := .of_eq noGen }
  refine codeAny_mono ((F _ inK' (nsKeep nsG)).goes callerA [] sh H ⟨[.ref a], []⟩ [.ref a] [.ref a] _ _ rfl room start0 (hbind sh (.ref a)) (.cons rfl .nil) asked) fun res s' told => ?_
  match res, told with
  | .error _, told => exact False.elim told
  | .ok .next, told => exact False.elim told
  | .ok .brk, told => exact False.elim told
  | .ok .cont, told => exact False.elim told
  | .ok (.ret u), ⟨v, H', os, bare, un, hok', rv, ev⟩ =>
    have ev' : v = .bl true := ev
    subst ev'
    have eu : u = Value.bool true := rv
    subst eu
    refine ⟨rfl, OldK.of_keep fun b o e => ?_, os, bare⟩
    rcases only b with none | ⟨ob, xs, froz⟩
    · exact un.keep b o e none (fun z => nomatch z) (fun z => nomatch z)
    · have old := (hok b _ froz).1
      have new := (hok' b _ (un.frzs b ob _ froz)).1
      rw [e] at old
      cases old
      exact new
theorem law_goes2 {P : Program} {w : World} {K : PySem.W.Frag} {mg mb : Str → Option Value} {k : Nat} {fa a : Addr} {fd : FuncData} {x : Str} {sp : Sp} {sh : Shared} {vs : List Value} {ns : List Int}
    (inK : K.In sh.heap) (nsG : sh.heap.Ns mainGlobals mg) (nsB : sh.heap.Ns builtinsNs mb) (bltn : ∀ x : Str, x ≠ "__name__" → mb x = bootBuiltins x) (noLim : sh.heap.NoLimit) (noGen : sh.gens = #[])
    (there : sh.heap.get? a = some { cls := .type "list", data := .seq vs.toArray }) (areInts : IntsAre vs ns) (short : ns.length ≤ sizeLine) (room : Room k callerA)
    (F : ∀ base : Heap, K.In base → base.Ns mainGlobals mg → FnG P w K mg base k fa fd [x] sp) (hbind : ∀ (s : Shared) (u : Value), BindsTo s fd ⟨[u], []⟩ [(x, u)])
    (asked : ∀ H : Hp, Only H → SqL K H a (ns.map V.int) → sp [.ref a] H (fun v _ => v = .bl true) E0) :
    codeAny (model P w) callerA (.call (.ref fa) ⟨[.ref a], []⟩) (fun r s' => r = .ok (.ret (.bool true)) ∧ OldK sh.heap s'.heap ∧ s'.os = sh.os ∧ AllBare s'.gens) sh := by
  have vals := vals_ints areInts
  have same := areInts.length
  cases look : K.lookup a with
  | some o =>
    have e := inK a o look
    rw [there] at e
    cases e
    have on : Only fun _ => none := fun _ => .inl rfl
    exact law_goes (ns := ns) inK nsG nsB bltn noLim noGen there room F hbind (asked _ on (.inr ⟨_, vs.toArray, _, look, rfl, rfl, rfl, by rw [List.size_toArray, same]; exact short, vals⟩)) on (fun b u z => nomatch z) (fun b u z => nomatch z)
  | none =>
    let held : HO := .frz { cls := .type "list", data := .seq vs.toArray } (.lst (ns.map V.int))
    have at_ : ∀ b, b = a → (fun c => if c = a then some held else none : Hp) b = some held := fun b e => if_pos e
    have off : ∀ b, b ≠ a → (fun c => if c = a then some held else none : Hp) b = none := fun b e => if_neg e
    have on : Only fun c => if c = a then some held else none := fun b => by
      by_cases eb : b = a
      · exact .inr ⟨_, _, at_ b eb⟩
      · exact .inl (off b eb)
    refine law_goes (ns := ns) inK nsG nsB bltn noLim noGen there room F hbind (asked _ on (.inl (.inr ⟨_, at_ a rfl⟩))) on (fun b u z => ?_) (fun b u z => ?_)
    · by_cases eb : b = a
      · subst eb
        have z2 := (at_ b rfl).symm.trans z
        cases z2
        exact ⟨there, by rw [List.length_map]; exact short, vs, _, vals, there⟩
      · have z2 := (off b eb).symm.trans z
        cases z2
    · by_cases eb : b = a
      · exact ⟨eb, look⟩
      · have z2 := (off b eb).symm.trans z
        cases z2
open PySem.W in
theorem walk_ofG {l : PySem.W.OpenLaw} {n k : Nat} {q : Program} {loose : List Str} {XP : (Str → Option Value) → Heap → Prop} {YP : World → Heap → Prop} {d : DefRec} {K : Params → PySem.W.Frag} {sp : World → Sp} {x : Str}
    (hn : l.most = some n) (hn2 : n ≤ sizeLine) (hdf : d.params.defaults = []) (hr : Room k callerA) (hY : ∀ (w : World) (h : Heap), YP w h → (K w.params).In h)
    (F : ∀ (w : World) (mg : Str → Option Value) (fa : Addr) (h : Heap), (K w.params).In h → h.Ns mainGlobals mg → mg d.name = some (.ref fa) → ∃ fd : FuncData, (∀ (s : Shared) (u : Value), BindsTo s fd ⟨[u], []⟩ [(x, u)]) ∧
        ∀ base : Heap, (K w.params).In base → base.Ns mainGlobals mg → FnG l.prog w (K w.params) mg base k fa fd [x] (sp w))
    (hsp : ∀ (w : World) (H : Hp) (a : Addr) (ns : List Int), ns.length ≤ n → (∀ z ∈ ns, Builtin.Int.intBits z ≤ 1048576) → Only H → SqL (K w.params) H a (ns.map V.int) → sp w [.ref a] H (fun v _ => v = .bl true) E0) :
    PySem.W.WalkO q loose XP YP l.row.toRowW d [] (fun f vs => PySem.call f vs) :=
  Att.attach_callB hn hdf fun w s₀ s₁ mg mb fa o pm cd doc a vs ns G Y ho hd hcd hmg hobj hints hlen hbits hg => by
    obtain ⟨fd, hb, hF⟩ := F w mg fa _ (hY w _ Y) G.T.g hmg
    exact law_goes2 (hY w _ Y) G.T.g G.T.b G.T.builtins G.T.nolimit hg hobj hints (Nat.le_trans hlen hn2) hr hF hb fun H hO hS => hsp w H a ns hlen hbits hO hS
end Lamp
set_option Elab.async false
set_option linter.all false
set_option maxRecDepth 100000
namespace Lamp
open PySem PySem.Spec PyProof.Rows L2
/-! repr of data -/
mutual
theorem dp_nodict {K : PySem.W.Frag} {H : Hp} : ∀ (d : PyData) (v : V), Dp K H v d → d.hasDict = false
  | .none, _, _ => by simp only [PyData.hasDict]
  | .bool _, _, _ => by simp only [PyData.hasDict]
  | .int _, _, _ => by simp only [PyData.hasDict]
  | .str _, _, _ => by simp only [PyData.hasDict]
  | .list ds, _, h => by
    cases h with
    | lst hs ha => simpa only [PyData.hasDict] using dpAll_nodict ds _ ha
  | .tuple ds, _, h => by
    cases h with
    | tup hs ha => simpa only [PyData.hasDict] using dpAll_nodict ds _ ha
  | .dict _, _, h => by cases h
theorem dpAll_nodict {K : PySem.W.Frag} {H : Hp} : ∀ (ds : List PyData) (vs : List V), DpAll K H vs ds → PyData.hasDictAll ds = false
  | [], _, _ => by simp only [PyData.hasDictAll]
  | d :: ds, _, h => by
    cases h with
    | cons h1 h2 => simp only [PyData.hasDictAll, dp_nodict d _ h1, dpAll_nodict ds _ h2, Bool.or_self]
end
/-- the data of a scalar -/
def scalD : V → Option PyData
  | .non => some .none
  | .bl b => some (.bool b)
  | .int i => some (.int i)
  | .str x => some (.str x)
  | _ => none
def keyD : Key → PyData
  | .inl i => .int i
  | .inr x => .str x
/-- a value that shows as data: data without dicts, or a dict of scalars -/
inductive Dq (K : PySem.W.Frag) (H : Hp) : V → PyData → Prop
  | plain {v : V} {d : PyData} : Dp K H v d → Dq K H v d
  | dict {a : Addr} {kvs : List (Key × V)} {es : List (PyData × PyData)} : H a = some (.dK kvs) → kvs.map (fun p => (keyD p.1, scalD p.2)) = es.map (fun p => (p.1, some p.2)) → Dq K H (.ref a) (.dict es)
theorem scal_reads {h : Heap} {v : V} {u : Value} {d : PyData} (e : scalD v = some d) (r : RelV v u) : Reads h u d [] := by
  cases v with
  | non => cases e; cases r; exact .none
  | bl b => cases e; cases r; exact .bool b
  | int i => cases e; obtain ⟨t, rfl⟩ := r; exact .int i t
  | str x => cases e; obtain ⟨t, rfl⟩ := r; exact .str x t
  | byt _ => cases e
  | flt _ => cases e
  | ref _ => cases e
  | ty _ => cases e
theorem key_reads {h : Heap} {k : Key} {u : Value} (e : keyIs k u = true) : Reads h u (keyD k) [] := by
  rcases keyIs_shape e with ⟨i, t, rfl, rfl⟩ | ⟨x, t, rfl, rfl⟩
  · exact .int i t
  · exact .str x t
theorem entries_read {P : Program} {w : World} {h : Heap} : ∀ {ents : List DictEntry} {vs : List (Key × Value)} {kvs : List (Key × V)} {es : List (PyData × PyData)}, Pairs (mixKind P w) ents vs → KV kvs vs →
    kvs.map (fun p => (keyD p.1, scalD p.2)) = es.map (fun p => (p.1, some p.2)) → ReadsAll h (ents.map (·.key)) (es.map (·.1)) [] ∧ ReadsAll h (ents.map (·.val)) (es.map (·.2)) [] := by
  intro ents vs kvs es hp
  induction hp generalizing kvs es with
  | nil =>
    intro hk e
    cases hk
    cases es with
    | nil => exact ⟨.nil, .nil⟩
    | cons _ _ => cases e
  | @cons en kv ents vs hkey hval _ ih =>
    intro hk e
    cases hk with
    | @cons p _ kvs' _ hpq hrest =>
      obtain ⟨ek, ev⟩ := hpq
      cases es with
      | nil => cases e
      | cons q es' =>
        simp only [List.map_cons, List.cons.injEq, Prod.mk.injEq] at e
        obtain ⟨⟨e1, e2⟩, e3⟩ := e
        obtain ⟨r1, r2⟩ := ih hrest e3
        have hkey' : keyIs p.1 en.key = true := by rw [ek]; exact hkey
        have k1 : Reads h en.key q.1 [] := by rw [← e1]; exact key_reads hkey'
        have k2 : Reads h en.val q.2 [] := scal_reads e2 (by rw [hval]; exact ev)
        exact ⟨by simpa using ReadsAll.cons k1 r1, by simpa using ReadsAll.cons k2 r2⟩
theorem dq_reads {X : Cx} {pins : List (Addr × Obj)} {σ : L2.St} {H : Hp} {s : Shared} (I : Inv X pins σ H s) {v : V} {u : Value} {d : PyData} (h : Dq X.K H v d) (r : RelV v u) :
    ∃ as, Reads s.heap u d as ∧ (d.hasDict = true → sysModules ∉ as) := by
  cases h with
  | plain h =>
    obtain ⟨as, q⟩ := Dp.reads I d v u h r
    exact ⟨as, q, fun z => by rw [dp_nodict d v h] at z; cases z⟩
  | @dict a kvs es ha he =>
    have eu : u = Value.ref a := r
    subst eu
    obtain ⟨_, low, vs, hk, o, ents, ep, h1, h2, h3, _, h5, _⟩ := (show ObjOk X.prog X.w H s.heap a (.dK kvs) from I.hok a _ ha)
    obtain ⟨q1, q2⟩ := entries_read (h := s.heap) h5 hk he
    refine ⟨_, Reads.dict h1 h2.1 h3 q1 q2, fun _ hm => ?_⟩
    simp at hm
    rw [← hm] at low
    simp at low
/-- repr(x) of data -/
def rReprD (K : PySem.W.Frag) : List V → Hp → VK → Prop := fun xs H Q => ∃ v d, xs = [v] ∧ Dq K H v d ∧ d.showable = true ∧ d.depth ≤ 60 ∧ d.shown.length ≤ sizeLine ∧ Q (.str d.shown) H
theorem call_reprD {X : Cx} (hgd : X.A.guards = some []) (hu : X.A.units + 64 < cLine) : CallR X (.builtin "repr") (rReprD X.K) := by
  intro pins s σ H xs us Q I r h
  obtain ⟨v, d, rfl, hd, hs, hdep, hlen, q⟩ := h
  obtain ⟨u, rfl, rv⟩ := vals1 r
  obtain ⟨as, hr, hsm⟩ := dq_reads I hd rv
  cases hr with
  | none => exact PySem.P.repr_of_none ⟨.str _, H, I.tok _, ⟨_, rfl⟩, q⟩
  | bool b => exact PySem.P.repr_of_bool ⟨.str _, H, I.tok _, ⟨_, rfl⟩, q⟩
  | int i t => exact PySem.P.repr_of_int (by simpa [PyData.showable] using hs) ⟨.str _, H, I.tok _, ⟨_, rfl⟩, q⟩
  | str x t => exact PySem.P.repr_of_str ⟨.str _, H, I.tok _, ⟨_, rfl⟩, q⟩ (by simpa [PyData.shown] using hlen)
  | list h1 h2 h3 h4 => exact repr_of_reads' (.list h1 h2 h3 h4) hs hsm hgd (by omega) (fun _ _ e => e) (fun h' u tk k => ⟨.str _, H, I.kept k, ⟨_, rfl⟩, q⟩) hlen
  | tuple h1 h2 h3 h4 => exact repr_of_reads' (.tuple h1 h2 h3 h4) hs hsm hgd (by omega) (fun _ _ e => e) (fun h' u tk k => ⟨.str _, H, I.kept k, ⟨_, rfl⟩, q⟩) hlen
  | dict h1 h2 h3 h4 h5 => exact repr_of_reads' (.dict h1 h2 h3 h4 h5) hs hsm hgd (by omega) (fun _ _ e => e) (fun h' u tk k => ⟨.str _, H, I.kept k, ⟨_, rfl⟩, q⟩) hlen
end Lamp
set_option Elab.async false
set_option linter.all false
set_option maxRecDepth 100000
set_option maxHeartbeats 4000000
namespace PySem
namespace LampX
open HandSPX Builtin Builtin.ObjectAttr
/-! an exception class of the program called, with keywords too -/
section
variable {prog : Program} {w : World} {M : Model} {A : Around} {E : Value → Shared → Prop} {R : Result → Shared → Prop} {h : Heap} {g : Array GenState} {d : Drawn} {t : Nat} {os : OsState}
variable {cn cq : Str} {C N : Addr} {bs bm tail : List Value} {hdct : Bool} {sn : List Str} {sub : List Value} {ab : Bool} {col : Option Bool} {dd : Option Addr} {k0 k1 k2 k3 k5 : Option Value} {B newId initId : String} {rest : List Value} {kw : List (Str × Value)}
theorem newChecked (F : ExcBaseFacts B newId initId tail) (hT : ∀ X : String, bm.contains (.type X) = tail.contains (.type X)) {Q : Unit → Shared → Prop}
    (hC : h.get? C = some (excClassObj cn cq C N bs bm hdct sn sub ab col dd k0 k1 k2 k3 k5 newId)) (hq : Q () ⟨h, g, d, t, os⟩) : wpAny M A (checkBuiltinCall newId ⟨.ref C :: rest, kw⟩) Q E ⟨h, g, d, t, os⟩ := by
  have below : (Value.ref C :: bm).contains (.type B) = true := by rw [List.contains_cons, hT, F.hasB, Bool.or_true]
  have plain := F.noStar
  simp only [checkBuiltinCall, F.newKind, F.newSplit, F.newRow]
  repeat (first | refine wpAny_loadPart_at hC ?_ | (refine wpAny_isSubtype_exc hC ?_; rw [below]) | refine wpAny_staticBase_exc hC ?_ | refine wpAny_madeBy_exc hC ?_ | simp only [bne_self_eq_false, Bool.false_eq_true, if_false] | wp_step)
  exact hq
theorem newMade (F : ExcBaseFacts B newId initId tail) (hT : ∀ X : String, bm.contains (.type X) = tail.contains (.type X))
    (hC : h.get? C = some (excClassObj cn cq C N bs bm hdct sn sub ab col dd k0 k1 k2 k3 k5 newId))
    (hq : R (.ok (.ret (.ref (h.objs.size + 1)))) ⟨(h.push (W.kdv_tup rest)).push (excO C h.objs.size), g, d, t, os⟩) (short : rest.length ≤ sizeLine) :
    codeAny (model prog w) A (.builtin newId ⟨.ref C :: rest, kw⟩) R ⟨h, g, d, t, os⟩ := by
  have stops := F.ends
  have isB : (Value.ref C :: bm).contains (.type B) = true := by rw [List.contains_cons, hT, F.hasB, Bool.or_true]
  have notA : (Value.ref C :: bm).contains (.type "AttributeError") = false := by rw [List.contains_cons, hT, F.noAttr] <;> rfl
  have notN : (Value.ref C :: bm).contains (.type "NameError") = false := by rw [List.contains_cons, hT, F.noName] <;> rfl
  refine codeAny_builtinAt F.entry ?_
  unfold Builtin.«BaseException.__new__»
  refine wpAt_bind ?_
  show wpAt _ _ _ (stack >>= _) _ _ _
  refine wpAt_bind (wpAt_stack fun p below => wpAt_of_wpAny ?_)
  wp_walk
  refine wpAt_of_wpAny ?_
  rw [F.owner]
  repeat (first | with_reducible refine wpAny_madeHere_exc F.canon hC ?_ | with_reducible refine wpAny_loadPart_at hC ?_ | (with_reducible refine wpAny_isSubtype_exc hC ?_; first | rw [isB] | rw [notA] | rw [notN]) | wp_step)
  show R _ _
  rw [Heap.size_push]
  exact hq
theorem typeCalled (F : ExcBaseFacts B newId initId tail) (hT : ∀ X : String, bm.contains (.type X) = tail.contains (.type X)) {fI : Addr} {Q : Fin → Shared → Prop}
    (hC : h.get? C = some (excClassObj cn cq C N bs bm hdct sn sub ab col dd k0 k1 k2 k3 k5 newId))
    (hi : W.Looks (model prog w) h (typeLookup (.ref C) "__init__") (some (.ref fI))) (hb : ∀ self, W.Looks (model prog w) h (bindSpecial (.ref fI) self) (.ref fI, [self])) (short : rest.length ≤ sizeLine)
    (hq : codeAny (model prog w) A (.call (.ref fI) ⟨.ref (h.objs.size + 1) :: rest, kw⟩)
      (fun r s' => match r with | .ok (.ret v) => v = .none ∧ Q (.done (.ret (.ref (h.objs.size + 1)))) s' | .ok _ => False | .error e => E e s') ⟨(h.push (W.kdv_tup rest)).push (excO C h.objs.size), g, d, t, os⟩) :
    wpAny (model prog w) A (Builtin.«type.__call__» ⟨.ref C :: rest, kw⟩) Q E ⟨h, g, d, t, os⟩ := by
  repeat (first | with_reducible refine wpAny_loadPart_at hC ?_ | with_reducible refine wpAny_madeBy_exc hC ?_ | wp_step)
  refine codeAny_call_builtin_code (Code.quiet_builtin _ F.quiet) (newChecked F hT hC ?_)
  refine newMade F hT hC ?_ short
  show wpAny _ _ _ _ _ _
  have stays : ∀ b o, h.get? b = some o → ((h.push (W.kdv_tup rest)).push (excO C h.objs.size)).get? b = some o := fun b o e => Heap.get?_push_of_some _ (Heap.get?_push_of_some _ e)
  have classThere := stays _ _ hC
  have newThere : ((h.push (W.kdv_tup rest)).push (excO C h.objs.size)).get? (h.objs.size + 1) = some (excO C h.objs.size) := by heap_get
  have ownClass : (Value.ref C :: bm).contains (.ref C) = true := by simp
  have initLook := hi.keeps stays
  have initBound := (hb (.ref (h.objs.size + 1))).keeps stays
  unfold isInstance
  repeat (first | with_reducible refine wpAny_loadPart_at newThere ?_ | (with_reducible refine wpAny_isSubtype_exc classThere ?_; rw [ownClass]) | wp_step)
  show wpAny _ _ (typeLookup (.ref C) _) _ _ _
  refine initLook.at ?_
  refine wpAny_holding (wpAny_bind (initBound.at ?_))
  refine wpAny_bind (wpAny_call (codeAny_mono hq fun r s' z => ?_))
  rcases r with e | (v | _ | _ | _) <;> first | exact z | exact z.elim | skip
  obtain ⟨rfl, z⟩ := z
  first
    | exact wpAny_pure (wpAny_pure z)
    | (wp_walk; exact z)
theorem typeCallChecked {Q : Unit → Shared → Prop} (hC : h.get? C = some (excClassObj cn cq C N bs bm hdct sn sub ab col dd k0 k1 k2 k3 k5 newId))
    (hq : Q () ⟨h, g, d, t, os⟩) : wpAny M A (checkBuiltinCall "type.__call__" ⟨.ref C :: rest, kw⟩) Q E ⟨h, g, d, t, os⟩ := by
  have isSub := tc_sub
  have isClass : (⟨h, g, d, t, os⟩ : Shared).TypeIs (.ref C) "type" := ⟨_, hC, rfl⟩
  simp only [checkBuiltinCall, tc_kind, tc_split]
  repeat (any_goals (first | assumption | with_reducible refine wpAny_loadPart_at hC ?_ | with_reducible refine wpAny_onRaise ?_ | with_reducible refine wpAny_map ?_ | wp_step))
/-- the class called -/
theorem excCalled (F : ExcBaseFacts B newId initId tail) (hT : ∀ X : String, bm.contains (.type X) = tail.contains (.type X)) {fI : Addr}
    (hC : h.get? C = some (excClassObj cn cq C N bs bm hdct sn sub ab col dd k0 k1 k2 k3 k5 newId))
    (hi : W.Looks (model prog w) h (typeLookup (.ref C) "__init__") (some (.ref fI))) (hb : ∀ self, W.Looks (model prog w) h (bindSpecial (.ref fI) self) (.ref fI, [self])) (short : rest.length ≤ sizeLine)
    (hq : codeAny (model prog w) (A.under (.builtin "type.__call__" ⟨.ref C :: rest, kw⟩)) (.call (.ref fI) ⟨.ref (h.objs.size + 1) :: rest, kw⟩) (W.InitBack (h.objs.size + 1) R) ⟨(h.push (W.kdv_tup rest)).push (excO C h.objs.size), g, d, t, os⟩) :
    codeAny (model prog w) A (.call (.ref C) ⟨rest, kw⟩) R ⟨h, g, d, t, os⟩ := by
  have look := tc_lookup
  have bound := tc_bind (.ref C)
  have isClass : (⟨h, g, d, t, os⟩ : Shared).TypeIs (.ref C) "type" := ⟨_, hC, rfl⟩
  refine codeAny_of_tree ?_
  show wpAny _ _ (callAny (.ref C) _) _ _ _
  repeat (any_goals (first | assumption | with_reducible refine wpAny_loadPart_at hC ?_ | wp_step))
  refine ⟨rfl, ?_⟩
  refine codeAny_call_builtin_at (Code.quiet_builtin _ (by decide +kernel)) entry_typeCall (typeCallChecked hC (typeCalled F hT hC hi hb short ?_))
  refine codeAny_mono hq fun r s' z => ?_
  rcases r with e | (v | _ | _ | _) <;> exact z
end
end LampX
end PySem
set_option Elab.async false
set_option linter.all false
set_option maxRecDepth 100000
set_option maxHeartbeats 4000000
namespace PySem
namespace LampX
open PySem.W Builtin.ObjectAttr
section
variable {prog : Program} {w : World} {A : Around} {s : Shared} {K : Frag} {C : Addr} {B : String} {tail : List Value}
/-- the first field of an exception: its dict is laid -/
theorem firstField {x t : Addr} {name : Str} {tk : Tok} {v : Value} {R : Result → Shared → Prop} (SF : StoreFacts B tail "object.__setattr__" "object") (inK : K.In s.heap) (there : s.heap.get? x = some (excObj C t none .none))
    (over : excOver K C tail = true) (taker : takerIn K C name = some none) (dict : hasDictIn K C = true)
    (hq : ∀ h' tk' dx, (∀ b o, b ≠ x → s.heap.get? b = some o → h'.get? b = some o) → s.heap.objs.size ≤ dx → dx ≠ x → h'.get? x = some (excObj C t (some dx) .none) →
      h'.Ns1 dx (fun y => if y = name then some v else none) → R (.ok (.ret .none)) { s with heap := h', toks := tk' }) :
    codeAny (model prog w) A (.call (.builtin "object.__setattr__") ⟨[.ref x, .str name tk, v], []⟩) R s := by
  have fresh : x ≠ s.heap.objs.size := Nat.ne_of_lt (Heap.lt_size there)
  refine osa_openX (od := none) SF inK ⟨there, rfl, rfl, trivial⟩ over taker fun b => ?_
  obtain ⟨cd, hcd, hdd⟩ := any_some dict
  refine wpAny_bind (wpAny_pure (wpAny_bind (instanceDict_exc there (looks_clsIn inK hcd) hdd ?_)))
  show wpAny _ _ (storeInDict s.heap.objs.size (.str name tk) name v) _ _ _
  have was : (s.heap.push (dictOf [] 0)).get? x = some (excObj C t none .none) := Heap.get?_push_of_some _ there
  refine HandSPX.store_in_new ⟨_, #[], _, (Heap.get?_update_ne _ _ _ _ fresh.symm).trans (Heap.get?_push_at rfl rfl), rfl, fun e he => absurd he (by simp), fun _ => rfl⟩ fun h' tk' named kept => ?_
  refine hq h' tk' s.heap.objs.size (fun b o hb ho => ?_) (Nat.le_refl _) fresh.symm ?_ named
  · exact (kept.2 b (Nat.ne_of_lt (Heap.lt_size ho))).trans ((Heap.get?_update_ne _ _ _ _ hb).trans (Heap.get?_push_of_some _ ho))
  · exact (kept.2 x fresh).trans (Heap.get?_update_self _ was rfl)
end
end LampX
end PySem
namespace Lamp
open PySem PySem.Spec PyProof.Rows L2
/-- what the written part says of an exception class of the program -/
structure EC (K : PySem.W.Frag) (C : Addr) (B newId initId : String) (tail : List Value) : Prop where
  F : ExcBaseFacts B newId initId tail
  S : StoreFacts B tail "object.__setattr__" "object"
  made : PySem.W.excInitIn K C tail newId = true
  over : PySem.W.excOver K C tail = true
  sa : PySem.W.findIn K (.ref C) "__setattr__" = some (some (.builtin "object.__setattr__"))
  ga : PySem.W.findIn K (.ref C) "__getattribute__" = some (some (.builtin "BaseException.__getattribute__"))
  gg : PySem.W.findIn K (.ref C) "__getattr__" = some none
  exC : PySem.W.subIn K (.ref C) (.type "BaseException") = some true
  hd : PySem.W.hasDictIn K C = true
  kp : PySem.W.keepIn K (.ref C) = true
  cls : PySem.W.findIn K (.ref C) "__class__" = some (some (.builtin "object.__class__"))
  obj : PySem.W.mroIn K C (.type "object") = some true
section
variable {X : Cx} {pins : List (Addr × Obj)} {σ : L2.St} {H : Hp} {s : Shared} {a C : Addr} {f : Str} {y : V} {u : Value} {Q : Unit → Shared → Prop} {E : Value → Shared → Prop} {A : Around} {B newId initId : String} {tail : List Value}
theorem store1 (T : EC X.K C B newId initId tail) (I : Inv X pins σ H s) (e : H a = some (exo a C none)) (ht : PySem.W.takerIn X.K C f = some none) (ry : RelV y u)
    (h : ∀ dx s', H dx = none → dx ≠ a → Inv X pins σ (upd (upd H dx (exd dx [(f, y)])) a (exo a C (some dx))) s' → Q () s') : wpAny (model X.prog X.w) A (setAttr (.ref a) f u) Q E s := by
  obtain ⟨t1, there⟩ := exo_at I.hok e
  refine PySem.W.set_plain I.kIn (ox := PySem.W.excObj C t1 none .none) (od := none) ⟨there, rfl, rfl, trivial⟩ T.sa ?_
  refine PySem.LampX.firstField (s := { s with toks := s.toks + 1 }) T.S I.kIn there T.over ht T.hd fun h' tk' dx kept new other now named => ?_
  have free : H dx = none := I.hok.fresh new
  have notNew : ∀ {b : Addr} {o : Obj}, s.heap.get? b = some o → b ≠ dx := fun {b o} q => Nat.ne_of_lt (Nat.lt_of_lt_of_le (Heap.lt_size q) new)
  have notA : ∀ {b : Addr}, H b = none → b ≠ a := fun {b} n z => by rw [z, e] at n; cases n
  have un : Un X.fs [] H (upd (upd H dx (exd dx [(f, y)])) a (exo a C (some dx))) s.heap h' :=
    ⟨fun b o q n _ _ => kept b o (notA n) q, fun b o q n _ _ => ⟨o.slots, kept b o (notA n) q⟩, fun b o q n _ => by rw [upd_ne (notA n), upd_ne (notNew q)]; exact n,
      fun b o q _ => by
        by_cases hb : b = a
        · subst hb; exact ⟨_, now⟩
        · exact ⟨o, kept b o hb q⟩,
      fun b xs q => by rw [upd_ne (at_ne e q exo_tup), upd_ne (ne_of_none q free)]; exact q,
      fun b o v q => by rw [upd_ne (at_ne e q exo_frz), upd_ne (ne_of_none q free)]; exact q,
      fun b ps q => ⟨#[], by rw [upd_ne (at_ne e q exo_tbl), upd_ne (ne_of_none q free), q]; simp⟩⟩
  refine h dx _ free other (I.un (t' := tk') un fun b o q => ?_)
  by_cases hb : b = a
  · subst hb
    rw [upd_same] at q
    cases q
    exact exo_ok now
  · rw [upd_ne hb] at q
    by_cases hbd : b = dx
    · subst hbd
      rw [upd_same] at q
      cases q
      exact exd_ok named (relO_put (fs := []) ry fun g => True.intro)
    · rw [upd_ne hbd] at q
      refine (I.hok b o q).stay (fun c v hc z => kept c v ?_ z) (fun c hc => ?_) fun c xs hc => ?_
      · rcases hc with rfl | hc
        · exact hb
        · exact at_ne e hc exo_own
      · rw [upd_ne (at_ne e hc exo_own), upd_ne (ne_of_none hc free)]; exact hc
      · rw [upd_ne (at_ne e hc exo_tup), upd_ne (ne_of_none hc free)]; exact hc
end
/-- self.f = e in an exception's __init__ -/
def tStore1 (K : PySem.W.Frag) (f : Str) (to te : TE) : TS := fun D σ H => te σ H fun y H1 => to σ H1 fun x H2 => ∃ (a C : Addr), x = .ref a ∧ (∃ (B newId initId : String) (tail : List Value), EC K C B newId initId tail) ∧ PySem.W.takerIn K C f = some none ∧
  H2 a = some (exo a C none) ∧ ∀ dx, H2 dx = none → dx ≠ a → D.nx σ (upd (upd H2 dx (exd dx [(f, y)])) a (exo a C (some dx)))
theorem ps_store1 {X : Cx} {o e : Expr} {to te : TE} {f : Str} {p pos : Pos} (ho : PE X o to) (he : PE X e te) (hs : swapsWith e (some (.Attribute o f p)) pos.line X.env = pure false := by rfl) : PS X (.Assign [.Attribute o f p] e pos) (tStore1 X.K f to te) := by
  refine ⟨fun pins s σ H D I h => plainObj_wpAny_Assign_Attribute (thn (he.run pins s σ H _ I h) fun v s1 ⟨y, H1, I1, r1, q1⟩ => thn (ho.run pins s1 σ H1 _ I1 q1) fun u s2 ⟨x, H2, I2, r2, told⟩ => ?_) hs⟩
  obtain ⟨a, C, ex, ⟨B, newId, initId, tail, T⟩, ht, ea, q⟩ := told
  subst ex
  have eu : u = Value.ref a := r2
  subst eu
  exact store1 T I2 ea ht r1 fun dx s' n ne J => ⟨σ, _, J, q dx n ne⟩
end Lamp
set_option Elab.async false
set_option linter.all false
set_option maxRecDepth 100000
set_option maxHeartbeats 4000000
namespace Lamp
open PySem PySem.Spec PyProof.Rows L2
/-- the promise of an __init__ that keeps its one argument under f -/
def spInit (K : PySem.W.Frag) (C : Addr) (f : Str) : Sp := fun vs H Q _ => ∃ (a : Addr) (y : V), vs = [.ref a, y] ∧ (∃ (B newId initId : String) (tail : List Value), EC K C B newId initId tail) ∧ PySem.W.takerIn K C f = some none ∧ H a = some (exo a C none) ∧
  ∀ dx, H dx = none → dx ≠ a → Q .non (upd (upd H dx (exd dx [(f, y)])) a (exo a C (some dx)))
section
variable {P : Program} {w : World} {K : PySem.W.Frag} {mg : Str → Option Value} {base : Heap}
theorem ok_init {fI C : Addr} {fd : FuncData} {st : Stmt} {qual f : Str} {p1 p2 p3 p4 : Pos} (F : Fun K "__init__" qual st fI fd) (S : FnScope ["self", f] ["self", f] (defScope st))
    (hb : defBody st = [.Assign [.Attribute (.Name "self" p1) f p2] (.Name f p3) p4]) (v0 : (defScope st).names.lookup ("self" : Str) = some NameKind.local) (v1 : (defScope st).names.lookup f = some NameKind.local)
    (d1 : (f == ("__debug__" : Str)) = false) (d2 : (f == ("__classdict__" : Str)) = false) : FnOk P w K mg base CX0 1 fI fd ["self", f] (spInit K C f) := by
  refine F.ok S (fun vs H Q E h => ?_) (fun cdv A outer s H vs Q E hr h => ?_)
  · obtain ⟨a, y, rfl, _⟩ := h
    rfl
  · obtain ⟨a, y, rfl, T, ht, ha, q⟩ := h
    rw [hb]
    refine ⟨_, pss_one (ps_store1 (pv 0 rfl (Or.inl v0)) (pv 1 rfl (Or.inl v1) d1 d2)), ?_⟩
    exact ⟨_, rfl, _, rfl, a, C, rfl, T, ht, ha, q⟩
end
/-- C(e), C(f=e): a new exception with the field f -/
def tMkE (C : Addr) (f : Str) (ta : TE) : TE := fun σ H Q => ta σ H fun y H1 => ∀ a dx, H1 a = none → H1 dx = none → dx ≠ a → Q (.ref a) (upd (upd (upd H1 a (exo a C none)) dx (exd dx [(f, y)])) a (exo a C (some dx)))
section
variable {X : Cx} {C fI : Addr} {fd : FuncData} {f x : Str} {B newId initId : String} {tail : List Value} {p pos kpos : Pos} {e : Expr} {ta : TE}
theorem run_mkE {pins : List (Addr × Obj)} {σ : L2.St} {H : Hp} {s : Shared} {Q : VK} {u : Value} {y : V} {us : List Value} {kw : List (Str × Value)} {k : Nat} (T : EC X.K C B newId initId tail) (iC : PySem.W.findIn X.K (.ref C) "__init__" = some (some (.ref fI))) (tI : PySem.W.typeIn X.K (.ref fI) = some (.type "function"))
    (ht : PySem.W.takerIn X.K C f = some none) (F1 : FnOk X.prog X.w X.K X.mg X.base CX0 k fI fd ["self", f] (spInit X.K C f)) (hr : Room (k + 1) X.A)
    (hb : ∀ (s : Shared) (v : Value), X.K.In s.heap → BindsTo s fd ⟨v :: us, kw⟩ [("self", v), (f, u)]) (I : Inv X pins σ H s) (r : RelV y u) (short : us.length ≤ sizeLine)
    (h : ∀ a dx, H a = none → H dx = none → dx ≠ a → Q (.ref a) (upd (upd (upd H a (exo a C none)) dx (exd dx [(f, y)])) a (exo a C (some dx)))) :
    wpAny (model X.prog X.w) X.A (call (.ref C) us kw) (EP X pins σ Q) X.xe s := by
  obtain ⟨nm, N, qn, bs, bm, hdct, sn, sub, ab, col, dd, k0, k1, k2, k3, k5, hC, hT⟩ := PySem.W.excInit_of I.kIn T.made
  obtain ⟨hp, g, dr, tk, os⟩ := s
  have above : hp.objs.size ≤ hp.objs.size + 1 := Nat.le_succ _
  have new : H (hp.objs.size + 1) = none := I.hok.fresh above
  have kept : ∀ b o, hp.get? b = some o → ((hp.push (PySem.W.kdv_tup us)).push (PySem.HandSPX.excO C hp.objs.size)).get? b = some o := fun b o e => Heap.get?_push_of_some _ (Heap.get?_push_of_some _ e)
  have there : ((hp.push (PySem.W.kdv_tup us)).push (PySem.HandSPX.excO C hp.objs.size)).get? (hp.objs.size + 1) = some (PySem.HandSPX.excO C hp.objs.size) := by heap_get
  have I2 : Inv X pins σ (upd H (hp.objs.size + 1) (exo (hp.objs.size + 1) C none)) ⟨(hp.push (PySem.W.kdv_tup us)).push (PySem.HandSPX.excO C hp.objs.size), g, dr, tk, os⟩ :=
    I.laid (t' := tk) (a := hp.objs.size + 1) (o := exo (hp.objs.size + 1) C none) (h' := (hp.push (PySem.W.kdv_tup us)).push (PySem.HandSPX.excO C hp.objs.size)) kept above (exo_ok there)
  have asked : spInit X.K C f [.ref (hp.objs.size + 1), y] (upd H (hp.objs.size + 1) (exo (hp.objs.size + 1) C none)) (fun v H2 => v = .non ∧ Q (.ref (hp.objs.size + 1)) H2) E0 :=
    ⟨_, y, rfl, ⟨B, newId, initId, tail, T⟩, ht, upd_same, fun dx hn ne => ⟨rfl, h _ dx new (by rw [upd_ne ne] at hn; exact hn) ne⟩⟩
  refine wpAny_call (PySem.LampX.excCalled T.F hT hC (PySem.W.looks_findIn I.kIn iC) (fun self => PySem.W.bind_fn I.kIn self tI) short
    (codeAny_mono (F1.run _ X.stack _ _ ⟨Value.ref (hp.objs.size + 1) :: us, kw⟩ [Value.ref (hp.objs.size + 1), u] _ _ E0 ?rm ?ev (hb _ _ I2.kIn) (.cons (show RelV (V.ref _) (Value.ref _) from rfl) (.cons r .nil)) asked) fun res s' told => ?_))
  case rm => exact hr.make C us kw
  case ev => exact I2.env0.make C us kw
  match res, told with
  | .error _, told => exact False.elim told
  | .ok .next, told => exact False.elim told
  | .ok .brk, told => exact False.elim told
  | .ok .cont, told => exact False.elim told
  | .ok (.ret v), told =>
    obtain ⟨z, H', I3, rv, ez, q3⟩ := I2.after told
    subst ez
    exact ⟨rv, ⟨V.ref (hp.objs.size + 1), H', I3, rfl, q3⟩⟩
theorem pe_mkE {k : Nat} (T : EC X.K C B newId initId tail) (iC : PySem.W.findIn X.K (.ref C) "__init__" = some (some (.ref fI))) (tI : PySem.W.typeIn X.K (.ref fI) = some (.type "function")) (ht : PySem.W.takerIn X.K C f = some none)
    (F1 : FnOk X.prog X.w X.K X.mg X.base CX0 k fI fd ["self", f] (spInit X.K C f)) (hr : Room (k + 1) X.A) (hb : ∀ (s : Shared) (v u : Value), X.K.In s.heap → BindsTo s fd ⟨[v, u], []⟩ [("self", v), (f, u)]) (hg : Gl X x) (hm : X.mg x = some (.ref C))
    (ha : PE X e ta) (hs : starEach [e] X.env = (false, eval e X.env) :: starEach [] X.env := by rfl) (hdb : (x == ("__debug__" : Str)) = false := by decide) : PE X (.Call (.Name x p) [e] [] pos) (tMkE C f ta) := by
  refine ⟨fun pins s σ H Q I h => wpAny_Call_Name_kw (ld_glob I hg hm (PySem.W.callWith_K (h₀ := X.base) I.ok.mod.kin T.kp ?_ hs (by rfl)) hdb)⟩
  rw [hs]
  show wpAny _ _ (spliced ((false, eval e X.env) :: backTo pos (starEach [] X.env))) _ _ s
  refine Calls.spliced_cons (thn (ha.run pins s σ H _ I h) fun u s1 ⟨y, H1, I1, r1, q1⟩ => Calls.spliced_nil ⟨I1.kIn, ?_⟩)
  exact run_mkE (us := [u]) (kw := []) T iC tI ht F1 hr (fun s v hk => hb s v u hk) I1 r1 (by show 1 ≤ sizeLine; decide) q1
/-- the same with keywords: their values, one -/
def tMkK (C : Addr) (f : Str) (tk : TA) : TE := fun σ H Q => tk σ H fun zs H1 => ∃ y, zs = [y] ∧ ∀ a dx, H1 a = none → H1 dx = none → dx ≠ a → Q (.ref a) (upd (upd (upd H1 a (exo a C none)) dx (exd dx [(f, y)])) a (exo a C (some dx)))
theorem pe_mkK {k : Nat} {kws : List Keyword} {tk : TA} (T : EC X.K C B newId initId tail) (iC : PySem.W.findIn X.K (.ref C) "__init__" = some (some (.ref fI))) (tI : PySem.W.typeIn X.K (.ref fI) = some (.type "function")) (ht : PySem.W.takerIn X.K C f = some none)
    (F1 : FnOk X.prog X.w X.K X.mg X.base CX0 k fI fd ["self", f] (spInit X.K C f)) (hr : Room (k + 1) X.A) (hb : ∀ (s : Shared) (v u : Value), X.K.In s.heap → BindsTo s fd ⟨[v], [(f, u)]⟩ [("self", v), (f, u)]) (hg : Gl X x) (hm : X.mg x = some (.ref C))
    (hkw : PK X kws tk) (hall : (backToKw pos (keywordEach kws X.env)).all (·.1.isSome) = true := by rfl) (hks : (backToKw pos (keywordEach kws X.env)).filterMap (·.1) = [f] := by rfl) (hdb : (x == ("__debug__" : Str)) = false := by decide)
    (hpl : ((backTo pos (starEach [] X.env)).any (·.1) || (backToKw pos (keywordEach kws X.env)).any (·.1.isNone)) = false := by rfl) : PE X (.Call (.Name x p) [] kws pos) (tMkK C f tk) := by
  refine ⟨fun pins s σ H Q I h => ?_⟩
  refine wpAny_Call_Name_kw (ld_glob I hg hm ?_ hdb)
  refine PySem.W.callWith_KW0 (h₀ := X.base) I.ok.mod.kin T.kp hall (thn (hkw.run pos pins s σ H _ I h) fun ws s2 told => ?_) hpl
  obtain ⟨zs, H2, I2, rz, y, ez, q2⟩ := told
  subst ez
  rw [hks]
  cases rz with
  | @cons _ u _ us r rest =>
    cases rest
    exact ⟨I2.kIn, run_mkE (us := []) (kw := [(f, u)]) T iC tI ht F1 hr (fun s v hk => hb s v u hk) I2 r (Nat.zero_le _) q2⟩
end
/-- C() where the program gives no __init__: a new exception -/
theorem pe_mk0 {X : Cx} {C : Addr} {x : Str} {B newId initId : String} {tail : List Value} {p pos : Pos} (F : ExcBaseFacts B newId initId tail) (q : PySem.W.excIn X.K C tail newId = true) (gC : X.mg x = some (.ref C)) (kC : PySem.W.keepIn X.K (.ref C) = true) (hg : Gl X x)
    (hdb : (x == ("__debug__" : Str)) = false := by decide) : PE X (.Call (.Name x p) [] [] pos) (fun _ H Q => ∀ a, H a = none → Q (.ref a) (upd H a (exo a C none))) := by
  refine ⟨fun pins s σ H Q I h => wpAny_Call_Name_kw (ld_glob I hg gC (PySem.W.callWith_K0 I.kIn kC ?_) hdb)⟩
  show wpAny _ _ (call (.ref C) []) _ _ _
  obtain ⟨bm, N, nm, qn, bs, hdct, sn, sub, ab, col, dd, k0, k1, k2, k3, k5, mN, hC, hN, hni, T⟩ := exc_obj I.kIn q
  obtain ⟨hp, g, dr, tk, os⟩ := s
  refine wpAny_call_exc_subT F T hC hN hni (fun h' a hm => ?_) (by show 0 ≤ sizeLine; exact Nat.zero_le _)
  have new : H a = none := I.hok.gone hm.new
  obtain ⟨t, there, _, _⟩ := hm.there
  exact ⟨.ref a, upd H a (exo a C none), I.laidN (t' := tk) hm.keeps hm.new new (exo_ok there), rfl, h a new⟩
end Lamp
set_option Elab.async false
set_option linter.all false
set_option maxRecDepth 100000
set_option maxHeartbeats 1000000
namespace Lamp
open PySem PySem.Spec PyProof.Rows L2
/-- an exception of the class at C stands at a -/
def XAt (H : Hp) (a C : Addr) : Prop := H a = some (exo a C none) ∨ ∃ dx fs, H a = some (exo a C (some dx)) ∧ H dx = some (exd dx fs)
/-- .. with its fields -/
def XFld (H : Hp) (a C : Addr) (f : Str) (y : V) : Prop := ∃ dx, H a = some (exo a C (some dx)) ∧ H dx = some (exd dx [(f, y)])
theorem XFld.at {H : Hp} {a C : Addr} {f : Str} {y : V} (h : XFld H a C f y) : XAt H a C := by
  obtain ⟨dx, h1, h2⟩ := h
  exact .inr ⟨dx, _, h1, h2⟩
theorem XFld.same {H H' : Hp} {a C : Addr} {f : Str} {y : V} (h : XFld H a C f y) (s : Same H H') : XFld H' a C f y := by
  obtain ⟨dx, h1, h2⟩ := h
  exact ⟨dx, s _ _ h1, s _ _ h2⟩
theorem XAt.same {H H' : Hp} {a C : Addr} (h : XAt H a C) (s : Same H H') : XAt H' a C := by
  rcases h with h | ⟨dx, fs, h1, h2⟩
  · exact .inl (s _ _ h)
  · exact .inr ⟨dx, fs, s _ _ h1, s _ _ h2⟩
theorem xat_inst {X : Cx} {pins : List (Addr × Obj)} {σ : L2.St} {H : Hp} {s : Shared} {a C : Addr} (I : Inv X pins σ H s) (h : XAt H a C) : ∃ ox od, PySem.W.InstAt s.heap a ox C od := by
  rcases h with h | ⟨dx, fs, h1, h2⟩
  · obtain ⟨t, there⟩ := exo_at I.hok h
    exact ⟨_, none, there, rfl, rfl, trivial⟩
  · obtain ⟨t, there⟩ := exo_at I.hok h1
    obtain ⟨mA, ⟨o, _, _, ho, _⟩, _⟩ := exd_at I.hok h2
    exact ⟨_, some o, there, rfl, rfl, ho⟩
/-- what is asked of object's own __class__ -/
structure ClsG (K : PySem.W.Frag) : Prop where
  get : PySem.W.specialIn K (.builtin "object.__class__") "__get__" = some (some (.builtin "getset_descriptor.__get__"))
  tak : PySem.W.takesIn K (.builtin "object.__class__") = some true
/-- isinstance(e, c), e an exception of the program -/
def rIsX (K : PySem.W.Frag) : List V → Hp → VK → Prop := fun xs H Q => ∃ (a C : Addr) (c : V) (u : Value) (b : Bool), xs = [.ref a, c] ∧ XAt H a C ∧ (∃ (B newId initId : String) (tail : List Value), EC K C B newId initId tail) ∧ ClsV c u ∧ PySem.W.kitOne K (.ref C) u = some b ∧ Q (.bl b) H
theorem call_isX {X : Cx} (G : ClsG X.K) : CallR X (.builtin "isinstance") (rIsX X.K) := by
  intro pins s σ H xs us Q I r h
  obtain ⟨a, C, c, cv, b, rfl, hx, ⟨B, newId, initId, tail, T⟩, hc, hk, q⟩ := h
  obtain ⟨u1, u2, rfl, r1, r2⟩ := vals2 r
  have e1 : u1 = Value.ref a := r1
  subst e1
  have e2 := hc.eq r2
  subst e2
  obtain ⟨ox, od, J⟩ := xat_inst I hx
  have isCls : (PySem.W.clsIn X.K C).isSome = true := by
    obtain ⟨cd, hcd, _⟩ := PySem.W.any_some T.hd
    rw [hcd]
    rfl
  exact PySem.W.kia_one (PySem.W.kitx_exc isCls T.ga T.gg T.exC T.cls G.get G.tak T.obj) I.kIn J hk (fun z => nomatch z) fun tk => ⟨.bl b, H, I.tok tk, rfl, q⟩
/-- e.f -/
def tXFld (K : PySem.W.Frag) (f : Str) (te : TE) : TE := fun σ H Q => te σ H fun x H1 => ∃ (a C : Addr) (y : V), x = .ref a ∧ XFld H1 a C f y ∧ (∃ (B newId initId : String) (tail : List Value), EC K C B newId initId tail) ∧ PySem.W.findIn K (.ref C) f = some none ∧ Q y H1
theorem pe_xfld {X : Cx} {e : Expr} {te : TE} {pos : Pos} {f : Str} (he : PE X e te) (hb : attributeBase e f X.env (eval e X.env) = eval e X.env := by rfl) : PE X (.Attribute e f pos) (tXFld X.K f te) := by
  refine ⟨fun pins s σ H Q I h => attr_of hb (thn (he.run pins s σ H _ I h) fun u s1 ⟨x, H1, I1, r1, told⟩ => ?_)⟩
  obtain ⟨a, C, y, ex, ⟨dx, h1, h2⟩, ⟨B, newId, initId, tail, T⟩, hno, q⟩ := told
  subst ex
  have eu : u = Value.ref a := r1
  subst eu
  obtain ⟨t, there⟩ := exo_at I1.hok h1
  obtain ⟨mA, named, rel⟩ := exd_at I1.hok h2
  obtain ⟨od, hod, look⟩ := lookIn_ns named
  have rf := rel f
  rw [lookup_put, if_pos rfl] at rf
  obtain ⟨v, hv, rv⟩ := RelO.some_of (v := y) (o := mA f) rf
  have J : PySem.W.InstAt s1.heap a _ C (some od) := ⟨there, rfl, rfl, hod⟩
  exact HandSPX.exc_get I1.kIn J T.ga T.gg T.exC (PySem.W.findObj_own T.hd hno rfl (by rw [look, hv])) (handed_of rv) ⟨y, H1, I1.tok _, rv, q⟩
end Lamp
set_option Elab.async false
set_option linter.all false
set_option maxRecDepth 100000
set_option maxHeartbeats 1000000
namespace Lamp
open PySem PySem.Spec PyProof.Rows L2
theorem same_of {q : Addr} {H : Hp} {o : HO} (h : H q = none) : Same H (upd H q o) := fun b u e => by rw [upd_ne (ne_of_none e h)]; exact e
theorem same_seqT {K : PySem.W.Frag} {H H' : Hp} {a : Addr} {xs : List V} (e : Same H H') (h : SqT K H a xs) : SqT K H' a xs := by
  rcases h with (h | ⟨o, h⟩) | h
  · exact .inl (.inl (e _ _ h))
  · exact .inl (.inr ⟨o, e _ _ h⟩)
  · exact .inr h
mutual
theorem dp_same {K : PySem.W.Frag} {H H' : Hp} (e : Same H H') : ∀ (d : PyData) (v : V), Dp K H v d → Dp K H' v d
  | .none, _, h => by cases h; exact .non
  | .bool _, _, h => by cases h; exact .bl _
  | .int _, _, h => by cases h; exact .int _
  | .str _, _, h => by cases h; exact .str _
  | .list ds, _, h => by
    cases h with
    | lst hs ha => exact .lst (e.seq hs) (dpAll_same e ds _ ha)
  | .tuple ds, _, h => by
    cases h with
    | tup hs ha => exact .tup (same_seqT e hs) (dpAll_same e ds _ ha)
  | .dict _, _, h => by cases h
theorem dpAll_same {K : PySem.W.Frag} {H H' : Hp} (e : Same H H') : ∀ (ds : List PyData) (vs : List V), DpAll K H vs ds → DpAll K H' vs ds
  | [], _, h => by cases h; exact .nil
  | d :: ds, _, h => by
    cases h with
    | cons h1 h2 => exact .cons (dp_same e d _ h1) (dpAll_same e ds _ h2)
end
theorem dq_same {K : PySem.W.Frag} {H H' : Hp} (e : Same H H') {d : PyData} {v : V} (h : Dq K H v d) : Dq K H' v d := by
  cases h with
  | plain h => exact .plain (dp_same e d v h)
  | dict h1 h2 => exact .dict (e _ _ h1) h2
theorem dpAll_len {K : PySem.W.Frag} {H : Hp} : ∀ {ds : List PyData} {vs : List V}, DpAll K H vs ds → vs.length = ds.length
  | [], _, h => by cases h; rfl
  | d :: ds, _, h => by
    cases h with
    | cons h1 h2 => rw [List.length_cons, List.length_cons, dpAll_len h2]
/-! the drawing list, and all else -/
/-- at p: the drawing list of a case -/
def Pail (H : Hp) (p : Addr) : Prop := ∃ x y z : Int, H p = some (.lst [.int x, .int y, .int z]) ∧ 0 ≤ x ∧ 0 ≤ y ∧ y < 2147483648
/-- all but p stands as it stood -/
def But (p : Addr) (H H' : Hp) : Prop := ∀ b o, b ≠ p → H b = some o → H' b = some o
theorem But.refl (p : Addr) (H : Hp) : But p H H := fun _ _ _ h => h
theorem But.trans {p : Addr} {H H1 H2 : Hp} (a : But p H H1) (b : But p H1 H2) : But p H H2 := fun c o n h => b c o n (a c o n h)
theorem But.of {p : Addr} {H H1 : Hp} (a : Same H H1) : But p H H1 := fun b o _ h => a b o h
theorem But.at {p : Addr} {H : Hp} {o : HO} : But p H (upd H p o) := fun b u n h => by rw [upd_ne n]; exact h
theorem But.new {p q : Addr} {H : Hp} {o : HO} (h : H q = none) : But p H (upd H q o) := fun b u _ e => by
  rw [upd_ne (ne_of_none e h)]
  exact e
theorem Pail.same {H H' : Hp} {p : Addr} (h : Pail H p) (s : Same H H') : Pail H' p := by
  obtain ⟨x, y, z, e, r⟩ := h
  exact ⟨x, y, z, s _ _ e, r⟩
theorem Pail.ne {H : Hp} {p q : Addr} (h : Pail H p) (e : H q = none) : q ≠ p := by
  obtain ⟨x, y, z, hp, _⟩ := h
  intro z
  rw [z, hp] at e
  cases e
theorem But.del {p : Addr} {H H' : Hp} (b : But p H H') : Same (delH H p) (delH H' p) := fun a o h => by
  by_cases e : a = p
  · rw [e, delH_same] at h; cases h
  · rw [delH_ne e] at h ⊢
    exact b a o e h
theorem del_sub {p : Addr} {H : Hp} : Same (delH H p) H := fun a o h => by
  by_cases e : a = p
  · rw [e, delH_same] at h; cases h
  · rw [delH_ne e] at h
    exact h
/-! data made, beside the drawing list at p -/
section
variable (K : PySem.W.Frag) (p : Addr)
def EvP (te : TE) (d : PyData) : Prop := ∀ (σ : L2.St) (H : Hp), Pail H p → ∀ Q : VK, (∀ v H', Same H H' → Dp K (delH H' p) v d → Q v H') → te σ H Q
def EvPs (ta : TA) (ds : List PyData) : Prop := ∀ (σ : L2.St) (H : Hp), Pail H p → ∀ Q : List V → Hp → Prop, (∀ vs H', Same H H' → DpAll K (delH H' p) vs ds → Q vs H') → ta σ H Q
def EvQ (te : TE) (d : PyData) : Prop := ∀ (σ : L2.St) (H : Hp), Pail H p → ∀ Q : VK, (∀ v H', Same H H' → Dq K (delH H' p) v d → Q v H') → te σ H Q
def EvQs (ta : TA) (ds : List PyData) : Prop := ∀ (σ : L2.St) (H : Hp), Pail H p → ∀ Q : List V → Hp → Prop, (∀ vs H', Same H H' → Paired (Dq K (delH H' p)) vs ds → Q vs H') → ta σ H Q
end
section
variable {K : PySem.W.Frag} {p : Addr} {te : TE} {ta : TA} {d : PyData} {ds : List PyData}
theorem evp_non : EvP K p (tC .non) .none := fun σ H _ Q q => q _ H (Same.refl H) .non
theorem evp_bl {b : Bool} : EvP K p (tC (.bl b)) (.bool b) := fun σ H _ Q q => q _ H (Same.refl H) (.bl b)
theorem evp_int {i : Int} : EvP K p (tC (.int i)) (.int i) := fun σ H _ Q q => q _ H (Same.refl H) (.int i)
theorem evp_str {x : Str} : EvP K p (tC (.str x)) (.str x) := fun σ H _ Q q => q _ H (Same.refl H) (.str x)
theorem evp_neg {i : Int} (h : EvP K p te (.int i)) : EvP K p (tUn (rU fun i => .int (-i)) te) (.int (-i)) := fun σ H hp Q q => h σ H hp _ fun v H' s hd => by
  cases hd
  exact ⟨i, rfl, q _ H' s (.int _)⟩
theorem evp_pow {i j : Int} (hc : CPow i j) : EvP K p (tOp (rI CPow fun i j => .int (i ^ j.toNat)) (tC (.int i)) (tC (.int j))) (.int (i ^ j.toNat)) := fun σ H hp Q q => ⟨i, j, rfl, rfl, hc, q _ H (Same.refl H) (.int _)⟩
theorem evps_nil : EvPs K p tNil [] := fun σ H _ Q q => q _ H (Same.refl H) .nil
theorem evps_cons (h1 : EvP K p te d) (h2 : EvPs K p ta ds) : EvPs K p (tCons te ta) (d :: ds) := fun σ H hp Q q => h1 σ H hp _ fun v H1 s1 d1 => h2 σ H1 (hp.same s1) _ fun vs H2 s2 d2 =>
  q _ H2 (s1.trans s2) (.cons (dp_same (But.of s2).del d v d1) d2)
theorem evp_tup (h : EvPs K p ta ds) (hl : ds.length ≤ 100) : EvP K p (tTup ta) (.tuple ds) := fun σ H hp Q q => h σ H hp _ fun vs H1 s1 d1 => by
  have hlen := dpAll_len d1
  refine ⟨Nat.le_of_lt (small1000 (by omega)), fun r hr => ?_⟩
  have ne := (hp.same s1).ne hr
  have s2 : Same H1 (upd H1 r (.tup vs)) := same_of hr
  exact q _ _ (s1.trans s2) (.tup (.inl (.inl (by rw [delH_ne ne, upd_same]))) (dpAll_same (But.of s2).del ds vs d1))
theorem evp_lst (h : EvPs K p ta ds) (hl : ds.length ≤ 100) : EvP K p (tLst ta) (.list ds) := fun σ H hp Q q => h σ H hp _ fun vs H1 s1 d1 => by
  have hlen := dpAll_len d1
  refine ⟨Nat.le_of_lt (small1000 (by omega)), fun r hr => ?_⟩
  have ne := (hp.same s1).ne hr
  have s2 : Same H1 (upd H1 r (.lst vs)) := same_of hr
  exact q _ _ (s1.trans s2) (.lst (.inl (.inl (by rw [delH_ne ne, upd_same]))) (dpAll_same (But.of s2).del ds vs d1))
theorem evq_of (h : EvP K p te d) : EvQ K p te d := fun σ H hp Q q => h σ H hp Q fun v H' s hd => q v H' s (.plain hd)
theorem evq_d0 : EvQ K p tDNewK (.dict []) := fun σ H hp Q q r hr => q _ _ (same_of hr) (.dict (kvs := []) (by rw [delH_ne (hp.ne hr), upd_same]) rfl)
theorem evq_d1 {k : Str} {i : Int} : EvQ K p (tDisp [(tC (.str k), tC (.int i))]) (.dict [(.str k, .int i)]) := fun σ H hp Q q r hr => by
  refine ⟨upd_same, [(Sum.inr k, V.int i)], rfl, (by show 1 ≤ 15; decide), q _ _ (fun b o e => ?_) (.dict (kvs := [(Sum.inr k, V.int i)]) ?_ rfl)⟩
  · rw [upd_ne (ne_of_none e hr), upd_ne (ne_of_none e hr)]; exact e
  · rw [delH_ne (hp.ne hr), upd_same]
    rfl
theorem evqs_nil : EvQs K p tNil [] := fun σ H _ Q q => q _ H (Same.refl H) .nil
theorem paired_same {H H' : Hp} (e : Same H H') {vs : List V} {ds : List PyData} (h : Paired (Dq K H) vs ds) : Paired (Dq K H') vs ds := L2.Paired.mapP h fun _ _ x => dq_same e x
theorem evqs_cons (h1 : EvQ K p te d) (h2 : EvQs K p ta ds) : EvQs K p (tCons te ta) (d :: ds) := fun σ H hp Q q => h1 σ H hp _ fun v H1 s1 d1 => h2 σ H1 (hp.same s1) _ fun vs H2 s2 d2 =>
  q _ H2 (s1.trans s2) (.cons (dq_same (But.of s2).del d1) d2)
theorem paired_app {α β : Type} {R : α → β → Prop} : ∀ {xs ys : List α} {us ws : List β}, Paired R xs us → Paired R ys ws → Paired R (xs ++ ys) (us ++ ws)
  | _, _, _, _, .nil, s => s
  | _, _, _, _, .cons r t, s => .cons r (paired_app t s)
theorem paired_mem {α β : Type} {R : α → β → Prop} : ∀ {xs : List α} {us : List β} {x : α}, Paired R xs us → x ∈ xs → ∃ u, u ∈ us ∧ R x u
  | _, _, _, .nil, h => by cases h
  | _, _, _, .cons r t, h => by
    rcases List.mem_cons.mp h with e | e
    · subst e; exact ⟨_, List.mem_cons_self .., r⟩
    · obtain ⟨u, h1, h2⟩ := paired_mem t e
      exact ⟨u, List.mem_cons_of_mem _ h1, h2⟩
end
/-- what repr shows of it fits -/
def okD (d : PyData) : Bool := d.showable && decide (d.depth ≤ 60) && decide (d.shown.length ≤ sizeLine)
theorem okD_of {d : PyData} (h : okD d = true) : d.showable = true ∧ d.depth ≤ 60 ∧ d.shown.length ≤ sizeLine := by
  unfold okD at h
  simp only [Bool.and_eq_true, decide_eq_true_eq] at h
  exact ⟨h.1.1, h.1.2, h.2⟩
end Lamp
set_option Elab.async false
set_option linter.all false
set_option maxRecDepth 100000
namespace Lamp
open PySem PySem.Spec PyProof.Rows L2
def top (i : Nat) : Stmt := PySem.Challenge.pw_lamprounds_k05_whole_texts_judged.main.body.getD i (.Pass ⟨0, 0, 0, 0⟩)
abbrev sBegun : Stmt := top 24
abbrev sCast : Stmt := top 25
abbrev sAny : Stmt := top 26

def spBegun (K : PySem.W.Frag) : Sp := fun vs H Q _ => ∃ (a : Addr) (ns : List Int) (t : Int), vs = [.ref a, .int t] ∧ SqL K H a (ns.map V.int) ∧ ns.length ≤ 63 ∧ (∀ z ∈ ns, Builtin.Int.intBits z ≤ 1048576) ∧ 0 ≤ t ∧ t ≤ 100 ∧
  ∀ H' p, Same H H' → H p = none → Pail H' p → Q (.ref p) H'
def spCast : Sp := fun vs H Q _ => ∃ (p : Addr) (m : Int), vs = [.ref p, .int m] ∧ 0 < m ∧ m < 1073741824 ∧ Pail H p ∧ ∀ (r : Int) H', 0 ≤ r → r < m → Pail H' p → But p H H' → Q (.int r) H'

theorem ints_at {ns : List Int} {i : Nat} {y : V} (h : (ns.map V.int)[i]? = some y) : ∃ z, ns[i]? = some z ∧ y = .int z := by
  rw [List.getElem?_map] at h
  cases e : ns[i]? with
  | none => rw [e] at h; cases h
  | some z => rw [e] at h; exact ⟨z, rfl, (Option.some.inj h).symm⟩

theorem cut_ints (ns : List Int) (lo hi : Option Int) : ∃ ms : List Int, cutV (ns.map V.int) lo hi = ms.map V.int := by
  unfold cutV
  exact ⟨_, by rw [← List.map_drop, ← List.map_take]⟩
/-! reading a term without allocation -/
section
variable {σ : L2.St} {H : Hp} {K : PySem.W.Frag} {ta tb : TE} {i j : Int} {x y z : V}
theorem lv_I0 {g : Int → Int → V} : ∀ Q : VK, Q (g i j) H → rI0 g (.int i) (.int j) H Q := fun _ q => ⟨i, j, rfl, rfl, q⟩
theorem lv_I {C : Int → Int → Prop} {g : Int → Int → V} (h : C i j) : ∀ Q : VK, Q (g i j) H → rI C g (.int i) (.int j) H Q := fun _ q => ⟨i, j, rfl, rfl, h, q⟩
theorem lv_ix {p : Addr} {xs : List V} (h : H p = some (.lst xs)) (e : atI xs i = some z) : ∀ Q : VK, Q z H → rIxL K (.ref p) (.int i) H Q := fun _ q => ⟨p, xs, i, z, rfl, rfl, SqL.of h, e, q⟩
theorem lv_int (h : Val ta σ H (.int i)) : Val (tCB (fun xs H Q => (∃ i, xs = [.int i] ∧ Q (.int i) H) ∨ ∃ k, xs = [.bl k] ∧ Q (.int (if k then 1 else 0)) H) (tCons ta tNil)) σ H (.int i) := fun Q q => h _ (Or.inl ⟨i, rfl, q⟩)
theorem lv_ixS {p : Addr} {xs : List V} (h : SqL K H p xs) (e : atI xs i = some z) : ∀ Q : VK, Q z H → rIxL K (.ref p) (.int i) H Q := fun _ q => ⟨p, xs, i, z, rfl, rfl, h, e, q⟩
theorem lv_if {t : TT} {b : Bool} (h : Ans t σ H b) (h1 : b = true → Val ta σ H x) (h2 : b = false → Val tb σ H x) : Val (tIf t ta tb) σ H x := by
  intro Q q
  refine h _ ?_
  cases b with
  | true => exact h1 rfl Q q
  | false => exact h2 rfl Q q
theorem lv_len {p : Addr} {ys : List V} (h : Val ta σ H (.ref p)) (hs : SqL K H p ys) : Val (tCB (fun xs H Q => ∃ p ys, xs = [.ref p] ∧ (SqL K H p ys ∨ SqT K H p ys) ∧ Q (.int ys.length) H) (tCons ta tNil)) σ H (.int ys.length) :=
  fun Q q => h _ ⟨p, ys, rfl, .inl hs, q⟩
theorem lv_abs (h : Val ta σ H (.int i)) : Val (tCB (fun xs H Q => ∃ i, xs = [.int i] ∧ Q (.int (if i < 0 then -i else i)) H) (tCons ta tNil)) σ H (.int (if i < 0 then -i else i)) := fun Q q => h _ ⟨i, rfl, q⟩
theorem lv_lst3 {tc : TE} {D : Ends} (h1 : Val ta σ H x) (h2 : Val tb σ H y) (h3 : Val tc σ H z) (q : ∀ p, H p = none → D.rt (.ref p) (upd H p (.lst [x, y, z]))) : tRet (tLst (tCons ta (tCons tb (tCons tc tNil)))) D σ H :=
  h1 _ (h2 _ (h3 _ ⟨by show 3 ≤ sizeLine; decide, q⟩))
theorem lv_op1 {r : R2} (ha : Val ta σ H x) (hb : Val tb σ H y) (hr : ∀ Q : VK, Q z H → r x y H Q) : Val (tOp r ta tb) σ H z := val_op ha hb hr
end
section
variable {σ : L2.St} {H : Hp} {D : Ends} {te ta tb : TE} {t1 t2 t3 : TS} {c : TT} {v : V} {i : Nat}
theorem sq_no (h : Ans c σ H false) (q : t2 D σ H) : tSeq (tIfS c t1 tNext) t2 D σ H := st_seq (st_no h q)
theorem sq_yes (h : Ans c σ H true) (q : t1 { D with nx := t2 D } σ H) : tSeq (tIfS c t1 t3) t2 D σ H := st_seq (st_yes h q)
theorem sq_set (h : Val te σ H v) (q : t2 D (σ.set i (some v)) H) : tSeq (tAsg te (gName i)) t2 D σ H := st_seq (st_set h q)
theorem sq_setL {p : Addr} {xs : List V} {k : Int} {j : Nat} (h : Val te σ H v) (ha : Val ta σ H (.ref p)) (hb : Val tb σ H (.int k)) (hp : H p = some (.lst xs)) (hj : ixN xs.length k = some j)
    (q : t2 D σ (upd H p (.lst (xs.set j v)))) : tSeq (tAsg te (gSub ta tb rSetL)) t2 D σ H := h _ (ha _ (hb _ ⟨p, xs, k, j, rfl, rfl, hp, hj, q⟩))
theorem sq_for {K : PySem.W.Frag} {g : TG} (P : Addr → Hp → Prop) (h : ∀ Q : VK, (∀ a H1, P a H1 → Q (.ref a) H1) → te σ H Q)
    (k : ∀ a H1, P a H1 → ∃ (xs : List V) (Pv : Nat → L2.St → Hp → Prop), SqL K H1 a xs ∧ Pv 0 σ H1 ∧ (∀ i σ H, i ≤ xs.length → Pv i σ H → SqL K H a xs) ∧ (∀ i x σ H, xs[i]? = some x → Pv i σ H → g x σ H fun σ2 H2 => t1 { D with nx := Pv (i + 1), ct := Pv (i + 1), bk := t2 D } σ2 H2) ∧ ∀ σ H, Pv xs.length σ H → t2 D σ H) :
    tSeq (tFor (iList K te) g t1) t2 D σ H := h _ fun a H1 p => by
  obtain ⟨xs, Pv, h1, h2, h3, h4, h5⟩ := k a H1 p
  exact ⟨a, rfl, ⟨xs, h1⟩, for_list (D := { D with nx := t2 D }) Pv h2 h3 h4 h5⟩
theorem an_gt {x y : Int} {b : Bool} (ha : Val ta σ H (.int x)) (hb : Val tb σ H (.int y)) (e : decide (y < x) = b) : Ans (tTest (tOp (rI0 fun i j => .bl (decide (j < i))) ta tb)) σ H b :=
  ans_cmp ha hb fun Q q => ⟨x, y, rfl, rfl, (show Q (.bl (decide (y < x))) H by rw [e]; exact q)⟩
theorem an_lt {x y : Int} {b : Bool} (ha : Val ta σ H (.int x)) (hb : Val tb σ H (.int y)) (e : decide (x < y) = b) : Ans (tTest (tOp (rI0 fun i j => .bl (decide (i < j))) ta tb)) σ H b :=
  ans_cmp ha hb fun Q q => ⟨x, y, rfl, rfl, (show Q (.bl (decide (x < y))) H by rw [e]; exact q)⟩
theorem an_ge {x y : Int} {b : Bool} (ha : Val ta σ H (.int x)) (hb : Val tb σ H (.int y)) (e : decide (y ≤ x) = b) : Ans (tTest (tOp (rI0 fun i j => .bl (decide (j ≤ i))) ta tb)) σ H b :=
  ans_cmp ha hb fun Q q => ⟨x, y, rfl, rfl, (show Q (.bl (decide (y ≤ x))) H by rw [e]; exact q)⟩
end
theorem mulR {i j : Int} (h : j < 2 ^ 64 ∧ -(2 ^ 64) < j) : CMul i j := .inr ⟨h.2, h.1⟩
theorem mulL {i j : Int} (h : i < 2 ^ 64 ∧ -(2 ^ 64) < i) : CMul i j := .inl ⟨h.2, h.1⟩
local macro_rules | `(tactic| walk_at "lv") => `(tactic| first
  | exact val_var rfl
  | exact val_c
  | (refine' lv_int ?ha; (case ha => walk_at "lv"))
  | (refine' lv_op1 ?ha ?hb ?hr; (case ha => walk_at "lv"); (case hb => walk_at "lv"); (case hr => first | exact fun _ q => ⟨_, _, rfl, rfl, q⟩ | (refine' lv_ix ?hh ?ee; (case hh => assumption); (case ee => rfl)) | exact fun _ q => ⟨_, _, rfl, rfl, mulR ⟨by decide, by decide⟩, q⟩ | exact fun _ q => ⟨_, _, rfl, rfl, mulL ⟨by decide, by decide⟩, q⟩ | exact fun _ q => ⟨_, _, rfl, rfl, (show CDiv _ _ from ⟨by omega, by omega⟩), q⟩ | exact fun _ q => ⟨_, _, rfl, rfl, mulL (by omega), q⟩ | exact fun _ q => ⟨_, _, rfl, rfl, mulR (by omega), q⟩ | exact fun _ q => ⟨_, _, rfl, rfl, (show (0 : Int) < _ by omega), q⟩)))
section
variable {P : Program} {w : World} {K : PySem.W.Frag} {mg : Str → Option Value} {base : Heap}
theorem pyl {x m : Int} (h0 : 0 < m) (h1 : m < 1073741824) : Builtin.divisionGoesByPylong x m = false := by
  have hl : m.natAbs.log2 < 30 := PySem.Flt.log2_lt_of (by decide) (by omega)
  have hm : ¬ ((if (m == 0) = true then 0 else m.natAbs.log2 / 30 + 1) > 300) := by
    split
    · decide
    · omega
  show (decide ((if (m == 0) = true then 0 else m.natAbs.log2 / 30 + 1) > 300) && _) = false
  rw [decide_eq_false hm, Bool.false_and]
theorem scBegun : FnScope ["_law_script", "_law_turn", "_law_own", "_law_state", "_law_cell"] ["_law_script", "_law_turn"] (defScope sBegun) := ⟨rfl, rfl, rfl, by decide +kernel, rfl, by decide +kernel, by decide +kernel⟩
theorem scCast : FnScope ["_law_pail", "_law_many", "_law_figure_here", "_law_state"] ["_law_pail", "_law_many"] (defScope sCast) := ⟨rfl, rfl, rfl, by decide +kernel, rfl, by decide +kernel, by decide +kernel⟩

theorem ok_cast {f : Addr} {fd : FuncData} {k : Nat} (F : Fun K "_law_cast" "_law_cast" sCast f fd) (mi : mg "int" = none) (md : mg "divmod" = none) : FnOk P w K mg base CX0 (k + 1) f fd ["_law_pail", "_law_many"] spCast := by
  refine F.ok scCast (fun vs H Q E h => ?_) (fun cdv A outer s H vs Q E hr h => ?_)
  · obtain ⟨p, m, rfl, _⟩ := h
    rfl
  · obtain ⟨p, m, rfl, h0, h1, ⟨x, y, z, hp, hx, hy, hy2⟩, q⟩ := h
    refine ⟨_, pss_cons (ps_if (pt_cmpR op_gt (pe_ix ix_list (pv 0) pe_int (fun _ _ => rfl)) pe_int (nomark _))
        (pss_cons (ps_asg (pe_callB call_divmodW (by rfl) md (by decide +kernel) (pa_cons (pe_ix ix_list (pv 0) pe_int (fun _ _ => rfl)) (pa_cons (pv 1) pa_nil)))
            (pg_tup rfl (pgs_cons (pg_sub (pv 0) pe_int set_list) (pgs_cons (pg_name (i := 2) scCast.nd rfl (.inl rfl)) pgs_nil))))
          (pss_one (ps_ret (pv 2)))) pss_nil)
      (pss_cons (ps_asg (pe_op op_add (pe_ix ix_list (pv 0) pe_int (fun _ _ => rfl)) pe_int) (pg_sub (pv 0) pe_int set_list))
      (pss_cons (ps_set (i := 3) scCast.nd rfl (.inl rfl) (pe_op op_mod (pe_callTy call_int1 (by rfl) mi (by decide +kernel) (pa_cons (pe_op op_add (pe_op op_add (pe_op op_mul (pe_ix ix_list (pv 0) pe_int (fun _ _ => rfl)) (pe_op op_add pe_int (pe_op op_mul pe_int (pe_ix ix_list (pv 0) pe_int (fun _ _ => rfl))))) (pe_op op_mul pe_int (pe_ix ix_list (pv 0) pe_int (fun _ _ => rfl)))) pe_int) pa_nil)) pe_int))
      (pss_cons (ps_asg (pe_op op_mod (pe_callTy call_int1 (by rfl) mi (by decide +kernel) (pa_cons (pe_op op_add (pe_op op_add (pe_op op_mul (pv 3) pe_int) (pe_op op_mul pe_int (pe_ix ix_list (pv 0) pe_int (fun _ _ => rfl)))) pe_int) pa_nil)) pe_int) (pg_sub (pv 0) pe_int set_list))
      (pss_one (ps_ret (pe_op op_mod (pe_callTy call_int1 (by rfl) mi (by decide +kernel) (pa_cons (pe_op op_fdiv (pe_ix ix_list (pv 0) pe_int (fun _ _ => rfl)) pe_int) pa_nil)) (pv 1))))))), ?_⟩
    by_cases hx0 : 0 < x
    · refine sq_yes (an_gt (x := x) (by walk_at "lv") val_c (decide_eq_true hx0)) ?_
      refine ⟨.ref p, rfl, p, _, 0, .int x, rfl, rfl, SqL.of hp, rfl, _, rfl, x, m, rfl, ⟨h0, pyl h0 h1⟩, fun t nt => ?_⟩
      have ntp : p ≠ t := ne_of_none hp nt
      refine ⟨t, _, rfl, SqT.of upd_same, rfl, _, _, rfl, ?_⟩
      refine ⟨.ref p, rfl, p, [.int x, .int y, .int z], 0, 0, rfl, rfl, (by rw [upd_ne ntp]; exact hp), rfl, ?_⟩
      refine ⟨_, _, rfl, rfl, ?_⟩
      refine ⟨_, rfl, ?_⟩
      refine q _ _ (Int.emod_nonneg _ (by omega)) (Int.emod_lt_of_pos _ h0) ⟨_, _, _, upd_same, Int.ediv_nonneg hx (by omega), hy, hy2⟩ ?_
      exact (But.new nt).trans But.at
    · refine sq_no (an_gt (x := x) (by walk_at "lv") val_c (decide_eq_false hx0)) ?_
      refine sq_setL (by walk_at "lv") (val_var rfl) val_c hp rfl ?_
      have hp1 : (upd H p (.lst [.int x, .int y, .int (z + 1)])) p = some (.lst [.int x, .int y, .int (z + 1)]) := upd_same
      refine sq_set (by walk_at "lv") ?_
      obtain ⟨Y, hY⟩ : ∃ Y : Int, ((y * (36809 + 2 * (z + 1)) + 5303 * (z + 1) + 7) % 2147483629 * 45413 + 3 * (z + 1) + 1) % 2147483587 = Y := ⟨_, rfl⟩
      refine sq_setL (v := .int Y) (j := 1) ?hv (val_var rfl) val_c hp1 rfl ?_
      case hv =>
        rw [← hY]
        walk_at "lv"
      have hY0 : 0 ≤ Y := by rw [← hY]; exact Int.emod_nonneg _ (by decide)
      have hY1 : Y < 2147483587 := by rw [← hY]; exact Int.emod_lt_of_pos _ (by decide)
      have hp2 : (upd (upd H p (.lst [.int x, .int y, .int (z + 1)])) p (.lst [.int x, .int Y, .int (z + 1)])) p = some (.lst [.int x, .int Y, .int (z + 1)]) := upd_same
      refine st_ret (v := .int (Y / 256 % m)) ?_ ?_
      · walk_at "lv"
      · exact q _ _ (Int.emod_nonneg _ (by omega)) (Int.emod_lt_of_pos _ h0) ⟨_, _, _, upd_same, hx, hY0, by omega⟩ (But.at.trans But.at)
theorem ok_begun {f : Addr} {fd : FuncData} {k : Nat} (F : Fun K "_law_begun" "_law_begun" sBegun f fd) (mi : mg "int" = none) (ml : mg "len" = none) (ma : mg "abs" = none) : FnOk P w K mg base CX0 (k + 1) f fd ["_law_script", "_law_turn"] (spBegun K) := by
  refine F.ok scBegun (fun vs H Q E h => ?_) (fun cdv A outer s H vs Q E hr h => ?_)
  · obtain ⟨a, ns, t, rfl, _⟩ := h
    rfl
  · obtain ⟨a, ns, t, rfl, hS, hlen, hbits, ht0, ht1, q⟩ := h
    refine ⟨_, pss_cons (ps_set (i := 2) scBegun.nd rfl (.inl rfl) (pe_ifExp (pt_cmpR op_lt (pv 1) (pe_callB call_len_seq (by rfl) ml PySem.boot_len (pa_cons (pv 0) pa_nil)) (nomark _)) (pe_ix ix_list (pv 0) (pv 1) (fun _ _ => rfl)) pe_int))
      (pss_cons (ps_set (i := 3) scBegun.nd rfl (.inl rfl) (pe_op op_add pe_int (pe_op op_mul pe_int (pv 1))))
      (pss_cons (ps_for PassesOwn.never rfl (pi_list (pe_slice sl_list (pv 0) po_none (po_some pe_int))) (pg_name (i := 4) scBegun.nd rfl (.inl rfl))
        (pss_one (ps_set (i := 3) scBegun.nd rfl (.inl rfl) (pe_op op_mod (pe_callTy call_int1 (by rfl) mi (by decide +kernel) (pa_cons (pe_op op_add (pe_op op_add (pe_op op_mul (pv 3) pe_int) (pe_op op_mul (pv 4) pe_int)) pe_int) pa_nil)) pe_int))))
      (pss_one (ps_ret (pe_lst (pa_cons (pe_ifExp (PW.pt (pw_or (pt_cmpR op_lt (pv 2) pe_int (nomark _)) (pw_or1 (pt_cmpR op_ge (pv 2) (pe_op op_pow pe_int pe_int) (nomark _))))) (pe_callB call_abs (by rfl) ma (by decide +kernel) (pa_cons (pv 2) pa_nil)) pe_int)
        (pa_cons (pe_op op_mod (pe_callTy call_int1 (by rfl) mi (by decide +kernel) (pa_cons (pe_op op_add (pe_op op_add (pe_op op_mul (pv 3) pe_int) (pe_op op_mulX (pv 2) (pv 2))) (pe_op op_mul pe_int (pv 1))) pa_nil)) pe_int)
          (pa_cons pe_int pa_nil)))))))), ?_⟩
    -- own
    have hown : ∃ own : Int, Builtin.Int.intBits own ≤ 1048576 ∧ ∀ hlt : Bool, decide (t < (ns.length : Int)) = hlt → (hlt = true → atI (ns.map V.int) t = some (.int own)) ∧ (hlt = false → own = 0) := by
      by_cases hl : t < (ns.length : Int)
      · have hj : t.toNat < ns.length := by omega
        refine ⟨ns[t.toNat], hbits _ (List.getElem_mem hj), fun b hb => ⟨fun _ => ?_, fun e => ?_⟩⟩
        · exact L2.at_of (j := t.toNat) (by omega) (by rw [List.getElem?_map, List.getElem?_eq_getElem hj]; rfl)
        · rw [decide_eq_true hl] at hb
          rw [e] at hb
          cases hb
      · refine ⟨0, by decide, fun b hb => ⟨fun e => ?_, fun _ => rfl⟩⟩
        rw [decide_eq_false hl] at hb
        rw [e] at hb
        cases hb
    obtain ⟨own, hob, how⟩ := hown
    obtain ⟨b, hb⟩ : ∃ b, decide (t < (ns.length : Int)) = b := ⟨_, rfl⟩
    have how := how b hb
    refine sq_set (v := .int own) (lv_if (b := b) (an_lt (val_var rfl) (lv_len (val_var rfl) hS) (by rw [List.length_map]; exact hb)) (fun e => val_op (val_var rfl) (val_var rfl) (lv_ixS hS (how.1 e))) (fun e => by rw [how.2 e]; exact val_c)) ?_
    refine sq_set (by walk_at "lv") ?_
    -- the loop
    refine sq_for (fun c H1 => H c = none ∧ H1 = upd H c (.lst (cutV (ns.map V.int) none (some 6)))) (fun Q q => ⟨.ref a, rfl, 6, rfl, a, ns.map V.int, rfl, hS, fun c nc => q c _ ⟨nc, rfl⟩⟩) ?_
    rintro c H1 ⟨nc, rfl⟩
    obtain ⟨ms, hms⟩ := cut_ints ns none (some 6)
    have sm : Same H (upd H c (.lst (cutV (ns.map V.int) none (some 6)))) := fun b o e => by rw [upd_ne (ne_of_none e nc)]; exact e
    rw [hms] at sm ⊢
    refine ⟨ms.map V.int, fun i σ H' => ∃ (st : Int) (v4 : Option V), σ = [some (.ref a), some (.int t), some (.int own), some (.int st), v4] ∧ 0 ≤ st ∧ st < 2147483648 ∧ H' = upd H c (.lst (ms.map V.int)), SqL.of upd_same,
      ⟨60013 + 7727 * t, none, rfl, by omega, by omega, rfl⟩, (fun i σ H' _ ⟨_, _, _, _, _, e⟩ => by rw [e]; exact SqL.of upd_same), ?_, ?_⟩
    · rintro i y σ H' hi ⟨st, v4, rfl, hs0, hs1, rfl⟩
      obtain ⟨z, hz, rfl⟩ := ints_at hi
      show tAsg _ _ _ _ _
      refine st_set (v := .int ((st * 30269 + z * 7 + 13) % 2147483629)) (by walk_at "lv") ?_
      exact ⟨_, _, rfl, Int.emod_nonneg _ (by decide), Int.lt_of_lt_of_le (Int.emod_lt_of_pos _ (by decide)) (by decide), rfl⟩
    · rintro σ H' ⟨st, v4, rfl, hs0, hs1, rfl⟩
      have hX : ∃ X : Int, 0 ≤ X ∧ ((own < 0 ∧ X = -own) ∨ (¬ own < 0 ∧ (10 : Int) ^ 18 ≤ own ∧ X = own) ∨ (¬ own < 0 ∧ ¬ (10 : Int) ^ 18 ≤ own ∧ X = 0)) := by
        by_cases h1 : own < 0
        · exact ⟨-own, by omega, .inl ⟨h1, rfl⟩⟩
        · by_cases h2 : (10 : Int) ^ 18 ≤ own
          · exact ⟨own, by omega, .inr (.inl ⟨h1, h2, rfl⟩)⟩
          · exact ⟨0, by omega, .inr (.inr ⟨h1, h2, rfl⟩)⟩
      obtain ⟨X, hX0, hX⟩ := hX
      refine lv_lst3 (x := .int X) (y := .int ((st * 53 + own * own + 17 * t) % 2147483629)) (z := .int 0) ?_ ?_ val_c ?_
      · rcases hX with ⟨h1, e⟩ | ⟨h1, h2, e⟩ | ⟨h1, h2, e⟩
        · refine lv_if (b := true) (ans_or1 (an_lt (val_var rfl) val_c (decide_eq_true h1))) (fun _ => ?_) (fun z => Bool.noConfusion z)
          have e2 : (if own < 0 then -own else own) = X := by rw [if_pos h1, e]
          rw [← e2]
          exact lv_abs (val_var rfl)
        · refine lv_if (b := true) (ans_or (an_lt (val_var rfl) val_c (decide_eq_false h1)) (an_ge (y := 10 ^ 18) (val_var rfl) ?_ (decide_eq_true h2))) (fun _ => ?_) (fun z => Bool.noConfusion z)
          · exact val_op val_c val_c fun _ q => ⟨_, _, rfl, rfl, ⟨by decide, by decide, by decide⟩, q⟩
          · have e2 : (if own < 0 then -own else own) = X := by rw [if_neg h1, e]
            rw [← e2]
            exact lv_abs (val_var rfl)
        · refine lv_if (b := false) (ans_or (an_lt (val_var rfl) val_c (decide_eq_false h1)) (an_ge (y := 10 ^ 18) (val_var rfl) ?_ (decide_eq_false h2))) (fun z => Bool.noConfusion z) (fun _ => ?_)
          · exact val_op val_c val_c fun _ q => ⟨_, _, rfl, rfl, ⟨by decide, by decide, by decide⟩, q⟩
          · rw [e]
            exact val_c
      · refine val_op (lv_int (val_op (val_op (by walk_at "lv") (val_op (val_var rfl) (val_var rfl) (fun _ q => ⟨_, _, rfl, rfl, (show (Builtin.Int.intBits own : Int) + (Builtin.Int.intBits own : Int) ≤ 134217728 by omega), q⟩)) (fun _ q => ⟨_, _, rfl, rfl, q⟩)) (by walk_at "lv") (fun _ q => ⟨_, _, rfl, rfl, q⟩))) val_c (fun _ q => ⟨_, _, rfl, rfl, (show (0 : Int) < _ by decide), q⟩)
      · intro p np
        refine q _ p (fun b o e => ?_) (sm.free np) ⟨_, _, _, upd_same, hX0, Int.emod_nonneg _ (by decide), Int.lt_of_lt_of_le (Int.emod_lt_of_pos _ (by decide)) (by decide)⟩
        rw [upd_ne (ne_of_none (sm b o e) np)]
        exact sm b o e
end
def spAny : Sp := fun vs H Q _ => ∃ (p l : Addr) (xs : List V), vs = [.ref p, .ref l] ∧ l ≠ p ∧ H l = some (.lst xs) ∧ 0 < xs.length ∧ xs.length < 1000000 ∧ Pail H p ∧ ∀ (v : V) H', v ∈ xs → Pail H' p → But p H H' → Q v H'
section
variable {P : Program} {w : World} {K : PySem.W.Frag} {mg : Str → Option Value} {base : Heap}
theorem scAny : FnScope ["_law_pail", "_law_some"] ["_law_pail", "_law_some"] (defScope sAny) := ⟨rfl, rfl, rfl, by decide +kernel, rfl, by decide +kernel, by decide +kernel⟩
theorem ok_any {f fC : Addr} {fd fdC : FuncData} {k : Nat} (F : Fun K "_law_any_of" "_law_any_of" sAny f fd) (G : FnOk P w K mg base CX0 k fC fdC ["_law_pail", "_law_many"] spCast) (bC : Binds K fdC ["_law_pail", "_law_many"] []) (mC : mg "_law_cast" = some (.ref fC)) (kC : PySem.W.keepIn K (.ref fC) = true) (ml : mg "len" = none) :
    FnOk P w K mg base CX0 (k + 1) f fd ["_law_pail", "_law_some"] spAny := by
  refine F.ok scAny (fun vs H Q E h => ?_) (fun cdv A outer s H vs Q E hr h => ?_)
  · obtain ⟨p, l, xs, rfl, _⟩ := h
    rfl
  · obtain ⟨p, l, xs, rfl, hne, hl, h0, h1, hp, q⟩ := h
    refine ⟨_, pss_one (ps_ret (pe_ix ix_list (pv 1) (pe_call G hr rfl mC kC bC .nil pass0 (pa_cons (pv 0) (pa_cons (pe_callB call_len_seq (by rfl) ml PySem.boot_len (pa_cons (pv 1) pa_nil)) pa_nil))) (fun _ _ => rfl))), ?_⟩
    refine ⟨_, rfl, _, rfl, _, rfl, l, xs, rfl, .inl (SqL.of hl), p, (xs.length : Int), rfl, by omega, by omega, hp, fun r H' r0 r1 hp' bt => ?_⟩
    obtain ⟨j, ej⟩ : ∃ j : Nat, r = (j : Int) := ⟨r.toNat, by omega⟩
    have hj : j < xs.length := by omega
    have hl' : H' l = some (.lst xs) := bt l _ hne hl
    exact ⟨l, xs, r, xs[j], rfl, rfl, SqL.of hl', L2.at_of ej (List.getElem?_eq_getElem hj), q _ _ (List.getElem_mem hj) hp' bt⟩
end
end Lamp
set_option Elab.async false
set_option linter.all false
set_option maxRecDepth 100000
set_option maxHeartbeats 1000000
namespace Lamp
open PySem PySem.Spec PyProof.Rows L2
/-- all that the walk asks of an exception class whose __init__ keeps f -/
structure XC (P : Program) (w : World) (K : PySem.W.Frag) (mg : Str → Option Value) (C : Addr) (x f : Str) : Prop where
  T : ∃ (B newId initId : String) (tail : List Value), EC K C B newId initId tail
  hm : mg x = some (.ref C)
  nf : PySem.W.findIn K (.ref C) f = some none
  made : ∃ (fI : Addr) (fd : FuncData), PySem.W.findIn K (.ref C) "__init__" = some (some (.ref fI)) ∧ PySem.W.typeIn K (.ref fI) = some (.type "function") ∧ PySem.W.takerIn K C f = some none ∧
    (∀ base : Heap, FnOk P w K mg base CX0 1 fI fd ["self", f] (spInit K C f)) ∧ (∀ (s : Shared) (v u : Value), K.In s.heap → BindsTo s fd ⟨[v, u], []⟩ [("self", v), (f, u)]) ∧ (∀ (s : Shared) (v u : Value), K.In s.heap → BindsTo s fd ⟨[v], [(f, u)]⟩ [("self", v), (f, u)])
/-- .. that has no __init__ of the program -/
structure XN (K : PySem.W.Frag) (mg : Str → Option Value) (C : Addr) (x : Str) : Prop where
  T : ∃ (B newId initId : String) (tail : List Value), EC K C B newId initId tail ∧ PySem.W.excIn K C tail newId = true
  hm : mg x = some (.ref C)
section
variable {X : Cx} {C : Addr} {x f : Str} {p pos : Pos} {e : Expr} {ta : TE}
theorem pe_xc (Z : XC X.prog X.w X.K X.mg C x f) (hr : Room 2 X.A) (hg : Gl X x) (ha : PE X e ta) (hs : starEach [e] X.env = (false, eval e X.env) :: starEach [] X.env := by rfl) (hdb : (x == ("__debug__" : Str)) = false := by decide) :
    PE X (.Call (.Name x p) [e] [] pos) (tMkE C f ta) := by
  obtain ⟨fI, fd, h1, h2, h3, h4, h5, _⟩ := Z.made
  obtain ⟨B, newId, initId, tail, T⟩ := Z.T
  exact pe_mkE T h1 h2 h3 (h4 _) hr h5 hg Z.hm ha hs hdb
theorem pe_xk {kws : List Keyword} {tk : TA} (Z : XC X.prog X.w X.K X.mg C x f) (hr : Room 2 X.A) (hg : Gl X x) (hkw : PK X kws tk) (hall : (backToKw pos (keywordEach kws X.env)).all (·.1.isSome) = true := by rfl) (hks : (backToKw pos (keywordEach kws X.env)).filterMap (·.1) = [f] := by rfl)
    (hdb : (x == ("__debug__" : Str)) = false := by decide) (hpl : ((backTo pos (starEach [] X.env)).any (·.1) || (backToKw pos (keywordEach kws X.env)).any (·.1.isNone)) = false := by rfl) : PE X (.Call (.Name x p) [] kws pos) (tMkK C f tk) := by
  obtain ⟨fI, fd, h1, h2, h3, h4, _, h6⟩ := Z.made
  obtain ⟨B, newId, initId, tail, T⟩ := Z.T
  exact pe_mkK T h1 h2 h3 (h4 _) hr h6 hg Z.hm hkw hall hks hdb hpl
/-- C() -/
def tMkN (C : Addr) : TE := fun _ H Q => ∀ a, H a = none → Q (.ref a) (upd H a (exo a C none))
theorem pe_xn (Z : XN X.K X.mg C x) (hg : Gl X x) (hdb : (x == ("__debug__" : Str)) = false := by decide) : PE X (.Call (.Name x p) [] [] pos) (tMkN C) := by
  obtain ⟨B, newId, initId, tail, T, q⟩ := Z.T
  exact pe_mk0 T.F q Z.hm T.kp hg hdb
end
/-! rows of exceptions made -/
/-- a class with the field that its exceptions have -/
abbrev XSpec := Addr × Option Str
def XHas (H : Hp) (y : V) (a : Addr) (s : XSpec) : Prop := match s.2 with
  | some f => XFld H a s.1 f y
  | none => XAt H a s.1
theorem XHas.same {H H' : Hp} {y : V} {a : Addr} {s : XSpec} (h : XHas H y a s) (e : Same H H') : XHas H' y a s := by
  obtain ⟨C, f⟩ := s
  cases f with
  | none => exact XAt.same h e
  | some f => exact XFld.same h e
theorem XHas.at {H : Hp} {y : V} {a : Addr} {s : XSpec} (h : XHas H y a s) : XAt H a s.1 := by
  obtain ⟨C, f⟩ := s
  cases f with
  | none => exact h
  | some f => exact XFld.at h
def EvX (y : V) (te : TE) (σ : L2.St) (s : XSpec) : Prop := ∀ (H : Hp) (Q : VK), (∀ a H', Same H H' → XHas H' y a s → Q (.ref a) H') → te σ H Q
def EvXs (y : V) (ta : TA) (σ : L2.St) (ss : List XSpec) : Prop := ∀ (H : Hp) (Q : List V → Hp → Prop), (∀ (as : List Addr) H', Same H H' → Paired (XHas H' y) as ss → Q (as.map V.ref) H') → ta σ H Q
section
variable {y : V} {te : TE} {ta : TA} {σ : L2.St} {s : XSpec} {ss : List XSpec} {C : Addr} {f : Str}
theorem made_same {H : Hp} {a dx : Addr} (h1 : H a = none) (h2 : H dx = none) (ne : dx ≠ a) : Same H (upd (upd (upd H a (exo a C none)) dx (exd dx [(f, y)])) a (exo a C (some dx))) := fun b o e => by
  rw [upd_ne (ne_of_none e h1), upd_ne (ne_of_none e h2), upd_ne (ne_of_none e h1)]
  exact e
theorem made_has {H : Hp} {a dx : Addr} (ne : dx ≠ a) : XFld (upd (upd (upd H a (exo a C none)) dx (exd dx [(f, y)])) a (exo a C (some dx))) a C f y :=
  ⟨dx, upd_same, by rw [upd_ne ne, upd_same]⟩
theorem evx_e {i : Nat} (h : σ[i]? = some (some y)) : EvX y (tMkE C f (tVar i)) σ (C, some f) := fun H Q q => ⟨y, h, fun a dx h1 h2 ne => q a _ (made_same h1 h2 ne) (made_has ne)⟩
theorem evx_k {i : Nat} (h : σ[i]? = some (some y)) : EvX y (tMkK C f (tCons (tVar i) tNil)) σ (C, some f) := fun H Q q => ⟨y, h, y, rfl, fun a dx h1 h2 ne => q a _ (made_same h1 h2 ne) (made_has ne)⟩
theorem evx_n : EvX y (tMkN C) σ (C, none) := fun H Q q a h => q a _ (same_of h) (.inl upd_same)
theorem evxs_nil : EvXs y tNil σ [] := fun H Q q => q [] H (Same.refl H) .nil
theorem evxs_cons (h1 : EvX y te σ s) (h2 : EvXs y ta σ ss) : EvXs y (tCons te ta) σ (s :: ss) := fun H Q q => h1 H _ fun a H1 s1 x1 => h2 H1 _ fun as H2 s2 x2 => q (a :: as) H2 (s1.trans s2) (.cons (x1.same s2) x2)
theorem xs_same {H H' : Hp} (e : Same H H') {as : List Addr} (h : Paired (XHas H y) as ss) : Paired (XHas H' y) as ss := L2.Paired.mapP h fun _ _ x => x.same e
variable {t2 : TS} {D : Ends} {H : Hp} {i : Nat} {ss0 : List XSpec}
theorem sq_lstX (h : EvXs y ta σ ss) (hl : ss.length ≤ 100) (k : ∀ l (as : List Addr) H', H' l = some (.lst (as.map V.ref)) → Same H H' → Paired (XHas H' y) as ss → t2 D (σ.set i (some (.ref l))) H') : tSeq (tAsg (tLst ta) (gName i)) t2 D σ H :=
  h H _ fun as H1 s1 x1 => by
    have hlen := Paired.length x1
    refine ⟨Nat.le_of_lt (small1000 (by rw [List.length_map]; omega)), fun r hr => ?_⟩
    exact k r as _ upd_same (s1.trans (same_of hr)) (xs_same (same_of hr) x1)
theorem cat_X {as0 : List Addr} {l0 : Addr} {Q : VK} (hx : σ[i]? = some (some (.ref l0))) (h0 : H l0 = some (.lst (as0.map V.ref))) (x0 : Paired (XHas H y) as0 ss0) (h : EvXs y ta σ ss) (hl : ss.length ≤ 100) (hl0 : ss0.length ≤ 100)
    (k : ∀ l (as : List Addr) H', H' l = some (.lst (as.map V.ref)) → Same H H' → Paired (XHas H' y) as (ss0 ++ ss) → Q (.ref l) H') : tOp rCat (tVar i) (tLst ta) σ H Q := by
  refine ⟨_, hx, h H _ fun as H1 s1 x1 => ?_⟩
  have hlen := Paired.length x1
  have hlen0 := Paired.length x0
  refine ⟨Nat.le_of_lt (small1000 (by rw [List.length_map]; omega)), fun r hr => ?_⟩
  have s2 : Same H1 (upd H1 r (.lst (as.map V.ref))) := same_of hr
  refine ⟨l0, r, as0.map V.ref, as.map V.ref, rfl, rfl, s2 _ _ (s1 _ _ h0), upd_same, Nat.le_of_lt (small1000 (by rw [List.length_map, List.length_map]; omega)), fun r2 hr2 => ?_⟩
  have s3 : Same (upd H1 r (.lst (as.map V.ref))) (upd (upd H1 r (.lst (as.map V.ref))) r2 (.lst (as0.map V.ref ++ as.map V.ref))) := same_of hr2
  exact k r2 (as0 ++ as) _ (by rw [List.map_append, upd_same]) ((s1.trans s2).trans s3) (paired_app (xs_same ((s1.trans s2).trans s3) x0) (xs_same (s2.trans s3) x1))
theorem sq_catX {as0 : List Addr} {l0 : Addr} (hx : σ[i]? = some (some (.ref l0))) (h0 : H l0 = some (.lst (as0.map V.ref))) (x0 : Paired (XHas H y) as0 ss0) (h : EvXs y ta σ ss) (hl : ss.length ≤ 100) (hl0 : ss0.length ≤ 100)
    (k : ∀ l (as : List Addr) H', H' l = some (.lst (as.map V.ref)) → Same H H' → Paired (XHas H' y) as (ss0 ++ ss) → t2 D (σ.set i (some (.ref l))) H') : tSeq (tAsg (tOp rCat (tVar i) (tLst ta)) (gName i)) t2 D σ H := cat_X hx h0 x0 h hl hl0 k
theorem st_catX {as0 : List Addr} {l0 : Addr} (hx : σ[i]? = some (some (.ref l0))) (h0 : H l0 = some (.lst (as0.map V.ref))) (x0 : Paired (XHas H y) as0 ss0) (h : EvXs y ta σ ss) (hl : ss.length ≤ 100) (hl0 : ss0.length ≤ 100)
    (k : ∀ l (as : List Addr) H', H' l = some (.lst (as.map V.ref)) → Same H H' → Paired (XHas H' y) as (ss0 ++ ss) → D.rt (.ref l) H') : tRet (tOp rCat (tVar i) (tLst ta)) D σ H := cat_X hx h0 x0 h hl hl0 k
end
end Lamp
set_option Elab.async false
set_option linter.all false
set_option maxRecDepth 100000
set_option maxHeartbeats 1000000
namespace Lamp
open PySem PySem.Spec PyProof.Rows L2
/-! argument lists that make nothing -/
def VA (ta : TA) (σ : L2.St) (H : Hp) (vs : List V) : Prop := ∀ Q : List V → Hp → Prop, Q vs H → ta σ H Q
section
variable {K : PySem.W.Frag} {te : TE} {ta : TA} {σ : L2.St} {H : Hp} {v : V} {vs vs0 : List V} {t2 : TS} {D : Ends} {i : Nat} {l0 : Addr}
theorem va_nil : VA tNil σ H [] := fun Q q => q
theorem va_cons (h1 : Val te σ H v) (h2 : VA ta σ H vs) : VA (tCons te ta) σ H (v :: vs) := fun Q q => h1 _ (h2 _ q)
theorem sq_lstV (h : VA ta σ H vs) (hl : vs.length ≤ 100) (k : ∀ l H', H' l = some (.lst vs) → Same H H' → t2 D (σ.set i (some (.ref l))) H') : tSeq (tAsg (tLst ta) (gName i)) t2 D σ H :=
  h _ ⟨Nat.le_of_lt (small1000 (by omega)), fun r hr => k r _ upd_same (same_of hr)⟩
theorem cat_V {Q : VK} (hx : σ[i]? = some (some (.ref l0))) (h0 : H l0 = some (.lst vs0)) (h : VA ta σ H vs) (hl : vs.length ≤ 100) (hl0 : vs0.length ≤ 100)
    (k : ∀ l H', H' l = some (.lst (vs0 ++ vs)) → Same H H' → Q (.ref l) H') : tOp rCat (tVar i) (tLst ta) σ H Q := by
  refine ⟨_, hx, h _ ⟨Nat.le_of_lt (small1000 (by omega)), fun r hr => ?_⟩⟩
  have s2 : Same H (upd H r (.lst vs)) := same_of hr
  exact ⟨l0, r, vs0, vs, rfl, rfl, s2 _ _ h0, upd_same, Nat.le_of_lt (small1000 (by omega)), fun r2 hr2 => k r2 _ upd_same (s2.trans (same_of hr2))⟩
theorem sq_catV (hx : σ[i]? = some (some (.ref l0))) (h0 : H l0 = some (.lst vs0)) (h : VA ta σ H vs) (hl : vs.length ≤ 100) (hl0 : vs0.length ≤ 100)
    (k : ∀ l H', H' l = some (.lst (vs0 ++ vs)) → Same H H' → t2 D (σ.set i (some (.ref l))) H') : tSeq (tAsg (tOp rCat (tVar i) (tLst ta)) (gName i)) t2 D σ H := cat_V hx h0 h hl hl0 k
theorem st_catV (hx : σ[i]? = some (some (.ref l0))) (h0 : H l0 = some (.lst vs0)) (h : VA ta σ H vs) (hl : vs.length ≤ 100) (hl0 : vs0.length ≤ 100)
    (k : ∀ l H', H' l = some (.lst (vs0 ++ vs)) → Same H H' → D.rt (.ref l) H') : tRet (tOp rCat (tVar i) (tLst ta)) D σ H := cat_V hx h0 h hl hl0 k
theorem v_isX {a C D' : Addr} {b : Bool} (h : σ[i]? = some (some (.ref a))) (hx : XAt H a C) (T : ∃ (B newId initId : String) (tail : List Value), EC K C B newId initId tail) (hk : PySem.W.kitOne K (.ref C) (.ref D') = some b) :
    Val (tCB (rIsX K) (tCons (tVar i) (tCons (tC (.ref D')) tNil))) σ H (.bl b) := fun Q q => ⟨_, h, a, C, _, _, b, rfl, hx, T, .own D', hk, q⟩
theorem v_isT {a C : Addr} {n : String} {b : Bool} (h : σ[i]? = some (some (.ref a))) (hx : XAt H a C) (T : ∃ (B newId initId : String) (tail : List Value), EC K C B newId initId tail) (hk : PySem.W.kitOne K (.ref C) (.type n) = some b) :
    Val (tCB (rIsX K) (tCons (tVar i) (tCons (tC (.ty n)) tNil))) σ H (.bl b) := fun Q q => ⟨_, h, a, C, _, _, b, rfl, hx, T, .ty n, hk, q⟩
end
end Lamp
set_option Elab.async false
set_option linter.all false
set_option maxRecDepth 100000
set_option maxHeartbeats 1000000
namespace Lamp
open PySem PySem.Spec PyProof.Rows L2
abbrev sVast : Stmt := top 27
abbrev sPlace : Stmt := top 31
theorem But.step {p : Addr} {H H1 H2 : Hp} (a : But p H H1) (b : But p H1 H2) : But p H H2 := a.trans b
def spVast : Sp := fun vs H Q _ => ∃ (p : Addr) (m : Int), vs = [.ref p, .int m] ∧ 0 < m ∧ Pail H p ∧ ∀ (r : Int) H', 0 ≤ r → r < m → Pail H' p → But p H H' → Q (.int r) H'
def big : Int := 10 ^ 39
def spPlace : Sp := fun vs H Q _ => ∃ (p : Addr), vs = [.ref p] ∧ Pail H p ∧ ∀ (r : Int) H', -big ≤ r → r ≤ big → Pail H' p → But p H H' → Q (.int r) H'
section
variable {σ : L2.St} {H : Hp} {D : Ends} {t1 t2 : TS} {j : Nat}
theorem sq_forRn {n : Nat} (hn : n ≤ 1000) (Pv : Nat → L2.St → Hp → Prop) (h0 : Pv 0 σ H) (hs : ∀ (i : Nat) (σ' : L2.St) (H' : Hp), i < n → Pv i σ' H' → t1 { D with nx := Pv (i + 1), ct := Pv (i + 1), bk := t2 D } (σ'.set j (some (.int (i : Int)))) H')
    (hd : ∀ σ' H', Pv n σ' H' → t2 D σ' H') {te : TE} (he : Val te σ H (.int (n : Int))) : tSeq (tFor (iRng1 (tCons te tNil)) (gName j) t1) t2 D σ H := by
  refine he _ ⟨(n : Int), rfl, by omega, by omega, ?_⟩
  have e0 : ((n : Int)).toNat = n := by omega
  rw [e0]
  refine for_range (D := { D with nx := t2 D }) (lo := 0) (n := n) Pv h0 (fun i σ' H' hi p => ?_) hd
  have e1 : (0 : Int) + (i : Int) = (i : Int) := Int.zero_add _
  rw [e1]
  exact hs i σ' H' hi p
theorem sq_setR {te : TE} {i : Nat} (R : V → Hp → Prop) (h : ∀ Q : VK, (∀ v H', R v H' → Q v H') → te σ H Q) (k : ∀ v H', R v H' → t2 D (σ.set i (some v)) H') : tSeq (tAsg te (gName i)) t2 D σ H := h _ fun v H' r => k v H' r
theorem st_setR {te : TE} {i : Nat} (R : V → Hp → Prop) (h : ∀ Q : VK, (∀ v H', R v H' → Q v H') → te σ H Q) (k : ∀ v H', R v H' → D.nx (σ.set i (some v)) H') : tAsg te (gName i) D σ H := h _ fun v H' r => k v H' r
end
section
variable {P : Program} {w : World} {K : PySem.W.Frag} {mg : Str → Option Value} {base : Heap}
theorem scVast : FnScope ["_law_pail", "_law_many", "_law_found", "_law_turn"] ["_law_pail", "_law_many"] (defScope sVast) := ⟨rfl, rfl, rfl, by decide +kernel, rfl, by decide +kernel, by decide +kernel⟩
theorem scPlace : FnScope ["_law_pail", "_law_chance"] ["_law_pail"] (defScope sPlace) := ⟨rfl, rfl, rfl, by decide +kernel, rfl, by decide +kernel, by decide +kernel⟩
/-- what is known of the drawing def -/
structure Dr (P : Program) (w : World) (K : PySem.W.Frag) (mg : Str → Option Value) (base : Heap) (sp : Sp) (x : Str) (ps : List Str) (k : Nat) : Prop where
  ex : ∃ (f : Addr) (fd : FuncData), FnOk P w K mg base CX0 k f fd ps sp ∧ Binds K fd ps [] ∧ mg x = some (.ref f) ∧ PySem.W.keepIn K (.ref f) = true
theorem pe_dr {X : Cx} {sp : Sp} {x : Str} {ps : List Str} {k j : Nat} {e : Expr} {es : List Expr} {t : TA} {p pos : Pos} (Z : Dr X.prog X.w X.K X.mg X.base sp x ps k) (hk : k ≤ j) (hr : Room j X.A) (hg : Gl X x) (ha : PA X (e :: es) t) (hdb : (x == ("__debug__" : Str)) = false := by decide)
    (he : starEach (e :: es) X.env = (false, eval e X.env) :: starEach es X.env := by rfl) (hpl : (backTo pos (starEach es X.env)).any (·.1) = false := by rfl) : PE X (.Call (.Name x p) (e :: es) [] pos) (tCallG sp t) := by
  obtain ⟨f, fd, F, b, m, kp⟩ := Z.ex
  have z := pe_call (pos := pos) (p := p) F (hr.mono hk) hg m kp b .nil pass0 ha hdb he hpl
  refine ⟨fun pins s σ H Q I h => z.run pins s σ H Q I ?_⟩
  unfold tCall
  simp only [List.append_nil]
  exact h
theorem ok_vast {f : Addr} {fd : FuncData} (F : Fun K "_law_vast" "_law_vast" sVast f fd) (C : Dr P w K mg base spCast "_law_cast" ["_law_pail", "_law_many"] 1) (mi : mg "int" = none) (mr : mg "range" = none) : FnOk P w K mg base CX0 2 f fd ["_law_pail", "_law_many"] spVast := by
  refine F.ok scVast (fun vs H Q E h => ?_) (fun cdv A outer s H vs Q E hr h => ?_)
  · obtain ⟨p, m, rfl, _⟩ := h
    rfl
  · obtain ⟨p, m, rfl, h0, hp, q⟩ := h
    refine ⟨_, pss_cons (ps_set (i := 2) scVast.nd rfl (.inl rfl) pe_int) (pss_cons (ps_for PassesOwn.never rfl (pi_range1 rfl mr (pa_cons pe_int pa_nil)) (pg_name (i := 3) scVast.nd rfl (.inl rfl))
        (pss_one (ps_set (i := 2) scVast.nd rfl (.inl rfl) (pe_op op_add (pe_op op_mul (pv 2) pe_int) (pe_dr C (Nat.le_refl _) hr rfl (pa_cons (pv 0) (pa_cons pe_int pa_nil)))))))
      (pss_one (ps_ret (pe_op op_mod (pe_callTy call_int1 (by rfl) mi (by decide +kernel) (pa_cons (pv 2) pa_nil)) (pv 1))))), ?_⟩
    refine sq_set (v := .int 0) val_c ?_
    refine sq_forRn (n := 6) (by decide) (fun i σ' H' => ∃ (z : Int) (b : Option V), σ' = [some (.ref p), some (.int m), some (.int z), b] ∧ Pail H' p ∧ But p H H') ⟨0, none, rfl, hp, But.refl p H⟩ ?_ ?_ val_c
    · rintro i σ' H0 hi ⟨z, b, rfl, hp0, bt0⟩
      refine ⟨_, rfl, z, 1000003, rfl, rfl, mulR ⟨by decide, by decide⟩, _, rfl, p, 1000003, rfl, by decide, by decide, hp0, fun r H1 r0 r1 hp1 bt1 => ⟨_, _, rfl, rfl, ?_⟩⟩
      exact ⟨_, _, rfl, hp1, bt0.trans bt1⟩
    · rintro σ' H0 ⟨z, b, rfl, hp0, bt0⟩
      refine st_ret (v := .int (z % m)) (val_op (lv_int (val_var rfl)) (val_var rfl) fun _ q => ⟨_, _, rfl, rfl, h0, q⟩) ?_
      exact q _ _ (Int.emod_nonneg _ (by omega)) (Int.emod_lt_of_pos _ h0) hp0 bt0
theorem ok_place {f : Addr} {fd : FuncData} (F : Fun K "_law_place" "_law_place" sPlace f fd) (C : Dr P w K mg base spCast "_law_cast" ["_law_pail", "_law_many"] 1) (Vt : Dr P w K mg base spVast "_law_vast" ["_law_pail", "_law_many"] 2) : FnOk P w K mg base CX0 3 f fd ["_law_pail"] spPlace := by
  refine F.ok scPlace (fun vs H Q E h => ?_) (fun cdv A outer s H vs Q E hr h => ?_)
  · obtain ⟨p, rfl, _⟩ := h
    rfl
  · obtain ⟨p, rfl, hp, q⟩ := h
    refine ⟨_, pss_cons (ps_set (i := 1) scPlace.nd rfl (.inl rfl) (pe_dr C (by decide) hr rfl (pa_cons (pv 0) (pa_cons pe_int pa_nil))))
      (pss_cons (ps_if (pt_cmpR op_lt (pv 1) pe_int (nomark _)) (pss_one (ps_ret (pe_op op_sub (pe_dr C (by decide) hr rfl (pa_cons (pv 0) (pa_cons pe_int pa_nil))) pe_int))) pss_nil)
      (pss_one (ps_ret (pe_ifExp (pt_cmpR op_eq (pv 1) pe_int (nomark _)) (pe_op op_sub (pe_dr C (by decide) hr rfl (pa_cons (pv 0) (pa_cons pe_int pa_nil))) pe_int)
        (pe_op op_sub (pe_dr Vt (Nat.le_refl _) hr rfl (pa_cons (pv 0) (pa_cons (pe_op op_pow pe_int pe_int) pa_nil))) (pe_op op_pow pe_int pe_int)))))), ?_⟩
    have hbig : big = 1000000000000000000000000000000000000000 := by decide
    refine ⟨_, rfl, p, 8, rfl, by decide, by decide, hp, fun r H1 r0 r1 hp1 bt1 => ?_⟩
    by_cases h6 : r < 6
    · refine sq_yes (an_lt (val_var rfl) val_c (decide_eq_true h6)) ?_
      refine ⟨_, rfl, p, 13, rfl, by decide, by decide, hp1, fun r2 H2 r20 r21 hp2 bt2 => ⟨_, _, rfl, rfl, ?_⟩⟩
      exact q _ _ (by omega) (by omega) hp2 (bt1.trans bt2)
    · refine sq_no (an_lt (val_var rfl) val_c (decide_eq_false h6)) ?_
      by_cases h7 : r = 6
      · subst h7
        refine ⟨_, rfl, rfl, true, rfl, ?_⟩
        refine iteT ?_
        refine ⟨_, rfl, p, 81, rfl, by decide, by decide, hp1, fun r2 H2 r20 r21 hp2 bt2 => ⟨_, _, rfl, rfl, ?_⟩⟩
        exact q _ _ (by omega) (by omega) hp2 (bt1.trans bt2)
      · refine ⟨_, rfl, rfl, false, ?_, ?_⟩
        · show V.bl (decide (V.int r = V.int 6)) = V.bl false
          rw [decide_eq_false (fun z => h7 (V.int.inj z))]
        · refine iteF ?_
          refine ⟨_, rfl, 10, 39, rfl, rfl, ⟨by decide, by decide, by decide⟩, p, _, rfl, ?_, hp1, fun r2 H2 r20 r21 hp2 bt2 => ⟨10, 38, rfl, rfl, ⟨by decide, by decide, by decide⟩, _, _, rfl, rfl, ?_⟩⟩
          · decide
          · have e39 : (10 : Int) ^ (39 : Int).toNat = 1000000000000000000000000000000000000000 := by decide
            have e38 : (10 : Int) ^ (38 : Int).toNat = 100000000000000000000000000000000000000 := by decide
            rw [e39] at r21
            rw [e38]
            exact q _ _ (by omega) (by omega) hp2 (bt1.trans bt2)
end
end Lamp
set_option Elab.async false
set_option linter.all false
set_option maxRecDepth 100000
set_option maxHeartbeats 1000000
namespace Lamp
open PySem PySem.Spec PyProof.Rows L2
abbrev sPicture : Stmt := top 32
abbrev sParts : Stmt := top 33
/-! a chart: places with levels -/
def enc (ps : List (Int × Int)) : List (Key × V) := ps.map fun q => (Sum.inl q.1, V.int q.2)
def putI (ps : List (Int × Int)) (k v : Int) : List (Int × Int) := if ps.any (fun q => decide (q.1 = k)) then ps.map (fun q => if q.1 = k then (q.1, v) else q) else ps ++ [(k, v)]
theorem enc_put (ps : List (Int × Int)) (k v : Int) : putK (enc ps) (Sum.inl k) (V.int v) = enc (putI ps k v) := by
  have e1 : ((enc ps).any fun kv => decide (kv.1 = Sum.inl k)) = ps.any (fun q => decide (q.1 = k)) := by
    unfold enc
    rw [List.any_map]
    congr 1
    funext q
    show decide ((Sum.inl q.1 : Key) = Sum.inl k) = decide (q.1 = k)
    rw [key_ll]
    by_cases h : q.1 = k <;> simp [h]
  unfold putK putI
  rw [e1]
  split
  · unfold enc
    rw [List.map_map, List.map_map]
    congr 1
    funext q
    show (if (Sum.inl q.1 : Key) = Sum.inl k then _ else _) = _
    by_cases h : q.1 = k
    · rw [if_pos (by rw [h])]
      show _ = (Sum.inl (if q.1 = k then (q.1, v) else q).1, V.int (if q.1 = k then (q.1, v) else q).2)
      rw [if_pos h]
    · rw [if_neg (fun z => h (Sum.inl.inj z))]
      show _ = (Sum.inl (if q.1 = k then (q.1, v) else q).1, V.int (if q.1 = k then (q.1, v) else q).2)
      rw [if_neg h]
  · unfold enc
    rw [List.map_append]
    rfl
/-- what holds of a chart: no place twice, levels and places in their bounds -/
structure Chart (p : Int) (ps : List (Int × Int)) : Prop where
  nd : (ps.map (·.1)).Nodup
  lv : ∀ q ∈ ps, 1 ≤ q.2 ∧ q.2 < p
  pl : ∀ q ∈ ps, -big ≤ q.1 ∧ q.1 ≤ big
theorem Chart.put {p : Int} {ps : List (Int × Int)} (C : Chart p ps) {k v : Int} (h1 : 1 ≤ v ∧ v < p) (h2 : -big ≤ k ∧ k ≤ big) : Chart p (putI ps k v) ∧ (putI ps k v).length ≤ ps.length + 1 := by
  unfold putI
  split
  · refine ⟨⟨?_, fun q hq => ?_, fun q hq => ?_⟩, by rw [List.length_map]; omega⟩
    · rw [List.map_map]
      have e : ((fun q : Int × Int => q.1) ∘ fun q => if q.1 = k then (q.1, v) else q) = fun q => q.1 := by
        funext q
        show (if q.1 = k then (q.1, v) else q).1 = q.1
        split <;> rfl
      rw [e]
      exact C.nd
    · obtain ⟨q0, h0, rfl⟩ := List.mem_map.mp hq
      split
      · exact h1
      · exact C.lv q0 h0
    · obtain ⟨q0, h0, rfl⟩ := List.mem_map.mp hq
      split
      · exact C.pl q0 h0
      · exact C.pl q0 h0
  · rename_i hn
    have hk : k ∉ ps.map (·.1) := fun z => by
      obtain ⟨q, hq, e⟩ := List.mem_map.mp z
      exact hn (List.any_eq_true.mpr ⟨q, hq, decide_eq_true e⟩)
    refine ⟨⟨?_, fun q hq => ?_, fun q hq => ?_⟩, by rw [List.length_append]; exact Nat.le_refl _⟩
    · rw [List.map_append]
      exact List.nodup_append.mpr ⟨C.nd, by simp, fun a ha b hb => by simp at hb; subst hb; exact fun e => hk (e ▸ ha)⟩
    · rcases List.mem_append.mp hq with h | h
      · exact C.lv q h
      · simp at h; subst h; exact h1
    · rcases List.mem_append.mp hq with h | h
      · exact C.pl q h
      · simp at h; subst h; exact h2
theorem enc_get : ∀ {ps : List (Int × Int)} {k : Int}, k ∈ ps.map (·.1) → ∃ v, valV (enc ps) (Sum.inl k) = some (V.int v) ∧ (k, v) ∈ ps
  | [], k, h => by simp at h
  | q :: ps, k, h => by
    by_cases e : q.1 = k
    · refine ⟨q.2, ?_, by rw [← e]; exact List.mem_cons_self ..⟩
      exact valV_pos (p := (Sum.inl q.1, V.int q.2)) (by show (Sum.inl q.1 : Key) = Sum.inl k; rw [e])
    · have h' : k ∈ ps.map (·.1) := by
        rcases List.mem_cons.mp h with z | z
        · exact absurd z.symm e
        · exact z
      obtain ⟨v, h1, h2⟩ := enc_get h'
      refine ⟨v, ?_, List.mem_cons_of_mem _ h2⟩
      rw [← h1]
      exact valV_neg (p := (Sum.inl q.1, V.int q.2)) (fun z => e (Sum.inl.inj z))
/-- a picture of p levels: ascending places, levels from 1 to p - 1, few -/
structure IsPic (p : Int) (ls : List (Int × Int)) : Prop where
  asc : (ls.map (·.1)).Pairwise (· < ·)
  lv : ∀ q ∈ ls, 1 ≤ q.2 ∧ q.2 < p
  pl : ∀ q ∈ ls, -big ≤ q.1 ∧ q.1 ≤ big
  few : ls.length ≤ 5
theorem lt_of_le_nodup : ∀ {xs : List Int}, xs.Pairwise (· ≤ ·) → xs.Nodup → xs.Pairwise (· < ·)
  | [], _, _ => .nil
  | x :: xs, h, n => by
    cases h with
    | cons h1 h2 =>
      cases n with
      | cons n1 n2 => exact .cons (fun y hy => by have a := h1 y hy; have b := n1 y hy; omega) (lt_of_le_nodup h2 n2)
/-- at t: a picture's tuple of pairs -/
def PicAt (K : PySem.W.Frag) (H : Hp) (t : Addr) (ls : List (Int × Int)) : Prop := ∃ as : List Addr, H t = some (.tup (as.map V.ref)) ∧ Paired (fun a (q : Int × Int) => H a = some (.tup [.int q.1, .int q.2])) as ls
theorem PicAt.same {K : PySem.W.Frag} {H H' : Hp} {t : Addr} {ls : List (Int × Int)} (h : PicAt K H t ls) (e : Same H H') : PicAt K H' t ls := by
  obtain ⟨as, h1, h2⟩ := h
  exact ⟨as, e _ _ h1, L2.Paired.mapP h2 fun a q z => e _ _ z⟩
def spPicture (K : PySem.W.Frag) : Sp := fun vs H Q _ => ∃ (p : Addr) (lv : Int) (n : Nat), vs = [.ref p, .int lv, .int (n : Int)] ∧ 2 ≤ lv ∧ lv ≤ 7 ∧ n ≤ 5 ∧ Pail H p ∧ ∀ (t : Addr) (ls : List (Int × Int)) H', IsPic lv ls → PicAt K (delH H' p) t ls → H t = none → Pail H' p → But p H H' → Q (.ref t) H'
section
variable {P : Program} {w : World} {K : PySem.W.Frag} {mg : Str → Option Value} {base : Heap}
theorem scPicture : FnScope ["_law_pail", "_law_p", "_law_many", "_law_chart", "_law_k", "_law_at"] ["_law_pail", "_law_p", "_law_many"] (defScope sPicture) := ⟨rfl, rfl, rfl, by decide +kernel, rfl, by decide +kernel, by decide +kernel⟩
theorem ok_picture {f : Addr} {fd : FuncData} (F : Fun K "_law_picture" "_law_picture" sPicture f fd) (C : Dr P w K mg base spCast "_law_cast" ["_law_pail", "_law_many"] 1) (Pl : Dr P w K mg base spPlace "_law_place" ["_law_pail"] 3)
    (mr : mg "range" = none) (mt : mg "tuple" = none) (ms : mg "sorted" = none) (ml : mg "list" = none) : FnOk P w K mg base CX0 4 f fd ["_law_pail", "_law_p", "_law_many"] (spPicture K) := by
  refine F.ok scPicture (fun vs H Q E h => ?_) (fun cdv A outer s H vs Q E hr h => ?_)
  · obtain ⟨p, lv, n, rfl, _⟩ := h
    rfl
  · obtain ⟨p, lv, n, rfl, h2, h7, hn, hp, q⟩ := h
    have hu := hu_of hr
    refine ⟨_, pss_cons (ps_set (i := 3) scPicture.nd rfl (Or.inr rfl) pe_dnewK)
      (pss_cons (ps_for PassesOwn.never rfl (pi_range1 rfl mr (pa_cons (pv 2) pa_nil)) (pg_name (i := 4) scPicture.nd rfl (.inl rfl))
        (pss_one (ps_dput hu (pv 3) (pe_dr Pl (Nat.le_refl _) hr rfl (pa_cons (pv 0) pa_nil)) (pe_op op_add pe_int (pe_dr C (by decide) hr rfl (pa_cons (pv 0) (pa_cons (pe_op op_sub (pv 1) pe_int) pa_nil)))) rfl)))
      (pss_one (ps_ret (pe_callTy call_tuple_of (by rfl) mt (by decide +kernel) (pa_cons (pe_lc (own := [("_law_at", 5)]) (g := gName 5) (tt := tYes) rfl scPicture.nd
          (pi_list (pe_callB cr_sortedI (by rfl) ms (by decide +kernel) (pa_cons (pe_callTy (call_list_dK rfl) (by rfl) ml (by decide +kernel) (pa_cons (pv 3) pa_nil)) pa_nil)))
          (blkOk_by (own := [("_law_at", 5)]) (N := ["_law_pail", "_law_p", "_law_many", "_law_chart", "_law_k", "_law_at"]) (sc := defScope sPicture) (by decide +kernel)) (fun _ _ _ _ _ => pg_name (i := 5) scPicture.nd rfl (Or.inl rfl)) (fun _ _ _ _ _ => pts_nil)
          (fun _ _ _ _ _ => pe_tup (pa_cons (pv 5) (pa_cons (pe_dget hu (pv 3) (pv 5) (fun _ _ => rfl)) pa_nil)))) pa_nil))))), ?_⟩
    refine sq_setR (fun v H' => ∃ c, v = .ref c ∧ H c = none ∧ H' = upd H c (.dK [])) (fun Q' q' c hc => q' _ _ ⟨c, rfl, hc, rfl⟩) ?_
    rintro v H0 ⟨c, rfl, hc, rfl⟩
    have cp : c ≠ p := hp.ne hc
    refine sq_forRn (n := n) (by omega) (fun i σ' H' => ∃ (b : Option V) (ps : List (Int × Int)), σ' = [some (.ref p), some (.int lv), some (.int (n : Int)), some (.ref c), b, none] ∧ Pail H' p ∧ But p H H' ∧ H' c = some (.dK (enc ps)) ∧ Chart lv ps ∧ ps.length ≤ i)
      ⟨none, [], rfl, hp.same (same_of hc), But.new hc, upd_same, ⟨.nil, fun q h => (nomatch h), fun q h => (nomatch h)⟩, Nat.le_refl _⟩ ?_ ?_ (val_var rfl)
    · rintro i σ' H0 hi ⟨b, ps, rfl, hp0, bt0, hc0, hC, hlen⟩
      refine ⟨_, rfl, _, rfl, lv, 1, rfl, rfl, p, lv - 1, rfl, by omega, by omega, hp0, fun r H1 r0 r1 hp1 bt1 => ⟨1, r, rfl, rfl, _, rfl, _, rfl, p, rfl, hp1, fun z H2 z0 z1 hp2 bt2 => ?_⟩⟩
      have hc2 := bt2 _ _ cp (bt1 _ _ cp hc0)
      refine ⟨c, _, rfl, DPut.k (k := Sum.inl z) hc2 ?_, ?_⟩
      · unfold enc
        rw [List.length_map]
        exact small1000 (by omega)
      · obtain ⟨g1, g2⟩ := hC.put (k := z) (v := 1 + r) (by omega) ⟨z0, z1⟩
        refine ⟨_, putI ps z (1 + r), rfl, ?_, fun b' o nb e => ?_, ?_, g1, by omega⟩
        · obtain ⟨x, y, w', hx, hr'⟩ := hp2
          exact ⟨x, y, w', by rw [upd_ne (Ne.symm cp)]; exact hx, hr'⟩
        · rw [upd_ne (ne_of_none e hc)]
          exact bt2 _ _ nb (bt1 _ _ nb (bt0 _ _ nb e))
        · rw [upd_same, enc_put]
    · rintro σ' H0 ⟨b, ps, rfl, hp0, bt0, hc0, hC, hlen⟩
      have keys : (enc ps).map (fun kv => kV kv.1) = (ps.map (·.1)).map V.int := by
        unfold enc
        rw [List.map_map, List.map_map]
        rfl
      obtain ⟨lk, hlk⟩ : ∃ lk : Int → Int, ∀ n, n ∈ ps.map (·.1) → valV (enc ps) (Sum.inl n) = some (V.int (lk n)) ∧ (n, lk n) ∈ ps := by
        classical
        exact ⟨fun n => if h : n ∈ ps.map (·.1) then (enc_get h).choose else 0, fun n h => by
          have e : (if h : n ∈ ps.map (·.1) then (enc_get h).choose else 0) = (enc_get h).choose := dif_pos h
          show valV (enc ps) (Sum.inl n) = some (V.int (if h : n ∈ ps.map (·.1) then (enc_get h).choose else 0)) ∧ (n, (if h : n ∈ ps.map (·.1) then (enc_get h).choose else 0)) ∈ ps
          rw [e]
          exact (enc_get h).choose_spec⟩
      refine ⟨_, rfl, c, enc ps, rfl, hc0, fun l nl => ⟨l, ps.map (·.1), rfl, SqL.of (by rw [upd_same, keys]), fun ns' sr perm asc nsr => ⟨sr, rfl, ⟨_, SqL.of upd_same⟩, fun D hD => ?_⟩⟩⟩
      have r1 : Same H0 (upd H0 l (.lst ((enc ps).map fun kv => kV kv.1))) := same_of nl
      have r2 := same_of (o := .lst (ns'.map V.int)) nsr
      have hsr : (upd (upd H0 l (.lst ((enc ps).map fun kv => kV kv.1))) sr (.lst (ns'.map V.int))) sr = some (.lst (ns'.map V.int)) := upd_same
      have s0b := r1.trans r2
      revert hD hsr s0b
      generalize (upd (upd H0 l (.lst ((enc ps).map fun kv => kV kv.1))) sr (.lst (ns'.map V.int))) = Hb
      intro hD hsr s0b
      refine lc_list (K := K) (a := sr) (xs := ns'.map V.int) (fun i H' => Same Hb H' ∧ ∃ as : List Addr, H' D = some (.lst (as.map V.ref)) ∧ Paired (fun a (qq : Int × Int) => H' a = some (.tup [.int qq.1, .int qq.2]) ∧ a ≠ D) as ((ns'.take i).map fun n => (n, lk n)))
        ⟨same_of hD, [], upd_same, by rw [List.take_zero]; exact .nil⟩ (fun i H' _ z => SqL.of (z.1 _ _ hsr)) (fun i x H' hi z => ?_) (fun H' z => ?_)
      · obtain ⟨sb, as, hlD, hpa⟩ := z
        obtain ⟨n0, hn0, rfl⟩ := ints_at hi
        have hmem : n0 ∈ ps.map (·.1) := (perm.mem_iff).mp (List.mem_of_getElem? hn0)
        obtain ⟨v1, v2⟩ := hlk n0 hmem
        refine ⟨rfl, ?_⟩
        refine ⟨_, rfl, _, rfl, _, rfl, c, V.int (lk n0), rfl, ?_, (by show 2 ≤ sizeLine; decide), fun tp ntp => ?_⟩
        · exact .inl ⟨enc ps, Sum.inl n0, .inl (sb _ _ (s0b _ _ hc0)), rfl, v1.symm⟩
        · have s3 := same_of (o := .tup [V.int n0, V.int (lk n0)]) ntp
          have tD : tp ≠ D := fun e => by rw [e, hlD] at ntp; cases ntp
          refine ⟨as.map V.ref, s3 _ _ hlD, ?_, fun b' o e => ?_, as ++ [tp], ?_, ?_⟩
          · have hl1 := Paired.length hpa
            have hl2 := perm.length_eq
            rw [List.length_map, List.length_take] at hl1
            rw [List.length_map] at hl2 ⊢
            exact small1000 (by omega)
          · have nb : b' ≠ D := fun z => by rw [z, hD] at e; cases e
            rw [upd_ne nb]
            exact s3 _ _ (sb _ _ e)
          · rw [upd_same, List.map_append]
            rfl
          · have hlt := (List.getElem?_eq_some_iff.mp hn0)
            rw [List.take_add_one, hn0, List.map_append]
            refine paired_app (L2.Paired.mapP hpa fun a' qq hz => ?_) (.cons ⟨?_, tD⟩ .nil)
            · exact ⟨by rw [upd_ne hz.2]; exact s3 _ _ hz.1, hz.2⟩
            · rw [upd_ne tD, upd_same]
      · obtain ⟨sb, as, hlD, hpa⟩ := z
        refine ⟨D, _, rfl, .inl ⟨SqL.of hlD, fun t nt => ?_⟩⟩
        have s4 := same_of (o := .tup (as.map V.ref)) nt
        rw [List.length_map, List.take_length] at hpa
        have hpz := ((hp0.same s0b).same sb).same s4
        have tp : t ≠ p := ((hp0.same s0b).same sb).ne nt
        have bt : But p H (upd H' t (.tup (as.map V.ref))) := bt0.trans (But.of ((s0b.trans sb).trans s4))
        have memo : ∀ n, n ∈ ns' → n ∈ ps.map (·.1) := fun n hn => (perm.mem_iff).mp hn
        refine q t (ns'.map fun n => (n, lk n)) _ ⟨?_, fun qq hq => ?_, fun qq hq => ?_, ?_⟩ ⟨as, by rw [delH_ne tp, upd_same], L2.Paired.mapP hpa fun a qq hz => ?_⟩ ?_ hpz bt
        · rw [List.map_map]
          have e : ((fun q : Int × Int => q.1) ∘ fun n => (n, lk n)) = id := rfl
          rw [e, List.map_id]
          exact lt_of_le_nodup asc (perm.nodup_iff.mpr hC.nd)
        · obtain ⟨n, hn, rfl⟩ := List.mem_map.mp hq
          exact hC.lv _ (hlk n (memo n hn)).2
        · obtain ⟨n, hn, rfl⟩ := List.mem_map.mp hq
          exact hC.pl _ (hlk n (memo n hn)).2
        · have hl2 := perm.length_eq
          rw [List.length_map] at hl2 ⊢
          omega
        · have ap : a ≠ p := fun e => by
            obtain ⟨x, y, w', hx, _⟩ := hpz
            have h1 := s4 _ _ hz.1
            rw [e, hx] at h1
            cases h1
          rw [delH_ne ap]
          exact s4 _ _ hz.1
        · cases e : H t with
          | none => rfl
          | some o =>
            have h1 := bt0.trans (But.of (s0b.trans sb)) t o tp e
            rw [nt] at h1
            cases h1
end
end Lamp
set_option Elab.async false
set_option linter.all false
set_option maxRecDepth 100000
set_option maxHeartbeats 1000000
namespace Lamp
open PySem PySem.Spec PyProof.Rows L2
/-- the parts of a round -/
structure Parts where
  lv : Int
  ls : List (Int × Int)
  fin : Int
/-- as they are drawn -/
structure Parts.Ok (r : Parts) : Prop where
  lv : r.lv = 2 ∨ r.lv = 3 ∨ r.lv = 5 ∨ r.lv = 7
  pic : IsPic r.lv r.ls
  lo : -big ≤ r.fin
  hi : r.fin ≤ big
/-- at l: the list of a round's parts, its picture at t -/
def PartsAt (K : PySem.W.Frag) (H : Hp) (l t : Addr) (r : Parts) : Prop := H l = some (.lst [.int r.lv, .ref t, .int r.fin]) ∧ PicAt K H t r.ls
theorem PartsAt.same {K : PySem.W.Frag} {H H' : Hp} {l t : Addr} {r : Parts} (h : PartsAt K H l t r) (e : Same H H') : PartsAt K H' l t r := ⟨e _ _ h.1, h.2.same e⟩
def spParts (K : PySem.W.Frag) : Sp := fun vs H Q _ => ∃ (p : Addr), vs = [.ref p] ∧ Pail H p ∧ ∀ (l t : Addr) (r : Parts) H', r.Ok → PartsAt K (delH H' p) l t r → Pail H' p → But p H H' → Q (.ref l) H'
section
variable {P : Program} {w : World} {K : PySem.W.Frag} {mg : Str → Option Value} {base : Heap}
theorem scParts : FnScope ["_law_pail", "_law_p"] ["_law_pail"] (defScope sParts) := ⟨rfl, rfl, rfl, by decide +kernel, rfl, by decide +kernel, by decide +kernel⟩
theorem ok_parts {f : Addr} {fd : FuncData} (F : Fun K "_law_parts" "_law_parts" sParts f fd) (An : Dr P w K mg base spAny "_law_any_of" ["_law_pail", "_law_some"] 2) (Pl : Dr P w K mg base spPlace "_law_place" ["_law_pail"] 3)
    (Pc : Dr P w K mg base (spPicture K) "_law_picture" ["_law_pail", "_law_p", "_law_many"] 4) : FnOk P w K mg base CX0 5 f fd ["_law_pail"] (spParts K) := by
  refine F.ok scParts (fun vs H Q E h => ?_) (fun cdv A outer s H vs Q E hr h => ?_)
  · obtain ⟨p, rfl, _⟩ := h
    rfl
  · obtain ⟨p, rfl, hp, q⟩ := h
    refine ⟨_, pss_cons (ps_set (i := 1) scParts.nd rfl (.inl rfl) (pe_dr An (by decide) hr rfl (pa_cons (pv 0) (pa_cons (pe_lst (pa_cons pe_int (pa_cons pe_int (pa_cons pe_int (pa_cons pe_int pa_nil))))) pa_nil))))
      (pss_one (ps_ret (pe_lst (pa_cons (pv 1) (pa_cons (pe_dr Pc (Nat.le_refl _) hr rfl (pa_cons (pv 0) (pa_cons (pv 1) (pa_cons (pe_dr An (by decide) hr rfl (pa_cons (pv 0) (pa_cons (pe_lst (pa_cons pe_int (pa_cons pe_int (pa_cons pe_int (pa_cons pe_int (pa_cons pe_int pa_nil)))))) pa_nil))) pa_nil))))
        (pa_cons (pe_dr Pl (by decide) hr rfl (pa_cons (pv 0) pa_nil)) pa_nil)))))), ?_⟩
    refine ⟨_, rfl, (by show 4 ≤ sizeLine; decide), fun l1 n1 => ⟨p, l1, _, rfl, hp.ne n1, upd_same, by decide, by decide, hp.same (same_of n1), fun v H1 hv hp1 bt1 => ?_⟩⟩
    have bt1' : But p H H1 := (But.of (same_of n1)).trans bt1
    have hlv : ∃ lv : Int, v = .int lv ∧ (lv = 2 ∨ lv = 3 ∨ lv = 5 ∨ lv = 7) := by
      simp only [List.mem_cons, List.not_mem_nil, or_false] at hv
      rcases hv with rfl | rfl | rfl | rfl
      · exact ⟨2, rfl, .inl rfl⟩
      · exact ⟨3, rfl, .inr (.inl rfl)⟩
      · exact ⟨5, rfl, .inr (.inr (.inl rfl))⟩
      · exact ⟨7, rfl, .inr (.inr (.inr rfl))⟩
    obtain ⟨lv, rfl, hlv⟩ := hlv
    refine ⟨_, rfl, _, rfl, _, rfl, _, rfl, (by show 5 ≤ sizeLine; decide), fun l2 n2 => ⟨p, l2, _, rfl, hp1.ne n2, upd_same, by decide, by decide, hp1.same (same_of n2), fun v2 H2 hv2 hp2 bt2 => ?_⟩⟩
    have bt2' : But p H H2 := bt1'.trans ((But.of (same_of n2)).trans bt2)
    have hn : ∃ n : Nat, v2 = .int (n : Int) ∧ n ≤ 5 := by
      simp only [List.mem_cons, List.not_mem_nil, or_false] at hv2
      rcases hv2 with rfl | rfl | rfl | rfl | rfl
      · exact ⟨0, rfl, by decide⟩
      · exact ⟨1, rfl, by decide⟩
      · exact ⟨2, rfl, by decide⟩
      · exact ⟨3, rfl, by decide⟩
      · exact ⟨5, rfl, by decide⟩
    obtain ⟨n, rfl, hn⟩ := hn
    refine ⟨p, lv, n, rfl, by omega, by omega, hn, hp2, fun t ls H3 pic pat _ hp3 bt3 => ?_⟩
    refine ⟨_, rfl, p, rfl, hp3, fun z H4 z0 z1 hp4 bt4 => ⟨(by show 3 ≤ sizeLine; decide), fun l3 n3 => ?_⟩⟩
    have s3 := same_of (o := .lst [V.int lv, V.ref t, V.int z]) n3
    exact q l3 t ⟨lv, ls, z⟩ _ ⟨hlv, pic, z0, z1⟩ ⟨by rw [delH_ne (hp4.ne n3), upd_same], (pat.same bt4.del).same (But.of s3).del⟩ (hp4.same s3) (bt2'.trans (bt3.trans (bt4.trans (But.of s3))))
end
end Lamp
set_option Elab.async false
set_option linter.all false
set_option maxRecDepth 100000
set_option maxHeartbeats 1000000
namespace Lamp
open PySem PySem.Spec PyProof.Rows L2
/-! exceptions raised, and asked of where they are handled -/
section
variable {X : Cx} {W : WX} {e : Expr} {te : TE} {pos : Pos}
/-- an expression that gives a new exception of the program, as what is raised -/
theorem pmk_xo (noEx : X.ex = []) (he : PE X e te) : PMk X e (fun σ H Q => te σ H fun x H1 => ∃ (a C : Addr) (d : Option Addr), x = .ref a ∧ H1 a = some (exo a C d) ∧ Fr0 X.H_0 a ∧ Raises X (.ref C) ∧ Q (.ref C) d (delH H1 a)) := by
  intro pins s σ H Q I told
  refine wpAny_mono (he.run pins s σ H _ I told) (fun u s1 made => ?_) fun _ _ z => z
  obtain ⟨v, H1, I1, rel, a, C, d, rfl, at_, fr, rs, q⟩ := made
  cases rel
  obtain ⟨t1, there⟩ := exo_at I1.hok at_
  obtain ⟨G, sub, gone, J⟩ := I1.untrack at_ fr noEx
  exact ⟨a, _, _, { s1 with heap := G }, delH H1 a, .ref C, d, rfl, J, sub, gone, there, ⟨rfl, rfl⟩, rfl, rfl, delH_same, rfl, I1.bare, rs, q⟩
theorem raises_ec {C : Addr} {B newId initId : String} {tail : List Value} (T : EC X.K C B newId initId tail) (ty : PySem.W.typeIn X.K (.ref C) = some (.type "type")) : Raises X (.ref C) := raises_own T.exC ty
end
/-! an exception that is handled, at p -/
/-- the exception's class and its dict -/
structure Pinned (p : Addr × Obj) (D dd : Addr) : Prop where
  z : Zc (.ref D) (some dd) p.2
  f : ∃ vs, p.2.data = .fields vs
section
variable {X : Cx} {p : Addr × Obj} {D dd : Addr}
theorem pinned_inst {pins : List (Addr × Obj)} {σ : L2.St} {H : Hp} {s : Shared} {fs : List (Str × V)} (I : Inv X pins σ H s) (hp : p ∈ X.pn) (Z : Pinned p D dd) (hd : H dd = some (exd dd fs)) : ∃ (mA : Str → Option Value) (o : Obj), PySem.W.InstAt s.heap p.1 p.2 D (some o) ∧ s.heap.Ns1 dd mA ∧ (∀ f, RelO (fs.lookup f) (mA f)) ∧ s.heap.get? dd = some o := by
  obtain ⟨⟨h1, h2⟩, vs, h3⟩ := Z
  obtain ⟨mA, nm, rel⟩ := exd_at I.hok hd
  obtain ⟨o, es, ep, ho, r⟩ := id nm
  have pin := (I.pin p (List.mem_append_left _ hp)).1
  exact ⟨mA, o, ⟨pin, h1, by unfold PySem.W.notCls; rw [h3] <;> rfl, by rw [h2]; exact ho⟩, nm, rel, ho⟩
/-- isinstance(e, c) of it -/
def rIsP (K : PySem.W.Frag) (a D dd : Addr) : List V → Hp → VK → Prop := fun xs H Q => ∃ (c : V) (u : Value) (b : Bool) (fs : List (Str × V)), xs = [.ref a, c] ∧ H dd = some (exd dd fs) ∧ ClsV c u ∧ PySem.W.kitOne K (.ref D) u = some b ∧ Q (.bl b) H
theorem call_isP (G : ClsG X.K) (T : ∃ (B newId initId : String) (tail : List Value), EC X.K D B newId initId tail) (hp : p ∈ X.pn) (Z : Pinned p D dd) : CallR X (.builtin "isinstance") (rIsP X.K p.1 D dd) := by
  intro pins s σ H xs us Q I r h
  obtain ⟨c, cv, b, fs, rfl, hd, hc, hk, q⟩ := h
  obtain ⟨u1, u2, rfl, r1, r2⟩ := vals2 r
  have e1 : u1 = Value.ref p.1 := r1
  subst e1
  have e2 := hc.eq r2
  subst e2
  obtain ⟨mA, o, J, _⟩ := pinned_inst I hp Z hd
  obtain ⟨B, newId, initId, tail, T⟩ := T
  have isCls : (PySem.W.clsIn X.K D).isSome = true := by
    obtain ⟨cd, hcd, _⟩ := PySem.W.any_some T.hd
    rw [hcd]
    rfl
  exact PySem.W.kia_one (PySem.W.kitx_exc isCls T.ga T.gg T.exC T.cls G.get G.tak T.obj) I.kIn J hk (fun z => nomatch z) fun tk => ⟨.bl b, H, I.tok tk, rfl, q⟩
/-- e.f of it -/
def tXfP (a dd : Addr) (f : Str) (te : TE) : TE := fun σ H Q => te σ H fun x H1 => x = .ref a ∧ ∃ (fs : List (Str × V)) (y : V), H1 dd = some (exd dd fs) ∧ fs.lookup f = some y ∧ Q y H1
theorem pe_xfP {e : Expr} {te : TE} {pos : Pos} {f : Str} (T : ∃ (B newId initId : String) (tail : List Value), EC X.K D B newId initId tail) (hno : PySem.W.findIn X.K (.ref D) f = some none) (hp : p ∈ X.pn) (Z : Pinned p D dd) (he : PE X e te)
    (hb : attributeBase e f X.env (eval e X.env) = eval e X.env := by rfl) : PE X (.Attribute e f pos) (tXfP p.1 dd f te) := by
  refine ⟨fun pins s σ H Q I h => attr_of hb (thn (he.run pins s σ H _ I h) fun u s1 ⟨x, H1, I1, r1, told⟩ => ?_)⟩
  obtain ⟨ex, fs, y, hd, hl, q⟩ := told
  subst ex
  have eu : u = Value.ref p.1 := r1
  subst eu
  obtain ⟨B, newId, initId, tail, T⟩ := T
  obtain ⟨mA, o, J, named, rel, ho⟩ := pinned_inst I1 hp Z hd
  obtain ⟨od, hod, look⟩ := lookIn_ns named
  rw [ho] at hod
  cases hod
  have rf := rel f
  rw [hl] at rf
  obtain ⟨v, hv, rv⟩ := RelO.some_of (v := y) (o := mA f) rf
  exact HandSPX.exc_get I1.kIn J T.ga T.gg T.exC (PySem.W.findObj_own T.hd hno rfl (by rw [look, hv])) (handed_of rv) ⟨y, H1, I1.tok _, rv, q⟩
end
/-! a def that is called where an exception is handled: what it promises of it -/
abbrev SpP := Addr → Addr → Addr → Sp
structure FnP (P : Program) (w : World) (K : PySem.W.Frag) (mg : Str → Option Value) (base : Heap) (k : Nat) (f : Addr) (fd : FuncData) (ps : List Str) (sp : SpP) : Prop where
  many : ∀ a D dd vs H Q E, sp a D dd vs H Q E → vs.length = ps.length
  goes : ∀ (A : Around) (out : List Env) (s : Shared) (H : Hp) (ar : Args) (us : List Value) (vs : List V) (Q : VK) (p : Addr × Obj) (D dd : Addr), A.guards = some [] → L2H.RoomH k A → L2H.PinOk out H s p → Pinned p D dd → Env0 P w K mg base A out s H →
    BindsTo s fd ar (ps.zip us) → Vals vs us → sp p.1 D dd vs H Q E0 → codeAny (model P w) A (.call (.ref f) ar) (CR CX0 out P w H s Q E0) s
section
variable {P : Program} {w : World} {K : PySem.W.Frag} {mg : Str → Option Value} {base : Heap}
/-- the rule for such a def, by its body -/
theorem okP {x qual : Str} {st : Stmt} {f : Addr} {fd : FuncData} {N ps : List Str} {k : Nat} {sp : SpP} (F : Fun K x qual st f fd) (S : FnScope N ps (defScope st)) (len : ∀ a D dd vs H Q E, sp a D dd vs H Q E → vs.length = ps.length)
    (hbody : ∀ (cdv : Value) (A : Around) (outer : List Env) (s : Shared) (H : Hp) (vs : List V) (Q : VK) (p : Addr × Obj) (D dd : Addr), A.guards = some [] → L2H.RoomH k (A.deeper (envOfC qual (defScope st) s.heap.objs.size f cdv)) → Pinned p D dd → sp p.1 D dd vs H Q E0 →
      ∃ t, PSs (L2H.cxH CX0 P w K mg base N qual (defScope st) f cdv A outer s H E0 p).nox (defBody st) t ∧ t { nx := fun _ H' => Q .non H', rt := Q } (start N vs) H) : FnP P w K mg base (k + 1) f fd ps sp := by
  obtain ⟨oc, od, kV, doc, pm, an, cdv, ct, osl, efd, hlk, hcode⟩ := F.ex
  subst efd
  refine ⟨len, fun A out s H ar us vs Q p D dd hgd hroom hpin hz hst hbind hvals hs => ?_⟩
  have hcount := len _ _ _ _ _ _ _ hs
  have inK : K.In s.heap := hst.mod.kin.keeps fun b o e => (hst.bs b o e).1
  have noLim : s.heap.NoLimit := hst.mod.nolimit.keeps fun b o e => (hst.bs b o e).1
  refine codeAny_call_function hroom.depth (inK _ _ hlk) rfl S.co S.gen rfl (PySem.W.codeRec_of inK hcode) (hbind _ _ _ _ ?_)
  refine wpAny_newFunctionEnv_cells S.kind (fun y hy => ?_) fun env eenv s1 xin => ?_
  · obtain ⟨nm, val⟩ := y
    cases S.par nm (List.of_mem_zip hy).1 with
    | inl isLocal => exact .inl isLocal
    | inr isCell => exact .inr ⟨isCell, PySem.W.cellsFrom_some _ _ _ (.inl isCell)⟩
  subst eenv
  refine ⟨noLim.keeps xin.toInCall.keep, codeAny_func ?_⟩
  obtain ⟨t, ht0, hq⟩ := hbody cdv A out s H vs Q p D dd hgd (hroom.deeper _) hz hs
  have ht := ht0.nox
  have inv0 : Inv (L2H.cxH CX0 P w K mg base N qual (defScope st) f cdv A out s H E0 p) [] (start N vs) H s1 := L2H.inv_startH S hpin hst hcount hvals xin
  have fin : ∀ {σ' : L2.St} {H' : Hp} {v : V} {u : Value} {s' : Shared}, Inv (L2H.cxH CX0 P w K mg base N qual (defScope st) f cdv A out s H E0 p) [] σ' H' s' → RelV v u → Q v H' → CE out P w H s Q u s' := fun J rv q => ⟨_, _, J.os, J.bare, J.base, J.hok, rv, q⟩
  refine wpAny_mono (ht.run [] s1 (start N vs) H _ inv0 hq) (fun flow s' told => ?_) fun e s' told => told
  match flow, told with
  | .ret u, ⟨v, σ', H', J, rv, q⟩ => exact fin J rv q
  | .next, ⟨σ', H', J, q⟩ => exact fin (v := V.non) (u := Value.none) J rfl q
  | .brk, ⟨_, _, _, q⟩ => exact False.elim q
  | .cont, ⟨_, _, _, q⟩ => exact False.elim q
end
section
variable {X : Cx} {k : Nat} {f : Addr} {fd : FuncData} {ps : List Str} {sp : SpP} {x : Str} {q pos : Pos} {e : Expr} {es : List Expr} {t : TA} {p : Addr × Obj} {D dd : Addr}
theorem runP {pins : List (Addr × Obj)} {σ : L2.St} {H : Hp} {s : Shared} {Q : VK} {us : List Value} {vs : List V} (F : FnP X.prog X.w X.K X.mg X.base k f fd ps sp) (hgd : X.A.guards = some []) (hr : L2H.RoomH k X.A) (hp : p ∈ X.pn) (Z : Pinned p D dd) (hb : Binds X.K fd ps [])
    (I : Inv X pins σ H s) (r : Vals vs us) (h : sp p.1 D dd vs H Q E0) : wpAny (model X.prog X.w) X.A (call (.ref f) us) (EP X pins σ Q) X.xe s := by
  have hl : (us ++ []).length = ps.length := by rw [List.append_nil, ← r.length]; exact F.many _ _ _ _ _ _ _ h
  have hbb := hb s us I.kIn hl
  rw [List.append_nil] at hbb
  obtain ⟨g1, g2, g3, g4, g5⟩ := I.pin p (List.mem_append_left _ hp)
  have pin : L2H.PinOk X.stack H s p := ⟨g1, g2, fun hm => (List.mem_cons.mp (I.stkSub p.1 hm)).elim g3 g4, g5⟩
  refine wpAny_call (codeAny_mono (F.goes X.A X.stack s H ⟨us, []⟩ us vs Q p D dd hgd hr pin Z I.env0 hbb r h) fun res s' told => ?_)
  match res, told with
  | .error _, told => exact False.elim told
  | .ok (.ret u), told => exact I.after told
  | .ok .next, told => exact False.elim told
  | .ok .brk, told => exact False.elim told
  | .ok .cont, told => exact False.elim told
/-- f(e, ..), where p is handled -/
theorem pe_callP (F : FnP X.prog X.w X.K X.mg X.base k f fd ps sp) (hgd : X.A.guards = some []) (hr : L2H.RoomH k X.A) (hp : p ∈ X.pn) (Z : Pinned p D dd) (hg : Gl X x) (hm : X.mg x = some (.ref f)) (hk : PySem.W.keepIn X.K (.ref f) = true) (hb : Binds X.K fd ps [])
    (ha : PA X (e :: es) t) (hdb : (x == ("__debug__" : Str)) = false := by decide) (he : starEach (e :: es) X.env = (false, eval e X.env) :: starEach es X.env := by rfl) (hpl : (backTo pos (starEach es X.env)).any (·.1) = false := by rfl) :
    PE X (.Call (.Name x q) (e :: es) [] pos) (tCallG (sp p.1 D dd) t) :=
  ⟨fun pins s σ H Q I h => wpAny_Call_Name_kw (ld_glob I hg hm (PySem.W.callWith_K (h₀ := X.base) I.ok.mod.kin hk (thn (ha.run pos pins s σ H _ I h) fun us s1 ⟨vs, H1, I1, r, q⟩ =>
    ⟨I1.kIn, runP F hgd hr hp Z hb I1 r q⟩) he hpl) hdb)⟩
end
end Lamp
set_option Elab.async false
set_option linter.all false
set_option maxRecDepth 100000
set_option maxHeartbeats 1000000
namespace Lamp
open PySem PySem.Spec PyProof.Rows L2
/-! try: body, except (A, B, C) as n: suite, where all that is raised is one of them -/
/-- a flying exception stays so when objects are laid -/
theorem flying_on {B h h' : Heap} {l : List Env} {a : Addr} {Z : Obj → Prop} (x : HandSPX.FlyingZ B l a Z h) (k : ∀ b o, h.get? b = some o → h'.get? b = some o) : HandSPX.FlyingZ B l a Z h' := by
  obtain ⟨g1, g2, g3, oe, vs, T, oT, ts, e1, e2, e3, e4, e5, e6, e7, e8, e9⟩ := x
  exact ⟨fun b o e => k b o (g1 b o e), g2, g3.of_keeps fun b o e _ => ⟨o, k b o e, rfl⟩, oe, vs, T, oT, ts, k _ _ e1, e2, e3, e4, e5, e6, k _ _ e7, e8, e9⟩
/-- the ends of a suite, behind which slot i is gone -/
def offI (i : Nat) (D : Ends) : Ends := { nx := fun σ' H' => D.nx (σ'.set i none) H', rt := D.rt, bk := fun σ' H' => D.bk (σ'.set i none) H', ct := fun σ' H' => D.ct (σ'.set i none) H' }
def wTup (K : PySem.W.Frag) (c1 c2 c3 : Value) (m i : Nat) (ts : Addr → Value → Option Addr → TS) (D : Ends) : WX := fun cls d σ H => σ.length = m →
  PySem.W.exmAny K cls [c1, c2, c3] = some true ∧ ∀ a, H a = none → ts a cls d (offI i D) (σ.set i (some (.ref a))) H
section
variable {X : Cx} {x1 x2 x3 n : Str} {c1 c2 c3 : Value} {i kk : Nat} {body suite : List Stmt} {b0 : Stmt} {p1 p2 p3 tp pos pos' : Pos} {tb : WX → TS} {ts : Addr → Value → Option Addr → TS}
theorem name_at {Y : Cx} {pins : List (Addr × Obj)} {σ : L2.St} {H : Hp} {s : Shared} {x : Str} {c : Value} {p : Pos} {Q : Value → Shared → Prop} {E : Value → Shared → Prop} (hc : Names Y x c) (I : Inv Y pins σ H s) (q : Q c s) : wpAny (model Y.prog Y.w) Y.A (eval (.Name x p) Y.env) Q E s := by
  obtain ⟨hg, hdbg, hm | ⟨hm, hv, hnn⟩⟩ := hc
  · exact ld_glob I hg hm q hdbg
  · exact ld_blt I hg hm hv q hnn hdbg
theorem ps_try_tup (onTop : X.stack = X.env :: X.outer) (framed : X.env.frame = some X.env.locals) (nodup : X.N.Nodup) (isN : X.N[i]? = some n) (isLoc : X.env.kindOf n = some .local) (n1 : Names X x1 c1) (n2 : Names X x2 c2) (n3 : Names X x3 c3)
    (inBody : ∀ (W : WX) (pn : List (Addr × Obj)) (xe : Value → Shared → Prop), Takes (X.tr pn xe) W → PassesOwn (model X.prog X.w) X.A X.env xe → PSs (X.tr pn xe) body (tb W))
    (inSuite : ∀ (a : Addr) (oe : Obj) (cls : Value) (d : Option Addr) (pn : List (Addr × Obj)), Zc cls d oe → (∃ vs, oe.data = .fields vs) → PSs (X.suite a ((a, oe) :: pn)) (b0 :: suite) (ts a cls d)) :
    PS X (.Try body [.ExceptHandler (some (.Tuple [.Name x1 p1, .Name x2 p2, .Name x3 p3] kk tp)) (some n) (b0 :: suite) pos'] [] [] pos) (fun D σ H => tb (wTup X.K c1 c2 c3 X.N.length i ts D) D σ H) := by
  refine ⟨fun pins s σ H D I told => wpAny_Try_except ?_⟩
  have xok := I.ok
  have frames : X.A.frames = some (X.env :: X.outer) := by rw [xok.frames, onTop]
  have isOwn : Loc X.env.scope n := .inl isLoc
  refine wpAny_mono ((inBody (wTup X.K c1 c2 c3 X.N.length i ts D) (X.pn ++ pins) _ (fun u s' air => ?_) PassesOwn.looking).run [] s σ H D (I.toTry _) told) (fun f s1 ended => ?_) (fun e s1 z => z)
  · obtain ⟨a, B, sI, pins', σ', H', cls, d, rfl, J', ground, ups, sky, na, os, ag, hits0⟩ := air
    have J : Inv X pins σ' H' sI := J'.ofTry xok
    obtain ⟨hits, q⟩ := hits0 J.len
    have sky' : Sky B (X.env :: X.outer) a (Zc cls d) X.env.locals s'.heap := by rw [← onTop]; exact sky
    show wpAny (model X.prog X.w) X.A (noteFrame (.ref a) X.env) _ _ _
    refine Sky.land Zc.steady frames framed sky' fun h3 fl3 up3 => ?_
    have J3 : Inv X pins σ' H' { s' with heap := h3 } := J.landed ground fl3.1 (ups.trans up3) os ag
    obtain ⟨oe3, vs3, he3, hz3, hd3⟩ := fl3.there
    have nfr : a ∉ frs (X.env :: X.outer) := fun hm => by
      obtain ⟨_, o', e', plain⟩ := fl3.2.2.1.mem hm
      rw [he3] at e'
      cases e'
      exact plain _ hd3
    have nL : a ≠ X.env.locals := fun z => nfr (List.mem_filterMap.mpr ⟨X.env, List.mem_cons_self, by rw [framed, z]⟩)
    have nF : a ∉ X.fs := fun hm => by
      obtain ⟨e, he, r⟩ := List.mem_filterMap.mp hm
      exact nfr (List.mem_filterMap.mpr ⟨e, List.mem_cons_of_mem _ he, r⟩)
    have S3 := J3.suite he3 hd3 na nL nF
    refine wpAny_handleBy_cons (codeAny_handlers_test ?_) (by intro q; cases q)
    have kp : ∀ b o, h3.get? b = some o → (h3.push { cls := .type "tuple", data := .seq [c1, c2, c3].toArray }).get? b = some o := fun _ _ z => Heap.get?_push_of_some _ z
    have fl4 := flying_on fl3 kp
    have LT : PySem.W.Looks (model X.prog X.w) (h3.push { cls := .type "tuple", data := .seq [c1, c2, c3].toArray }) (typeOf (.ref a)) cls := fun A Q E s k q => wpAny_typeOf_ref (k _ _ (kp _ _ he3)) (by rw [hz3.1]; exact q)
    have LM := PySem.W.exm_tup3 (M := model X.prog X.w) (J3.kIn.keeps kp) LT (Heap.get?_push_size h3 rfl) hits
    have m1 : Names (X.suite a ((a, oe3) :: (X.pn ++ pins))) x1 c1 := n1
    have m2 : Names (X.suite a ((a, oe3) :: (X.pn ++ pins))) x2 c2 := n2
    have m3 : Names (X.suite a ((a, oe3) :: (X.pn ++ pins))) x3 c3 := n3
    show wpAny (model X.prog X.w) (X.A.mark (some (.ref a))) _ _ _ _
    refine wpAny_Tuple (wpAny_items_cons (name_at m1 S3 (wpAny_items_cons (name_at m2 S3 (wpAny_items_cons (name_at m3 S3 (wpAny_items_nil ⟨by size_fits, ?_⟩)))))))
    refine LM.here ?_
    refine codeAny_handlers_suite_as ?_
    refine HandSPX.lands_againZ fl4 fun h5 fl5 up5 => ?_
    have upK : h3.UpToSlots (h3.push { cls := .type "tuple", data := .seq [c1, c2, c3].toArray }) := Heap.UpToSlots.of_keeps kp
    have J5 : Inv X pins σ' H' { s' with heap := h5 } := J.landed ground fl5.1 (((ups.trans up3).trans upK).trans up5) os ag
    obtain ⟨oe5, vs5, he5, hz5, hd5⟩ := fl5.there
    have S5 := J5.suite he5 hd5 na nL nF
    refine store_ok (X := X.suite a ((a, oe5) :: (X.pn ++ pins))) (v := .ref a) S5 nodup isN isOwn rfl (fun s6 S6 => ?_) (.inr isLoc)
    refine wpAny_mono ((inSuite a oe5 cls d (X.pn ++ pins) hz5 ⟨_, hd5⟩).run [] s6 _ H' _ S6 (q a na)) (fun f s7 ended => ?_) (fun _ _ z => False.elim z)
    have behind : ∀ {σ7 : L2.St} {H7 : Hp} {Q : Shared → Prop}, Inv (X.suite a ((a, oe5) :: (X.pn ++ pins))) [] σ7 H7 s7 → (∀ s8, Inv X pins (σ7.set i none) H7 s8 → Q s8) →
        wpAny (model X.prog X.w) X.A (do bindName X.env n .none; unbindBehindTheSuite X.env n pos') (fun _ s8 => Q s8) X.xe s7 := fun S7 hq => gone_ok (S7.unsuite xok) nodup isN isLoc hq
    match f, ended with
    | .next, ⟨_, _, S7, q7⟩ => exact behind S7 fun s8 J8 => ⟨_, _, J8, q7⟩
    | .brk, ⟨_, _, S7, q7⟩ => exact behind S7 fun s8 J8 => ⟨_, _, J8, q7⟩
    | .cont, ⟨_, _, S7, q7⟩ => exact behind S7 fun s8 J8 => ⟨_, _, J8, q7⟩
    | .ret u, ⟨_, _, _, S7, r7, q7⟩ => exact behind S7 fun s8 J8 => ⟨_, _, _, J8, r7, q7⟩
  · match f, ended with
    | .next, ⟨_, _, J', r⟩ => exact wpAny_execs_nil ⟨_, _, J'.ofTry xok, r⟩
    | .brk, ⟨_, _, J', r⟩ => exact ⟨_, _, J'.ofTry xok, r⟩
    | .cont, ⟨_, _, J', r⟩ => exact ⟨_, _, J'.ofTry xok, r⟩
    | .ret u, ⟨_, _, _, J', v, r⟩ => exact ⟨_, _, _, J'.ofTry xok, v, r⟩
end
end Lamp
set_option Elab.async false
set_option linter.all false
set_option maxRecDepth 100000
set_option maxHeartbeats 1000000
namespace Lamp
open PySem PySem.Spec PyProof.Rows L2
/-! xs.count(True), and what else an error's sorting needs -/
def rCntD (K : PySem.W.Frag) : V → List V → Hp → VK → Prop := fun x xs H Q => ∃ (a : Addr) (vs : List V) (y : V) (ds : List PyData) (d : PyData), x = .ref a ∧ xs = [y] ∧ SqL K H a vs ∧ DpAll K H vs ds ∧ Dp K H y d ∧ PyData.plainAll ds = true ∧ d.plain = true ∧ min (PyData.depthAll ds) d.depth ≤ 60 ∧
  Q (.int ((ds.countP fun z => PyData.eqv z d : Nat) : Int)) H
theorem mt_cntD {X : Cx} (hu : X.A.units + 64 < cLine) : MtR X "list.count" (rCntD X.K) := by
  intro pins s σ H x xs v us Q I rx rxs h
  obtain ⟨a, vs, y, ds, d, rfl, rfl, hs, hds, hd, p1, p2, hdep, q⟩ := h
  cases rx
  obtain ⟨u, rfl, ru⟩ := rxs.one
  obtain ⟨its, rv, ⟨o, n, ho, hc, hdn, hdt⟩, hlen⟩ := I.list hs
  obtain ⟨as, r1⟩ := Dp.readsAll I ds vs its hds rv
  obtain ⟨bs, r2⟩ := Dp.reads I d y u hd ru
  refine PySem.SeqAt.count_list_data (xs := ds) (d := d) ⟨o, ho, hc, n, hdt⟩ (by simpa using r1) r2 p1 p2 (by omega) ?_
  exact ⟨.int ((ds.countP fun z => PyData.eqv z d : Nat) : Int), H, I.tok _, ⟨s.toks, rfl⟩, q⟩
section
variable {K : PySem.W.Frag} {σ : L2.St} {H : Hp} {i : Nat} {a D D' dd : Addr} {b : Bool} {fs : List (Str × V)}
theorem v_isP (h : σ[i]? = some (some (.ref a))) (hd : H dd = some (exd dd fs)) (hk : PySem.W.kitOne K (.ref D) (.ref D') = some b) :
    Val (tCB (rIsP K a D dd) (tCons (tVar i) (tCons (tC (.ref D')) tNil))) σ H (.bl b) := fun Q q => ⟨_, h, _, _, b, fs, rfl, hd, .own D', hk, q⟩
theorem v_isPT {n : String} (h : σ[i]? = some (some (.ref a))) (hd : H dd = some (exd dd fs)) (hk : PySem.W.kitOne K (.ref D) (.type n) = some b) :
    Val (tCB (rIsP K a D dd) (tCons (tVar i) (tCons (tC (.ty n)) tNil))) σ H (.bl b) := fun Q q => ⟨_, h, _, _, b, fs, rfl, hd, .ty n, hk, q⟩
theorem v_xfP {f : Str} {y : V} (h : σ[i]? = some (some (.ref a))) (hd : H dd = some (exd dd [(f, y)])) : Val (tXfP a dd f (tVar i)) σ H y := fun Q q => ⟨_, h, rfl, _, y, hd, by rw [List.lookup_cons, beq_self_eq_true], q⟩
theorem dp_bools {l : Addr} {bs : List Bool} (h : H l = some (.lst (bs.map V.bl))) : Dp K H (.ref l) (.list (bs.map PyData.bool)) := by
  refine .lst (SqL.of h) ?_
  clear h
  induction bs with
  | nil => exact .nil
  | cons c r ih => exact .cons (.bl c) ih
theorem dpAll_bools : ∀ {bs : List Bool}, DpAll K H (bs.map V.bl) (bs.map PyData.bool)
  | [] => .nil
  | c :: r => .cons (.bl c) dpAll_bools
end
end Lamp
set_option Elab.async false
set_option linter.all false
set_option maxRecDepth 100000
set_option maxHeartbeats 1000000
namespace Lamp
open PySem PySem.Spec PyProof.Rows L2 LamX
/-! a def that calls what it got, and tells what it gives back, or what it raises -/
/-- what it makes of the lambda's reading -/
abbrev ansN : List Str := ["_law_call_here", "_law_got", "_law_e"]
def backE (f : Addr) (Q : VK) : VK := fun v H' => tRet (tLst (tCons (tC (.str "back")) (tCons (tVar 1) tNil))) { nx := fun _ H' => Q .non H', rt := Q } ((L2.start ansN [.ref f]).set 1 (some v)) H'
theorem back_run {f : Addr} {Q : VK} {v : V} {H' : Hp} (q : ∀ l, H' l = none → Q (.ref l) (upd H' l (.lst [.str "back", v]))) : backE f Q v H' := ⟨v, rfl, (by show 2 ≤ sizeLine; decide), q⟩
def raisE (K : PySem.W.Frag) (c1 c2 c3 : Value) (sp : SpP) (Q : VK) : XK := fun cls d H' => ∃ D dd, cls = .ref D ∧ d = some dd ∧ PySem.W.exmAny K cls [c1, c2, c3] = some true ∧ ∀ a, H' a = none → sp a D dd [.ref a] H' Q E0
def TTans (K : PySem.W.Frag) (c1 c2 c3 : Value) (sp : SpP) : (XK → Hp → VK → Prop) → Hp → VK → Prop := fun tl H Q => ∀ f, tl (raisE K c1 c2 c3 sp Q) H (backE f Q)
/-- its suite -/
def tSuiteA (sp : SpP) (a : Addr) (cls : Value) (d : Option Addr) : TS := fun D' σ H => ∃ D dd, cls = .ref D ∧ d = some dd ∧ tRet (tCallG (sp a D dd) (tCons (tVar 2) tNil)) D' σ H
section
variable {P : Program} {w : World} {K : PySem.W.Frag} {mg : Str → Option Value} {base : Heap}
/-- what is known of the def that sorts errors -/
structure SortR (P : Program) (w : World) (K : PySem.W.Frag) (mg : Str → Option Value) (base : Heap) (sp : SpP) (k : Nat) : Prop where
  ex : ∃ (f : Addr) (fd : FuncData), FnP P w K mg base k f fd ["_law_e"] sp ∧ Binds K fd ["_law_e"] [] ∧ mg "_law_sort" = some (.ref f) ∧ PySem.W.keepIn K (.ref f) = true
theorem ans_gives {X : Cx} {x q : Str} {sg : Scope} {g cA cB cC : Addr} {cdg : Value} {k j1 j2 : Nat} {sp : SpP} {p1 p2 p3 p4 p5 p6 p7 p8 p9 p10 p11 p12 p13 p14 p15 p16 p17 p18 : Pos} (hgd : X.A.guards = some []) (hr : Room (k + 1) X.A) (S : SortR X.prog X.w X.K X.mg X.base sp k)
    (Sg : FnScope ansN ["_law_call_here"] sg) (mA : X.mg "WrongValue" = some (.ref cA)) (mB : X.mg "WrongName" = some (.ref cB)) (mC : X.mg "NotPossible" = some (.ref cC)) (v1 : sg.names.lookup ("_law_got" : Str) = some NameKind.local) (v2 : sg.names.lookup ("_law_e" : Str) = some NameKind.local)
    (gA : sg.names.lookup ("WrongValue" : Str) = some .globalImplicit) (gB : sg.names.lookup ("WrongName" : Str) = some .globalImplicit) (gC : sg.names.lookup ("NotPossible" : Str) = some .globalImplicit) (gS : sg.names.lookup ("_law_sort" : Str) = some .globalImplicit) :
    GivesTo X ansN x sg g cdg [.Try [.Assign [.Name "_law_got" p1] (.Call (.Name "_law_call_here" p2) [] [] p3) p4] [.ExceptHandler (some (.Tuple [.Name "WrongValue" p5, .Name "WrongName" p6, .Name "NotPossible" p7] j1 p8)) (some "_law_e") [.Return (some (.Call (.Name "_law_sort" p9) [.Name "_law_e" p10] [] p11)) p12] p13] [] [] p14,
      .Return (some (.List [.Constant (.str "back") j2 p15, .Name "_law_got" p16] p17)) p18] "_law_call_here" q (TTans X.K (.ref cA) (.ref cB) (.ref cC) sp) := by
  intro f c' s H Q tl act hc h
  obtain ⟨fS, fdS, F, b, m, kp⟩ := S.ex
  have rm : L2H.RoomH k (X.A.deeper (envOfC x sg s.heap.objs.size g cdg)) := L2H.roomH_of (hr.deeper _)
  refine ⟨_, pss_cons (ps_try_tup (X := (cxOf C8.CX0 X.prog X.w X.K X.mg X.base ansN x sg g cdg X.A X.stack s H C8.E0).nox) (i := 2) (c1 := .ref cA) (c2 := .ref cB) (c3 := .ref cC)
      (tb := fun W D σ H => ∃ Ech : XK, (∀ cls d σ' H', Ech cls d H' → W cls d σ' H') ∧ σ[0]? = some (some (.ref f)) ∧ H c' = some (CodeO c' q) ∧ tl Ech H (fun v H' => D.nx (σ.set 1 (some v)) H')) (ts := tSuiteA sp)
      rfl rfl Sg.nd rfl v2 ⟨gA, rfl, .inl mA⟩ ⟨gB, rfl, .inl mB⟩ ⟨gC, rfl, .inl mC⟩ (fun W pn xe tk _ => ?_) (fun a oe cls d pn hz hf => ?_)) (pss_one (ps_ret (pe_lst (pa_cons pe_str (pa_cons (pv (x := "_law_got") 1 rfl (.inl v1)) pa_nil))))), ?_⟩
  · refine ⟨fun pins s' σ H' D I h' => ?_⟩
    obtain ⟨Ech, hW, h1, h2, h3⟩ := h'
    have hp := act W pn xe Ech p2 p3 tk hW
    have hs : PS ((cxOf C8.CX0 X.prog X.w X.K X.mg X.base ansN x sg g cdg X.A X.stack s H C8.E0).tr pn xe) (.Assign [.Name "_law_got" p1] (.Call (.Name "_law_call_here" p2) [] [] p3) p4) _ := ps_set (i := 1) Sg.nd rfl (.inl v1) hp
    exact (pss_one hs).run pins s' σ H' D I ⟨h1, h2, h3⟩
  · refine ⟨fun pins s' σ H' D I h' => ?_⟩
    obtain ⟨Dc, dd, rfl, rfl, h'⟩ := h'
    refine PSs.run (pss_one (ps_ret (pe_callP (X := ((cxOf C8.CX0 X.prog X.w X.K X.mg X.base ansN x sg g cdg X.A X.stack s H C8.E0).nox).suite a ((a, oe) :: pn)) (p := (a, oe)) (D := Dc) (dd := dd) F hgd ⟨rm.dp, rm.un⟩ (List.mem_cons_self ..) ⟨hz, hf⟩ gS m kp b (pa_cons (pv (x := "_law_e") 2 rfl (.inl v2)) pa_nil)))) pins s' σ H' D I h'
  · refine ⟨raisE X.K (.ref cA) (.ref cB) (.ref cC) sp Q, ?_, rfl, hc, h f⟩
    rintro cls d σ' H' ⟨Dc, dd, rfl, rfl, e, hq⟩ hlen
    refine ⟨e, fun a na => ⟨Dc, dd, rfl, rfl, .ref a, ?_, hq a na⟩⟩
    have l3 : σ'.length = 3 := hlen
    have l2 : 2 < σ'.length := by omega
    exact List.getElem?_set_self l2
/-- what is known of the def -/
structure AnsR (P : Program) (w : World) (K : PySem.W.Frag) (mg : Str → Option Value) (base : Heap) (cA cB cC : Addr) (sp : SpP) (k : Nat) : Prop where
  S : SortR P w K mg base sp k
  mA : mg "WrongValue" = some (.ref cA)
  mB : mg "WrongName" = some (.ref cB)
  mC : mg "NotPossible" = some (.ref cC)
  ex : ∃ (g : Addr) (st : Stmt) (fd : FuncData) (j1 j2 : Nat) (p1 p2 p3 p4 p5 p6 p7 p8 p9 p10 p11 p12 p13 p14 p15 p16 p17 p18 : Pos), Fun K "_law_answer" "_law_answer" st g fd ∧ Binds K fd ["_law_call_here"] [] ∧ mg "_law_answer" = some (.ref g) ∧ PySem.W.keepIn K (.ref g) = true ∧
    FnScope ansN ["_law_call_here"] (defScope st) ∧ ((defScope st).names.lookup ("_law_call_here" : Str) = some NameKind.local ∧ (defScope st).names.lookup ("_law_got" : Str) = some NameKind.local ∧ (defScope st).names.lookup ("_law_e" : Str) = some NameKind.local) ∧
    ((defScope st).names.lookup ("WrongValue" : Str) = some .globalImplicit ∧ (defScope st).names.lookup ("WrongName" : Str) = some .globalImplicit ∧ (defScope st).names.lookup ("NotPossible" : Str) = some .globalImplicit ∧ (defScope st).names.lookup ("_law_sort" : Str) = some .globalImplicit) ∧
    defBody st = [.Try [.Assign [.Name "_law_got" p1] (.Call (.Name "_law_call_here" p2) [] [] p3) p4] [.ExceptHandler (some (.Tuple [.Name "WrongValue" p5, .Name "WrongName" p6, .Name "NotPossible" p7] j1 p8)) (some "_law_e") [.Return (some (.Call (.Name "_law_sort" p9) [.Name "_law_e" p10] [] p11)) p12] p13] [] [] p14,
      .Return (some (.List [.Constant (.str "back") j2 p15, .Name "_law_got" p16] p17)) p18]
/-- _law_answer(lambda: body) -/
theorem pe_ans {X : Cx} {cA cB cC c Pt : Addr} {sp : SpP} {k kS : Nat} {T : List (Addr × Str)} {params : Arguments} {body : Expr} {scope : Scope} {t : XK → TE} {p lpos pos : Pos} (Z : AnsR X.prog X.w X.K X.mg X.base cA cB cC sp kS) (hk : kS ≤ k + 1) (hgd : X.A.guards = some []) (hr : Room (k + 2) X.A) (hg : Gl X "_law_answer")
    (TB : TabB X.base X.mg c Pt) (hcode : X.env.code = .ref c) (hmT : (Pt, X.env.qual ++ "<lambda>") ∈ T) (hu : ∀ p ∈ T, p.1 = Pt → p.2 = X.env.qual ++ "<lambda>") (L : LamS X.env.scope scope) (hdef : defaultsOf params X.env = ([], []))
    (hbind : ∀ (q : Str) (cl : List (Str × Addr)) (pm cv ctv : Value), bindArgs (PySem.W.kla_fn "<lambda>" q params body scope cl pm cv ctv) ⟨[], []⟩ = pure [])
    (hbody : ∀ (A : Around) (outer : List Env) (s : Shared) (H : Hp) (E : XK) (f c' : Addr), Room k (A.deeper (lamEnv X scope s.heap.objs.size f c')) → PE (lamCx X A outer s H E scope f c') body (t E)) :
    PE X (.Call (.Name "_law_answer" p) [.Lambda params body scope lpos] [] pos) (tLam T (TTans X.K (.ref cA) (.ref cB) (.ref cC) sp) t) := by
  obtain ⟨g, st, fd, j1, j2, p1, p2, p3, p4, p5, p6, p7, p8, p9, p10, p11, p12, p13, p14, p15, p16, p17, p18, F, b, m, kp, Sg, ⟨v0, v1, v2⟩, ⟨gA, gB, gC, gS⟩, hbg⟩ := Z.ex
  obtain ⟨oc, od, kV, doc, pm, an, cdv, ct, osl, efd, hlk, hcodeA⟩ := F.ex
  subst efd
  rw [hbg] at hlk b
  exact pe_lamcall (bg := _) (k := k) (a := "_law_call_here") (Ng := ansN) hg m kp hlk hcodeA b Sg rfl (.inl v0) (ans_gives (k := k + 1) hgd hr ⟨by
    obtain ⟨f1, fd1, F1, r1⟩ := Z.S.ex
    exact ⟨f1, fd1, ⟨F1.many, fun A out s H ar us vs Q p D dd h1 h2 => F1.goes A out s H ar us vs Q p D dd h1 (h2.mono hk)⟩, r1⟩⟩ Sg Z.mA Z.mB Z.mC v1 v2 gA gB gC gS) TB hcode hmT hu hr L hdef hbind hbody
end
end Lamp
set_option Elab.async false
set_option linter.all false
set_option maxRecDepth 100000
set_option maxHeartbeats 1000000
namespace Lamp
open PySem PySem.Spec PyProof.Rows L2 LamX
/-! the end of a law whose defs make lambdas: the tables of their code objects -/
abbrev tabO : Obj := { cls := .none, data := .fields #[] }
abbrev MainB (mg : Str → Option Value) (h : Heap) : Prop := ∃ (bm : Addr) (ob : Obj), mg "__builtins__" = some (.ref bm) ∧ bm ≠ builtinsNs ∧ h.get? bm = some ob ∧ ob.cls = .type "module" ∧ ob.dict = some builtinsNs ∧ ob.data = .plain
theorem law_goesT {P : Program} {w : World} {K : PySem.W.Frag} {mg mb : Str → Option Value} {k : Nat} {fa a : Addr} {cs : List (Addr × Addr)} {fd : FuncData} {x : Str} {sp : Sp} {sh : Shared} {vs : List Value} {H : Hp}
    (inK : K.In sh.heap) (nsG : sh.heap.Ns mainGlobals mg) (nsB : sh.heap.Ns builtinsNs mb) (bltn : ∀ x : Str, x ≠ "__name__" → mb x = bootBuiltins x) (noLim : sh.heap.NoLimit) (noGen : sh.gens = #[])
    (tabs : ∀ p ∈ cs, sh.heap.get? p.2 = some tabO) (codes : ∀ p ∈ cs, PySem.W.CodeHd sh.heap p.1 p.2) (mainB : MainB mg sh.heap)
    (there : sh.heap.get? a = some { cls := .type "list", data := .seq vs.toArray }) (room : Room k callerA)
    (F : ∀ base : Heap, K.In base → base.Ns mainGlobals mg → (∀ p ∈ cs, TabB base mg p.1 p.2) → FnG P w K mg base k fa fd [x] sp) (hbind : ∀ (s : Shared) (u : Value), BindsTo s fd ⟨[u], []⟩ [(x, u)])
    (asked : sp [.ref a] H (fun v _ => v = .bl true) E0) (hok : HOk P w H sh.heap) (hH : ∀ p ∈ cs, H p.2 = some (.tbl #[]))
    (kinds : ∀ b u, H b = some u → K.lookup b = none ∧ ((b = a ∧ ∃ o xs, u = .frz o (.lst xs)) ∨ ∃ p ∈ cs, p.2 = b)) :
    codeAny (model P w) callerA (.call (.ref fa) ⟨[.ref a], []⟩) (fun r s' => r = .ok (.ret (.bool true)) ∧ OldK sh.heap s'.heap ∧ s'.os = sh.os ∧ AllBare s'.gens) sh := by
  have untold : ∀ {b : Addr} {o : Obj}, sh.heap.get? b = some o → o.cls ≠ .type "list" → o.cls ≠ .none → H b = none := fun {b o} e n1 n2 => by
    cases q : H b with
    | none => rfl
    | some u =>
      rcases (kinds b u q).2 with ⟨eb, _⟩ | ⟨p, hp, eb⟩
      · rw [eb, there] at e
        cases e
        exact absurd rfl n1
      · have z := tabs p hp
        rw [eb, e] at z
        cases z
        exact absurd rfl n2
  have notDict : ∀ {b : Addr} {o : Obj} {es : Array DictEntry} {ep : Nat}, sh.heap.get? b = some o → o.data = .dict es ep → H b = none := fun {b o es ep} e d => by
    cases q : H b with
    | none => rfl
    | some u =>
      rcases (kinds b u q).2 with ⟨eb, _⟩ | ⟨p, hp, eb⟩
      · rw [eb, there] at e
        cases e
        cases d
      · have z := tabs p hp
        rw [eb, e] at z
        cases z
        cases d
  have nsKeep : ∀ {b : Addr} {m : Str → Option Value}, sh.heap.Ns b m → (hidT sh.heap H).Ns b m := fun {b m} ⟨o, es, ep, e, d, r⟩ => ⟨o, es, ep, hidT_get e (notDict e d), d, r⟩
  have inK' : K.In (hidT sh.heap H) := fun b o e => hidT_get (inK b o e) (by
    cases q : H b with
    | none => rfl
    | some u =>
      have z := (kinds b u q).1
      rw [z] at e
      cases e)
  obtain ⟨mc, lim1, lim2⟩ := noLim
  have isMod : L2.Mod K mg (hidT sh.heap H) := ⟨inK', nsKeep nsG, ⟨mb, nsKeep nsB, bltn⟩, ⟨mc, nsKeep lim1, lim2⟩⟩
  have mainG : ∀ b, sh.heap.get? b = some tabO → mainGlobals ≠ b := fun b e z => by
    obtain ⟨o, es, ep, e1, d, _⟩ := nsG
    rw [z, e] at e1
    cases e1
    cases d
  have tabB : ∀ p ∈ cs, TabB (hidT sh.heap H) mg p.1 p.2 := fun p hp => by
    refine ⟨?_, ?_, mainG _ (tabs p hp)⟩
    · obtain ⟨o, us, file, tf, flags, tg, inF, text, tt, e1, r1, r2, more⟩ := codes p hp
      exact ⟨o, us, file, tf, flags, tg, inF, text, tt, hidT_get e1 (untold e1 (by rw [r1]; decide) (by rw [r1]; intro z; cases z)), r1, r2, more⟩
    · obtain ⟨bm, ob, b1, b2, b3, b4, b5, b6⟩ := mainB
      refine ⟨bm, ob, b1, b2, fun q => ?_, fun q => ?_, hidT_get b3 (untold b3 (by rw [b4]; decide) (by rw [b4]; intro z; cases z)), b4, b5, b6⟩
      · obtain ⟨o, es, ep, e, d, _⟩ := nsG
        rw [q, e] at b3
        cases b3
        rw [d] at b6
        cases b6
      · rw [q, tabs p hp] at b3
        cases b3
        cases b6
  have start0 : Env0 P w K mg (hidT sh.heap H) callerA [] sh H :=
    { frames := rfl, mod := isMod, bs := fun b o e => of_hidT e, bsz := Nat.le_of_eq (hidT_size _ _), funs := trivial, frf := (fun b hb => nomatch hb), hok := hok, bare := .of_eq noGen }
  refine codeAny_mono ((F _ inK' (nsKeep nsG) tabB).goes callerA [] sh H ⟨[.ref a], []⟩ [.ref a] [.ref a] _ _ rfl room start0 (hbind sh (.ref a)) (.cons rfl .nil) asked) fun res s' told => ?_
  match res, told with
  | .error _, told => exact False.elim told
  | .ok .next, told => exact False.elim told
  | .ok .brk, told => exact False.elim told
  | .ok .cont, told => exact False.elim told
  | .ok (.ret u), ⟨v, H', os, bare, un, hok', rv, ev⟩ =>
    have ev' : v = .bl true := ev
    subst ev'
    have eu : u = Value.bool true := rv
    subst eu
    have grown : ∀ p ∈ cs, ∃ more : Array Value, s'.heap.get? p.2 = some { cls := .none, data := .fields more } := fun p hp => by
      obtain ⟨more, z⟩ := un.tbls p.2 #[] (hH p hp)
      exact ⟨_, hok' p.2 _ z⟩
    have kept : ∀ b o, (∀ p ∈ cs, p.2 ≠ b) → sh.heap.get? b = some o → s'.heap.get? b = some o := fun b o nb e => by
      cases q : H b with
      | none => exact un.keep b o e q (fun z => nomatch z) (fun z => nomatch z)
      | some u =>
        rcases (kinds b u q).2 with ⟨_, ob, xs, rfl⟩ | ⟨p, hp, eb⟩
        · have old := (hok b _ q).1
          have new := (hok' b _ (un.frzs b ob _ q)).1
          rw [e] at old
          cases old
          exact new
        · exact absurd eb (nb p hp)
    refine ⟨rfl, ⟨fun b o e => ?_, fun b o e => ?_⟩, os, bare⟩
    · by_cases hb : ∃ p ∈ cs, p.2 = b
      · obtain ⟨p, hp, rfl⟩ := hb
        obtain ⟨more, hm⟩ := grown p hp
        have z := tabs p hp
        rw [e] at z
        cases z
        exact .inr (.inl ⟨((codes p hp).tab (tabs p hp)).isCodeTable, rfl, #[], more, rfl, by rw [Array.empty_append]; exact hm⟩)
      · exact .inl (kept b o (fun p hp z => hb ⟨p, hp, z⟩) e)
    · by_cases hb : ∃ p ∈ cs, p.2 = b
      · obtain ⟨p, hp, rfl⟩ := hb
        obtain ⟨more, hm⟩ := grown p hp
        exact ⟨_, hm⟩
      · exact ⟨o, kept b o (fun p hp z => hb ⟨p, hp, z⟩) e⟩
/-- the place of a code object, and of its table -/
def codeA : Value → Addr
  | .ref c => c
  | _ => 0
def tabIn (K : PySem.W.Frag) (c : Addr) : Option Addr := match K.lookup c with
  | some ⟨_, _, .fields vs, _⟩ => (match (vs[11]? : Option Value) with
    | some (Value.ref q) => some q
    | _ => none)
  | _ => none
def tabA (K : PySem.W.Frag) (v : Value) : Addr := (tabIn K (codeA v)).getD 0
def isStrV : Value → Bool
  | .str _ _ => true
  | _ => false
def isIntV : Value → Bool
  | .int _ _ => true
  | _ => false
def isBoolV : Value → Bool
  | .bool _ => true
  | _ => false
def isRefV : Value → Bool
  | .ref _ => true
  | _ => false
def codeB (K : PySem.W.Frag) (v : Value) : Bool := isRefV v && (match K.lookup (codeA v) with
  | some ⟨.type t, _, .fields vs, _⟩ => decide (t = "code") && (decide (vs[11]? = some (.ref (tabA K v))) && (isStrV (vs.getD 18 .none) && (isIntV (vs.getD 7 .none) && (isBoolV (vs.getD 9 .none) && (isIntV (vs.getD 10 .none) && (decide (codeA v ≠ tabA K v) && (K.lookup (tabA K v)).isNone))))))
  | _ => false)
theorem codeB_ok {K : PySem.W.Frag} {v : Value} (h : codeB K v = true) : v = .ref (codeA v) ∧ K.lookup (tabA K v) = none ∧ ∃ dd vs sl, K.lookup (codeA v) = some ⟨.type "code", dd, .fields vs, sl⟩ ∧ vs[11]? = some (.ref (tabA K v)) ∧ ∀ hp : Heap, K.In hp → PySem.W.CodeHd hp (codeA v) (tabA K v) := by
  unfold codeB at h
  simp only [Bool.and_eq_true] at h
  obtain ⟨h1, h⟩ := h
  have isR : v = .ref (codeA v) := by
    cases v <;> first | rfl | (cases h1)
  refine ⟨isR, ?_⟩
  split at h
  · rename_i t dd vs sl look
    simp only [Bool.and_eq_true, decide_eq_true_eq] at h
    obtain ⟨rfl, h2, h3, h4, h5, h6, h7, h8⟩ := h
    refine ⟨Option.isNone_iff_eq_none.mp h8, dd, vs, sl, look, h2, fun hp inK => ?_⟩
    have e11 : vs.getD 11 .none = .ref (tabA K v) := by
      obtain ⟨l, e⟩ := Array.getElem?_eq_some_iff.mp h2
      unfold Array.getD
      rw [dif_pos l]
      exact e
    obtain ⟨s1, s2, es⟩ : ∃ a b, vs.getD 18 .none = .str a b := by
      generalize vs.getD 18 .none = z at h3 ⊢
      cases z <;> first | exact ⟨_, _, rfl⟩ | (cases h3)
    obtain ⟨i1, i2, ei⟩ : ∃ a b, vs.getD 7 .none = .int a b := by
      generalize vs.getD 7 .none = z at h4 ⊢
      cases z <;> first | exact ⟨_, _, rfl⟩ | (cases h4)
    obtain ⟨b1, eb⟩ : ∃ a, vs.getD 9 .none = .bool a := by
      generalize vs.getD 9 .none = z at h5 ⊢
      cases z <;> first | exact ⟨_, rfl⟩ | (cases h5)
    obtain ⟨j1, j2, ej⟩ : ∃ a b, vs.getD 10 .none = .int a b := by
      generalize vs.getD 10 .none = z at h6 ⊢
      cases z <;> first | exact ⟨_, _, rfl⟩ | (cases h6)
    exact ⟨_, vs, s1, s2, i1, i2, b1, j1, j2, inK _ _ look, rfl, rfl, h2, e11, es, ei, eb, ej, h7⟩
  · cases h
/-- a def of the top with its code object's table -/
def TabOf (K : PySem.W.Frag) (mg : Str → Option Value) (xs : List Str) (p : Addr × Addr) : Prop := ∃ x ∈ xs, ∃ (f : Addr) (o : Obj) (fd : FuncData) (v : Value), mg x = some (.ref f) ∧ K.lookup f = some o ∧ o.data = .func fd ∧ fd.code = v ∧ codeB K v = true ∧ p = (codeA v, tabA K v)
open PySem.W in
theorem walk_ofGT {l : PySem.W.OpenLaw} {n k : Nat} {q : Program} {loose : List Str} {XP : (Str → Option Value) → Heap → Prop} {YP : World → Heap → Prop} {d : DefRec} {K : Params → PySem.W.Frag} {x : Str} (xs : List Str)
    (hn : l.most = some n) (hn2 : n ≤ sizeLine) (hdf : d.params.defaults = []) (hr : Room k callerA) (hrec : ∀ x ∈ xs, ((recsOf q).any fun e => e.name == x) = true) (hY : ∀ (w : World) (h : Heap), YP w h → (K w.params).In h)
    (F : ∀ (w : World) (mg : Str → Option Value) (fa : Addr) (h : Heap), (K w.params).In h → h.Ns mainGlobals mg → mg d.name = some (.ref fa) → ∃ (fd : FuncData) (cs : List (Addr × Addr)) (sp : Sp), (∀ p ∈ cs, TabOf (K w.params) mg xs p) ∧ (∀ (s : Shared) (u : Value), BindsTo s fd ⟨[u], []⟩ [(x, u)]) ∧
      (∀ (H : Hp) (a : Addr) (ns : List Int), ns.length ≤ n → (∀ z ∈ ns, Builtin.Int.intBits z ≤ 1048576) → (∀ p ∈ cs, H p.2 = some (.tbl #[])) → SqL (K w.params) H a (ns.map V.int) → sp [.ref a] H (fun v _ => v = .bl true) E0) ∧
        ∀ base : Heap, (K w.params).In base → base.Ns mainGlobals mg → (∀ p ∈ cs, TabB base mg p.1 p.2) → FnG l.prog w (K w.params) mg base k fa fd [x] sp) :
    PySem.W.WalkO q loose XP YP l.row.toRowW d [] (fun f vs => PySem.call f vs) :=
  Att.attach_callB hn hdf fun w s₀ s₁ mg mb fa o pm cd doc a vs ns G Y ho hd hcd hmg hobj hints hlen hbits hg => by
    have inK := hY w _ Y
    obtain ⟨fd, cs, sp, tabs, hb, hsp, hF⟩ := F w mg fa _ inK G.T.g hmg
    have facts : ∀ p ∈ cs, s₁.heap.get? p.2 = some tabO ∧ (K w.params).lookup p.2 = none ∧ PySem.W.CodeHd s₁.heap p.1 p.2 := fun p hp => by
      obtain ⟨y, hy, f, o1, fd1, v, m1, k1, k2, k3, cb, rfl⟩ := tabs p hp
      obtain ⟨ev, noTab, dd, vs1, sl, k4, k5, hd1⟩ := codeB_ok cb
      refine ⟨?_, noTab, hd1 _ inK⟩
      obtain ⟨dL, hm, hn1⟩ := List.any_eq_true.mp (hrec y hy)
      have hn2 : dL.name = y := beq_iff_eq.mp hn1
      obtain ⟨a', o', fd', c', P', h1, h2, h3, h4, h5, h6⟩ := G.T.tab dL hm
      rw [hn2, m1] at h1
      cases h1
      have g1 := inK _ _ k1
      rw [g1] at h2
      cases h2
      rw [k2] at h3
      cases h3
      rw [k3, ev] at h4
      cases h4
      obtain ⟨⟨oc, vc, e1, _, e3, e4⟩, hP⟩ := h6
      have g2 := inK _ _ k4
      rw [g2] at e1
      cases e1
      cases e3
      rw [k5] at e4
      cases e4
      exact hP
    have same := hints.length
    have vals := vals_ints hints
    have short : ns.length ≤ sizeLine := Nat.le_trans hlen hn2
    have notA : ∀ p ∈ cs, p.2 ≠ a := fun p hp z => by
      have e := (facts p hp).1
      rw [z, hobj] at e
      cases e
    cases look : (K w.params).lookup a with
    | some ob =>
      have e := inK a ob look
      rw [hobj] at e
      cases e
      let H : Hp := fun b => if b ∈ cs.map (·.2) then some (.tbl #[]) else none
      have on : ∀ p ∈ cs, H p.2 = some (.tbl #[]) := fun p hp => if_pos (List.mem_map.mpr ⟨p, hp, rfl⟩)
      refine law_goesT (H := H) (cs := cs) inK G.T.g G.T.b G.T.builtins G.T.nolimit hg (fun p hp => (facts p hp).1) (fun p hp => (facts p hp).2.2) G.T.bmain hobj hr hF hb (hsp H a ns hlen hbits on ?_) (fun b u z => ?_) on (fun b u z => ?_)
      · exact .inr ⟨_, vs.toArray, _, look, rfl, rfl, rfl, by rw [List.size_toArray, same]; exact short, vals⟩
      · by_cases hb : b ∈ cs.map (·.2)
        · have z2 := (if_pos hb).symm.trans z
          cases z2
          obtain ⟨p, hp, rfl⟩ := List.mem_map.mp hb
          exact (facts p hp).1
        · have z2 := (if_neg hb).symm.trans z
          cases z2
      · by_cases hb : b ∈ cs.map (·.2)
        · obtain ⟨p, hp, rfl⟩ := List.mem_map.mp hb
          exact ⟨(facts p hp).2.1, .inr ⟨p, hp, rfl⟩⟩
        · have z2 := (if_neg hb).symm.trans z
          cases z2
    | none =>
      let held : HO := .frz { cls := .type "list", data := .seq vs.toArray } (.lst (ns.map V.int))
      let H : Hp := fun b => if b = a then some held else if b ∈ cs.map (·.2) then some (.tbl #[]) else none
      have on : ∀ p ∈ cs, H p.2 = some (.tbl #[]) := fun p hp => (if_neg (notA p hp)).trans (if_pos (List.mem_map.mpr ⟨p, hp, rfl⟩))
      have atA : H a = some held := if_pos rfl
      refine law_goesT (H := H) (cs := cs) inK G.T.g G.T.b G.T.builtins G.T.nolimit hg (fun p hp => (facts p hp).1) (fun p hp => (facts p hp).2.2) G.T.bmain hobj hr hF hb (hsp H a ns hlen hbits on (.inl (.inr ⟨_, atA⟩))) (fun b u z => ?_) on (fun b u z => ?_)
      · by_cases hb : b = a
        · subst hb
          rw [atA] at z
          cases z
          exact ⟨hobj, by rw [List.length_map]; exact short, vs, _, vals, hobj⟩
        · have z1 := (if_neg hb).symm.trans z
          by_cases hb2 : b ∈ cs.map (·.2)
          · have z2 := (if_pos hb2).symm.trans z1
            cases z2
            obtain ⟨p, hp, rfl⟩ := List.mem_map.mp hb2
            exact (facts p hp).1
          · have z2 := (if_neg hb2).symm.trans z1
            cases z2
      · by_cases hb : b = a
        · subst hb
          rw [atA] at z
          cases z
          exact ⟨look, .inl ⟨rfl, _, _, rfl⟩⟩
        · have z1 := (if_neg hb).symm.trans z
          by_cases hb2 : b ∈ cs.map (·.2)
          · obtain ⟨p, hp, rfl⟩ := List.mem_map.mp hb2
            exact ⟨(facts p hp).2.1, .inr ⟨p, hp, rfl⟩⟩
          · have z2 := (if_neg hb2).symm.trans z1
            cases z2
end Lamp
set_option Elab.async false
set_option linter.all false
set_option maxRecDepth 100000
set_option maxHeartbeats 1000000
namespace Lamp
open PySem PySem.Spec PyProof.Rows L2
/-! parts of tuples, tuples behind one another: whatever object it is -/
theorem cut_lo (xs : List V) {k : Nat} (h : k ≤ xs.length) : cutV xs none (some (k : Int)) = xs.take k := by
  unfold cutV
  rw [HT.sIx_none, HT.sIx_nat, Nat.min_eq_left h]
  rfl
theorem cut_hi (xs : List V) (k : Nat) : cutV xs (some (k : Int)) none = xs.drop k := by
  unfold cutV
  rw [HT.sIx_none, HT.sIx_nat]
  by_cases h : k ≤ xs.length
  · rw [Nat.min_eq_left h]
    exact List.take_of_length_le (by rw [List.length_drop]; exact Nat.le_refl _)
  · rw [Nat.min_eq_right (by omega), List.drop_length, List.drop_of_length_le (by omega)]
    exact List.take_nil
theorem paired_take {α β : Type} {R : α → β → Prop} : ∀ (n : Nat) {xs : List α} {ys : List β}, Paired R xs ys → Paired R (xs.take n) (ys.take n)
  | 0, _, _, _ => by simp only [List.take_zero]; exact .nil
  | n + 1, _, _, .nil => .nil
  | n + 1, _, _, .cons h t => .cons h (paired_take n t)
theorem paired_drop {α β : Type} {R : α → β → Prop} : ∀ (n : Nat) {xs : List α} {ys : List β}, Paired R xs ys → Paired R (xs.drop n) (ys.drop n)
  | 0, _, _, h => h
  | n + 1, _, _, .nil => .nil
  | n + 1, _, _, .cons _ t => paired_drop n t
theorem sl_any {K : PySem.W.Frag} {H : Hp} {a : Addr} {xs : List V} {lo hi : Option Int} {Q : VK} (h : H a = some (.tup xs)) (k : ∀ b H', Same H H' → H' b = some (.tup (cutV xs lo hi)) → Q (.ref b) H') : rSlA K (.ref a) lo hi H Q := by
  refine ⟨a, xs, rfl, SqT.of h, fun w => ?_, fun _ p np => k p _ (same_of np) upd_same⟩
  have e : cutV xs lo hi = xs := by
    unfold cutV
    rw [w.1, w.2]
    exact List.take_of_length_le (by rw [List.length_drop]; omega)
  exact k a H (Same.refl H) (by rw [e]; exact h)
theorem cat_any {K : PySem.W.Frag} {H : Hp} {a b : Addr} {xs ys : List V} {Q : VK} (h1 : H a = some (.tup xs)) (h2 : H b = some (.tup ys)) (hl : xs.length + ys.length ≤ sizeLine) (k : ∀ c H', Same H H' → H' c = some (.tup (xs ++ ys)) → Q (.ref c) H') : rCatA K (.ref a) (.ref b) H Q := by
  refine ⟨a, b, xs, ys, rfl, rfl, SqT.of h1, SqT.of h2, hl, fun e => ?_, fun _ e => ?_, fun _ _ p np => k p _ (same_of np) upd_same⟩
  · subst e
    exact k b H (Same.refl H) h2
  · subst e
    exact k a H (Same.refl H) (by rw [List.append_nil]; exact h1)
end Lamp
set_option Elab.async false
set_option linter.all false
set_option maxRecDepth 100000
set_option maxHeartbeats 1000000
namespace Lamp
open PySem PySem.Spec PyProof.Rows L2
/-! enumerate of a tuple -/
theorem enum_new {v : Value} {o : Obj} {Hh : Heap → Prop} (B : Begins v o Hh) : Meets (Builtin.«enumerate.__new__» ⟨[.type "enumerate", v], []⟩) (fun _ R s => Hh s.heap ∧
    R (.ok (.ret (.ref (s.heap.push o).objs.size))) { s with heap := (s.heap.push o).push { cls := .type "enumerate", data := .fields #[.none, .bool false, .ref s.heap.objs.size, rawInt 0, .none, .none] } }) :=
  .of_wp fun P w A R s told => by
    obtain ⟨hp, gs, dp, tk, ou⟩ := s
    obtain ⟨there, goal⟩ := told
    have under := sub_enumerate
    have starts : ∀ {A1 : Around} {E : Value → Shared → Prop} {Q : Value → Shared → Prop}, Q (.ref hp.objs.size) ⟨hp.push o, gs, dp, tk, ou⟩ → wpAny (model P w) A1 (pyIter v) Q E ⟨hp, gs, dp, tk, ou⟩ :=
      fun q => B.iter P w _ _ ⟨hp, gs, dp, tk, ou⟩ _ there q
    wp_walk using starts
    refine wpAny_stack_any fun st => wpAny_pure ?_
    split
    · rename_i c _ _ _ _ _
      cases hc : (c == Value.type "enumerate") <;> (wp_walk using starts; exact ⟨_, rfl, goal⟩)
    · wp_walk using starts
      exact ⟨_, rfl, goal⟩
theorem enum_call {P : Program} {w : World} {A : Around} {E : Value → Shared → Prop} {s : Shared} {v : Value} {o : Obj} {Hh : Heap → Prop} {Q : Value → Shared → Prop} (B : Begins v o Hh) (there : Hh s.heap)
    (goal : ∀ h', IsEnum h' (s.heap.objs.size + 1) s.heap.objs.size 0 .none → h'.get? s.heap.objs.size = some o → (∀ b u, s.heap.get? b = some u → h'.get? b = some u) → Q (.ref (s.heap.objs.size + 1)) { s with heap := h' }) :
    wpAny (model P w) A (call (.type "enumerate") [v]) Q E s := by
  have two : (s.heap.push o).objs.size = s.heap.objs.size + 1 := Heap.size_push ..
  have isE : IsEnum ((s.heap.push o).push { cls := .type "enumerate", data := .fields #[.none, .bool false, .ref s.heap.objs.size, rawInt 0, .none, .none] }) (s.heap.objs.size + 1) s.heap.objs.size 0 .none := by
    rw [← two]
    exact Heap.get?_push_size (s.heap.push o) rfl
  refine callType_new F.called_enumerate (by decide) (F.typeCall_enumerate_1 _) (F.newCall_enumerate_1 _) (fun z => F.args_object_init_2 z _) F.entry_enumerate_new (enum_new B) ⟨there, ?_⟩
  show _ ∧ _
  rw [two]
  exact ⟨⟨_, isE, rfl⟩, goal _ isE (Heap.get?_push_of_some _ (Heap.get?_push_size _ B.free)) fun b u z => Heap.get?_push_of_some _ (Heap.get?_push_of_some _ z)⟩
/-- the pairs of index and item of the tuple at a -/
def Itn (K : PySem.W.Frag) (a : Addr) : It where
  go i H := ∃ (xs : List V) (x : V), SqT K H a xs ∧ xs[i]? = some x
  yld i H v H' := ∃ T x, v = .ref T ∧ H T = none ∧ H' = upd H T (.tup [.int (i : Nat), x]) ∧ ∀ xs, SqT K H a xs → xs[i]? = some x
  stop i H := ∃ xs : List V, SqT K H a xs ∧ xs.length ≤ i
theorem turn_enumT {P : Program} {w : World} {K : PySem.W.Frag} {parts : List Expr} {n : Nat} {at_ : Pos} (a e it : Addr) :
    Turn P w K (.Tuple parts n at_) (Itn K a) [e, it] e (fun i h => (∃ old, IsEnum h e it ((i : Nat) : Int) old) ∧ h.IsTupleIter it a i ∧ e ≠ it) where
  mem := List.mem_cons_self ..
  obj := fun i h st b hb => by
    obtain ⟨⟨old, he⟩, ⟨o, ho, hc, hd⟩, _⟩ := st
    rcases (by simpa using hb : b = e ∨ b = it) with z | z
    · rw [z]; exact ⟨_, he, fun v q => nomatch q⟩
    · rw [z]; exact ⟨o, ho, fun v q => by rw [hd] at q; cases q⟩
  keep := fun i h h' st k => ⟨let ⟨old, he⟩ := st.1; ⟨old, k e (by simp) _ he⟩, st.2.1.at fun o q => k it (by simp) o q, st.2.2⟩
  item := by
    intro X hP hw hK hc i pins s σ H E I hf st hg
    subst hP hw hK
    obtain ⟨⟨old, he⟩, hit, hne⟩ := st
    obtain ⟨xs, x, hq, hx⟩ := hg
    obtain ⟨its, rv, p, hz⟩ := I.tuple hq
    obtain ⟨u, hu, ru⟩ := rv.get hx
    have hlen := rv.length
    have hi : i < its.length := (List.getElem?_eq_some_iff.mp hu).1
    have tup : s.heap.IsTuple a its.toArray := p
    have ae : a ≠ e := fun z => by
      obtain ⟨o, ho, hco, _⟩ := tup
      rw [z, he] at ho
      cases ho
      exact absurd (show Value.type "enumerate" = .type "tuple" from hco) (by decide)
    have ait : a ≠ it := fun z => by
      obtain ⟨o, ho, hco, _⟩ := tup
      obtain ⟨o2, ho2, hc2, _⟩ := hit
      rw [z, ho2] at ho
      cases ho
      rw [hc2] at hco
      exact absurd hco (by decide)
    have le : e < s.heap.objs.size := Heap.lt_size he
    have li : it < s.heap.objs.size := by obtain ⟨_, q, _⟩ := hit; exact Heap.lt_size q
    have D := Draws.tuple (prog := X.prog) (w := X.w) (A := X.A.in1) (I.ok.hd hc) it a ait its.toArray
    refine wpAny_pyNext_enum_itemD D he ⟨hit, tup⟩ (by simpa using hi) hne (by simp; exact ⟨hne, fun z => ae z.symm⟩) fun y h' tk hy ho st' hT hsz hk => ?_
    have ey : y = u := by
      have : its[i]? = some y := by simpa using hy
      rw [hu] at this
      exact (Option.some.inj this).symm
    subst ey
    obtain ⟨hit', tup'⟩ := st'
    refine ⟨_, rfl, wpAny_letOwnedTupleGo_enum (s := { s with heap := h', toks := tk + 1 }) ho fun h2 he2 sb => ?_⟩
    have hT2 : h2.get? s.heap.objs.size = some { cls := .type "tuple", data := .seq #[.int i tk, y] } := (sb.2 _ (Nat.ne_of_gt le)).trans hT
    have made : ObjOk X.prog X.w (upd H s.heap.objs.size (.tup [.int (i : Nat), x])) h2 s.heap.objs.size (.tup [.int (i : Nat), x]) :=
      ⟨by show 2 ≤ sizeLine; decide, [.int i tk, y], .cons ⟨_, rfl⟩ (.cons ru .nil), ⟨_, hT2, rfl, _, rfl⟩⟩
    have I1 : Inv X pins σ (upd H s.heap.objs.size (.tup [.int (i : Nat), x])) { s with heap := h2, toks := tk + 1 } :=
      I.turnedNew (ch := [e, it]) (fun b ob hb q => (sb.2 b (fun z => hb (by simp [z]))).trans (hk b ob (fun z => hb (by simp [z])) (fun z => hb (by simp [z])) q)) hf (Nat.le_refl _) made
    refine ⟨.ref s.heap.objs.size, _, I1, rfl, ⟨_, x, rfl, I.hok.fresh (Nat.le_refl _), rfl, fun ys hy => by rw [I.tuple_inj hy hq]; exact hx⟩, ⟨⟨y, ?_⟩, hit'.at fun o q => (sb.2 it (Ne.symm hne)).trans q, hne⟩, fun b hb => ?_⟩
    · rw [show ((i + 1 : Nat) : Int) = (i : Int) + 1 by omega]
      exact he2
    · have lb : b < s.heap.objs.size := by
        rcases (by simpa using hb : b = e ∨ b = it) with z | z
        · rw [z]; exact le
        · rw [z]; exact li
      rw [upd_ne (Nat.ne_of_lt lb)]
      exact (hf b hb).1
  done := by
    intro X hP hw hK hc i pins s σ H E I hf st hg
    subst hP hw hK
    obtain ⟨⟨old, he⟩, hit, hne⟩ := st
    obtain ⟨xs, hq, hx⟩ := hg
    obtain ⟨its, rv, p, hz⟩ := I.tuple hq
    obtain ⟨f0, f1, f2, f3, f4, f5⟩ := hf it (by simp)
    have hl := rv.length
    have tup : s.heap.IsTuple a its.toArray := p
    unfold pyNext
    refine wpAny_bind (wpAny_attempt (wpAny_callSpecial?_slot (name := Str.ofString "__next__") ⟨_, he, rfl⟩ F.slot_enumerate_next
      (wpAny_call_entry F.slot_enumerate_next ⟨_, he, rfl⟩ F.entry_enumerate_next ?_ (F.args_enumerate_next_1 _))))
    show wpAny _ _ (field (.ref e) 2 >>= _) _ _ _
    refine wpAny_bind (wpAny_field he rfl (x := .ref it) rfl ?_)
    refine wpAny_bind (wpAny_nextOf_tuple_end (I.ok.hd hc) hit tup (by simp; omega) fun h' ex eb so => ?_)
    obtain ⟨o, ho, hcs⟩ := so
    refine wpAny_bind (wpAny_isInstance (T := "StopIteration") (b := true) ⟨o, ho, hcs⟩ isSubtype_stop ?_)
    exact wpAny_pure ⟨rfl, I.turned (t' := s.toks) (fun b o hb q => eb b o hb q) f0 f1 f3 f4 f5⟩
  self := fun A i s Q E st h => let ⟨⟨_, he⟩, _⟩ := st; wpAny_pyIter_enum he h
def iEnumT (K : PySem.W.Frag) (ta : TA) : TI := fun σ H R => ta σ H fun vs H1 => ∃ a xs, vs = [.ref a] ∧ SqT K H1 a xs ∧ R (Itn K a) H1
theorem pi_enumT {X : Cx} {e : Expr} {ta : TA} {p pos at_ : Pos} {parts : List Expr} {n : Nat} (hg : Gl X "enumerate") (hm : X.mg "enumerate" = none) (ha : PA X [e] ta) (hs : starEach [e] X.env = [(false, eval e X.env)] := by rfl) :
    PI X (.Tuple parts n at_) (.Call (.Name "enumerate" p) [e] [] pos) (iEnumT X.K ta) := by
  refine ⟨fun pins s σ H R I h => ?_⟩
  refine Call_ (ld_blt I hg hm boot_enumerate (PyProof.Rows.callWith_type1 (thn (ha.run pos pins s σ H _ I h) fun us s1 ⟨vs, H1, I1, r1, a, xs, ex, hq, q⟩ => ?_) hs rfl))
  subst ex
  cases r1 with
  | cons r rr =>
    cases rr
    cases r
    obtain ⟨its, rv, p', hz⟩ := I1.tuple hq
    have tup : s1.heap.IsTuple a its.toArray := p'
    refine enum_call (begins_tuple a its.toArray) tup fun h' he hi hk => wpAny_pyIter_enum he ?_
    have I2 : Inv X pins σ H1 { s1 with heap := h' } := I1.kept (t' := s1.toks) hk
    refine ⟨s1.heap.objs.size + 1, [s1.heap.objs.size + 1, s1.heap.objs.size], _, _, H1, rfl, I2, turn_enumT a (s1.heap.objs.size + 1) s1.heap.objs.size, ⟨⟨.none, he⟩, ⟨_, hi, rfl, rfl⟩, Nat.succ_ne_self _⟩, fun b hb => ?_, q⟩
    have lb : s1.heap.objs.size ≤ b := by
      rcases (by simpa using hb : b = s1.heap.objs.size + 1 ∨ b = s1.heap.objs.size) with z | z
      · rw [z]; exact Nat.le_add_right _ _
      · rw [z]; exact Nat.le_refl _
    exact I1.fpOk lb (I1.hok.fresh lb)
/-- for i, x in enumerate(t): body told by what holds ahead of each turn -/
theorem for_enumT {K : PySem.W.Frag} {a : Addr} {xs : List V} {g : TG} {tb : TS} {D : Ends} {σ : L2.St} {H : Hp} (Pv : Nat → L2.St → Hp → Prop) (h0 : Pv 0 σ H) (hl : ∀ i σ H, i ≤ xs.length → Pv i σ H → SqT K H a xs)
    (hs : ∀ i x σ H T, xs[i]? = some x → Pv i σ H → H T = none → g (.ref T) σ (upd H T (.tup [.int (i : Nat), x])) fun σ2 H2 => tb { D with nx := Pv (i + 1), ct := Pv (i + 1), bk := D.nx } σ2 H2) (hd : ∀ σ H, Pv xs.length σ H → D.nx σ H) :
    ∃ W : Nat → Nat → L2.St → Hp → Prop, (∃ m, W 0 m σ H) ∧ ∀ i m σ H, W i m σ H →
      ((Itn K a).stop i H ∧ D.nx σ H) ∨ ((Itn K a).go i H ∧ ∃ N : L2.St → Hp → Prop, (∀ σ' H', N σ' H' → ∃ m', m' < m ∧ W (i + 1) m' σ' H') ∧ ∀ x H', (Itn K a).yld i H x H' → g x σ H' fun σ2 H2 => tb { D with nx := N, ct := N, bk := D.nx } σ2 H2) := by
  refine ⟨fun i m σ H => m + i = xs.length ∧ Pv i σ H, ⟨xs.length, rfl, h0⟩, fun i m σ H z => ?_⟩
  obtain ⟨hm, p⟩ := z
  have q := hl i σ H (by omega) p
  cases m with
  | zero =>
    have e : i = xs.length := by omega
    subst e
    exact .inl ⟨⟨xs, q, Nat.le_refl _⟩, hd _ _ p⟩
  | succ m =>
    have lt : i < xs.length := by omega
    refine .inr ⟨⟨xs, xs[i], q, by simp [lt]⟩, Pv (i + 1), fun σ' H' p' => ⟨m, Nat.lt_succ_self _, by omega, p'⟩, fun v H' y => ?_⟩
    obtain ⟨T, x, rfl, hT, rfl, hx⟩ := y
    exact hs i x σ H T (hx xs q) p hT
end Lamp
set_option Elab.async false
set_option linter.all false
set_option maxRecDepth 100000
set_option maxHeartbeats 1000000
namespace Lamp
open PySem PySem.Spec PyProof.Rows L2 LamX
/-! values of any kind -/
inductive T
  | non
  | bl (b : Bool)
  | int (i : Int)
  | str (x : Str)
  | tup (ts : List T)
  | lst
  | dct
mutual
inductive An (K : PySem.W.Frag) (H : Hp) : V → T → Prop
  | non : An K H .non .non
  | bl (b : Bool) : An K H (.bl b) (.bl b)
  | int (i : Int) : An K H (.int i) (.int i)
  | str (x : Str) : An K H (.str x) (.str x)
  | tup {a : Addr} {xs : List V} {ts : List T} : SqT K H a xs → AnAll K H xs ts → An K H (.ref a) (.tup ts)
  | lst {a : Addr} {xs : List V} : SqL K H a xs → An K H (.ref a) .lst
  | dct {a : Addr} {kvs : List (Key × V)} : H a = some (.dK kvs) → An K H (.ref a) .dct
inductive AnAll (K : PySem.W.Frag) (H : Hp) : List V → List T → Prop
  | nil : AnAll K H [] []
  | cons {v : V} {vs : List V} {t : T} {ts : List T} : An K H v t → AnAll K H vs ts → AnAll K H (v :: vs) (t :: ts)
end
theorem sqT_ext {K : PySem.W.Frag} {H H' : Hp} {a : Addr} {xs : List V} (e : ExtN H H') (h : SqT K H a xs) : SqT K H' a xs := by
  rcases h with (h | ⟨o, h⟩) | h
  · exact .inl (.inl (e _ _ h fun _ z => by cases z))
  · exact .inl (.inr ⟨o, e _ _ h fun _ z => by cases z⟩)
  · exact .inr h
theorem sqL_ext {K : PySem.W.Frag} {H H' : Hp} {a : Addr} {xs : List V} (e : ExtN H H') (h : SqL K H a xs) : SqL K H' a xs := by
  rcases h with (h | ⟨o, h⟩) | h
  · exact .inl (.inl (e _ _ h fun _ z => by cases z))
  · exact .inl (.inr ⟨o, e _ _ h fun _ z => by cases z⟩)
  · exact .inr h
mutual
theorem an_ext {K : PySem.W.Frag} {H H' : Hp} (e : ExtN H H') : ∀ (t : T) (v : V), An K H v t → An K H' v t
  | .non, _, h => by cases h; exact .non
  | .bl _, _, h => by cases h; exact .bl _
  | .int _, _, h => by cases h; exact .int _
  | .str _, _, h => by cases h; exact .str _
  | .lst, _, h => by
    cases h with
    | lst hs => exact .lst (sqL_ext e hs)
  | .dct, _, h => by
    cases h with
    | dct hs => exact .dct (e _ _ hs fun _ z => by cases z)
  | .tup ts, _, h => by
    cases h with
    | tup hs ha => exact .tup (sqT_ext e hs) (anAll_ext e ts _ ha)
theorem anAll_ext {K : PySem.W.Frag} {H H' : Hp} (e : ExtN H H') : ∀ (ts : List T) (vs : List V), AnAll K H vs ts → AnAll K H' vs ts
  | [], _, h => by cases h; exact .nil
  | t :: ts, _, h => by
    cases h with
    | cons h1 h2 => exact .cons (an_ext e t _ h1) (anAll_ext e ts _ h2)
theorem dp_ext {K : PySem.W.Frag} {H H' : Hp} (e : ExtN H H') : ∀ (d : PyData) (v : V), Dp K H v d → Dp K H' v d
  | .none, _, h => by cases h; exact .non
  | .bool _, _, h => by cases h; exact .bl _
  | .int _, _, h => by cases h; exact .int _
  | .str _, _, h => by cases h; exact .str _
  | .list ds, _, h => by
    cases h with
    | lst hs ha => exact .lst (sqL_ext e hs) (dpAll_ext e ds _ ha)
  | .tuple ds, _, h => by
    cases h with
    | tup hs ha => exact .tup (sqT_ext e hs) (dpAll_ext e ds _ ha)
  | .dict _, _, h => by cases h
theorem dpAll_ext {K : PySem.W.Frag} {H H' : Hp} (e : ExtN H H') : ∀ (ds : List PyData) (vs : List V), DpAll K H vs ds → DpAll K H' vs ds
  | [], _, h => by cases h; exact .nil
  | d :: ds, _, h => by
    cases h with
    | cons h1 h2 => exact .cons (dp_ext e d _ h1) (dpAll_ext e ds _ h2)
end
theorem ext_same {H H' : Hp} (e : Same H H') : ExtN H H' := ExtN.of e
theorem dq_ext {K : PySem.W.Frag} {H H' : Hp} (e : ExtN H H') {d : PyData} {v : V} (h : Dq K H v d) : Dq K H' v d := by
  cases h with
  | plain h => exact .plain (dp_ext e d v h)
  | dict h1 h2 => exact .dict (e _ _ h1 fun _ z => by cases z) h2
theorem an_same {K : PySem.W.Frag} {H H' : Hp} (e : Same H H') {t : T} {v : V} (h : An K H v t) : An K H' v t := an_ext (ext_same e) t v h
theorem anAll_same {K : PySem.W.Frag} {H H' : Hp} (e : Same H H') {ts : List T} {vs : List V} (h : AnAll K H vs ts) : AnAll K H' vs ts := anAll_ext (ext_same e) ts vs h
theorem Pail.ext {H H' : Hp} {p : Addr} (h : Pail H p) (s : ExtN H H') : Pail H' p := by
  obtain ⟨x, y, z, e, r⟩ := h
  exact ⟨x, y, z, s _ _ e (fun _ z => by cases z), r⟩
/-- all but p and the tables stands as it stood -/
def ButN (p : Addr) (H H' : Hp) : Prop := ExtN (delH H p) (delH H' p)
theorem ButN.of {p : Addr} {H H' : Hp} (b : But p H H') : ButN p H H' := ext_same b.del
theorem ButN.trans {p : Addr} {H H1 H2 : Hp} (a : ButN p H H1) (b : ButN p H1 H2) : ButN p H H2 := ExtN.trans a b
theorem ButN.ext {p : Addr} {H H' : Hp} (e : ExtN H H') : ButN p H H' := fun a o h n => by
  by_cases z : a = p
  · rw [z, delH_same] at h; cases h
  · rw [delH_ne z] at h ⊢
    exact e a o h n
/-! data among them -/
mutual
def tOf : PyData → T
  | .none => .non
  | .bool b => .bl b
  | .int i => .int i
  | .str x => .str x
  | .tuple ds => .tup (tOfAll ds)
  | .list _ => .lst
  | .dict _ => .dct
def tOfAll : List PyData → List T
  | [] => []
  | d :: ds => tOf d :: tOfAll ds
end
mutual
theorem an_dp {K : PySem.W.Frag} {H : Hp} : ∀ (d : PyData) (v : V), Dp K H v d → An K H v (tOf d)
  | .none, _, h => by cases h; simp only [tOf]; exact .non
  | .bool _, _, h => by cases h; simp only [tOf]; exact .bl _
  | .int _, _, h => by cases h; simp only [tOf]; exact .int _
  | .str _, _, h => by cases h; simp only [tOf]; exact .str _
  | .list ds, _, h => by
    cases h with
    | lst hs ha => simp only [tOf]; exact .lst hs
  | .tuple ds, _, h => by
    cases h with
    | tup hs ha => simp only [tOf]; exact .tup hs (anAll_dp ds _ ha)
  | .dict _, _, h => by cases h
theorem anAll_dp {K : PySem.W.Frag} {H : Hp} : ∀ (ds : List PyData) (vs : List V), DpAll K H vs ds → AnAll K H vs (tOfAll ds)
  | [], _, h => by cases h; simp only [tOfAll]; exact .nil
  | d :: ds, _, h => by
    cases h with
    | cons h1 h2 => simp only [tOfAll]; exact .cons (an_dp d _ h1) (anAll_dp ds _ h2)
end
theorem an_dq {K : PySem.W.Frag} {H : Hp} {d : PyData} {v : V} (h : Dq K H v d) : An K H v (tOf d) := by
  cases h with
  | plain h => exact an_dp d v h
  | dict h1 h2 => simp only [tOf]; exact .dct h1
/-! rows of them -/
section
variable {K : PySem.W.Frag} {H : Hp}
theorem anAll_len : ∀ {ts : List T} {vs : List V}, AnAll K H vs ts → vs.length = ts.length
  | [], _, h => by cases h; rfl
  | t :: ts, _, h => by
    cases h with
    | cons h1 h2 => rw [List.length_cons, List.length_cons, anAll_len h2]
theorem anAll_get : ∀ {ts : List T} {vs : List V} {i : Nat} {v : V}, AnAll K H vs ts → vs[i]? = some v → ∃ t, ts[i]? = some t ∧ An K H v t
  | [], _, _, _, h, e => by cases h; simp at e
  | t :: ts, _, i, v, h, e => by
    cases h with
    | @cons v' vs' _ _ h1 h2 =>
      cases i with
      | zero => simp only [List.getElem?_cons_zero] at e ⊢; cases e; exact ⟨t, rfl, h1⟩
      | succ i => simp only [List.getElem?_cons_succ] at e ⊢; exact anAll_get h2 e
theorem anAll_take : ∀ (n : Nat) {ts : List T} {vs : List V}, AnAll K H vs ts → AnAll K H (vs.take n) (ts.take n)
  | 0, _, _, _ => by simp only [List.take_zero]; exact .nil
  | n + 1, _, _, .nil => .nil
  | n + 1, _, _, .cons h t => .cons h (anAll_take n t)
theorem anAll_drop : ∀ (n : Nat) {ts : List T} {vs : List V}, AnAll K H vs ts → AnAll K H (vs.drop n) (ts.drop n)
  | 0, _, _, h => h
  | n + 1, _, _, .nil => .nil
  | n + 1, _, _, .cons _ t => anAll_drop n t
theorem anAll_app : ∀ {ts us : List T} {vs ws : List V}, AnAll K H vs ts → AnAll K H ws us → AnAll K H (vs ++ ws) (ts ++ us)
  | _, _, _, _, .nil, s => s
  | _, _, _, _, .cons r t, s => .cons r (anAll_app t s)
theorem anAll_rev : ∀ {ts : List T} {vs : List V}, AnAll K H vs ts → AnAll K H vs.reverse ts.reverse
  | _, _, .nil => .nil
  | _, _, .cons r t => by rw [List.reverse_cons, List.reverse_cons]; exact anAll_app (anAll_rev t) (.cons r .nil)
end
/-! how deep, how long, how great they are -/
def Fits (w : Nat) (b : Int) : Nat → T → Prop
  | _, .int i => -b ≤ i ∧ i ≤ b
  | 0, .tup ts => ts = []
  | n + 1, .tup ts => ts.length ≤ w ∧ ∀ t ∈ ts, Fits w b n t
  | _, _ => True
theorem fits_int {w n : Nat} {b i : Int} : Fits w b n (.int i) = (-b ≤ i ∧ i ≤ b) := by cases n <;> rfl
theorem fits_non {w n : Nat} {b : Int} : Fits w b n .non := by cases n <;> exact True.intro
theorem fits_bl {w n : Nat} {b : Int} {c : Bool} : Fits w b n (.bl c) := by cases n <;> exact True.intro
theorem fits_str {w n : Nat} {b : Int} {x : Str} : Fits w b n (.str x) := by cases n <;> exact True.intro
theorem fits_lst {w n : Nat} {b : Int} : Fits w b n .lst := by cases n <;> exact True.intro
theorem fits_dct {w n : Nat} {b : Int} : Fits w b n .dct := by cases n <;> exact True.intro
theorem fits_tup {w n : Nat} {b : Int} {ts : List T} (h : Fits w b n (.tup ts)) : ts = [] ∨ ∃ m, n = m + 1 ∧ ts.length ≤ w ∧ ∀ t ∈ ts, Fits w b m t := by
  cases n with
  | zero => exact .inl h
  | succ m => exact .inr ⟨m, rfl, h⟩
theorem fits_mono {w w' : Nat} {b b' : Int} (hw : w ≤ w') (hb : b ≤ b') : ∀ (n n' : Nat) (t : T), n ≤ n' → Fits w b n t → Fits w' b' n' t := by
  intro n
  induction n with
  | zero =>
    intro n' t hn h
    cases t with
    | int i => rw [fits_int] at h ⊢; omega
    | tup ts =>
      have e : ts = [] := h
      subst e
      cases n' with
      | zero => rfl
      | succ m => exact ⟨Nat.zero_le _, fun t ht => by cases ht⟩
    | non => exact fits_non
    | bl _ => exact fits_bl
    | str _ => exact fits_str
    | lst => exact fits_lst
    | dct => exact fits_dct
  | succ n ih =>
    intro n' t hn h
    cases t with
    | int i => rw [fits_int] at h ⊢; omega
    | tup ts =>
      obtain ⟨l, all⟩ := h
      cases n' with
      | zero => omega
      | succ m => exact ⟨by omega, fun t ht => ih m t (by omega) (all t ht)⟩
    | non => exact fits_non
    | bl _ => exact fits_bl
    | str _ => exact fits_str
    | lst => exact fits_lst
    | dct => exact fits_dct
end Lamp
set_option Elab.async false
set_option linter.all false
set_option maxRecDepth 100000
set_option maxHeartbeats 1000000
namespace Lamp
open PySem PySem.Spec PyProof.Rows L2 LamX HT
/-! a tuple read backwards -/
theorem rev_places (n : Nat) : Builtin.Slice.slicePlaces ((n : Int) - 1) (-1) (-1) = n := by
  unfold Builtin.Slice.slicePlaces
  have h1 : ¬ (-1 : Int) > 0 := by omega
  simp only [h1, if_false]
  by_cases h : (n : Int) - 1 > -1
  · simp only [h, if_true]
    have e : -(-1 : Int) = 1 := by decide
    rw [e, Int.ediv_one]
    omega
  · simp only [h, if_false]
    omega
theorem fm_same {α β : Type} {f g : α → Option β} : ∀ {l : List α}, (∀ a ∈ l, f a = g a) → l.filterMap f = l.filterMap g
  | [], _ => rfl
  | a :: r, h => by rw [List.filterMap_cons, List.filterMap_cons, h a (List.mem_cons_self ..), fm_same fun b hb => h b (List.mem_cons_of_mem _ hb)]
theorem rev_pick (xs : Array Value) : ((List.range xs.size).filterMap fun (m : Nat) => xs[(((xs.size : Int) - 1) + (m : Int) * (-1)).toNat]?).toArray = xs.toList.reverse.toArray := by
  have e : ((List.range xs.size).filterMap fun (m : Nat) => xs[(((xs.size : Int) - 1) + (m : Int) * (-1)).toNat]?) = ((List.range xs.size).map (fun k => xs.size - 1 - k)).filterMap (xs[·]?) := by
    rw [List.filterMap_map]
    refine fm_same fun m hm => ?_
    have lt := List.mem_range.mp hm
    have e : (((xs.size : Int) - 1) + (m : Int) * (-1)).toNat = xs.size - 1 - m := by omega
    show xs[(((xs.size : Int) - 1) + (m : Int) * (-1)).toNat]? = xs[xs.size - 1 - m]?
    rw [e]
  rw [e, PySem.W.krv_range, List.filterMap_reverse, PySem.W.krv_all]
section
variable {prog : Program} {w : World} {A : Around} {E : Value → Shared → Prop} {s : Shared}
theorem applied_rev {sl : Addr} {vk : Value} {n : Nat} {Q : Int × Int × Nat → Shared → Prop} (hs : s.heap.IsSliceOf sl .none .none vk) (pk : IsPart vk (some (-1))) (h : Q ((n : Int) - 1, -1, n) s) : wpAny (model prog w) A (Builtin.Slice.sliceApplied (.ref sl) (pure (n : Int))) Q E s := by
  obtain ⟨ob, there, _, parts⟩ := id hs
  unfold Builtin.Slice.sliceApplied Builtin.Slice.sliceFields
  refine wpAny_bind (wpAny_bind (wpAny_field there parts (x := .none) rfl (wpAny_bind (wpAny_field there parts (x := .none) rfl (wpAny_bind (wpAny_field there parts (x := vk) rfl (wpAny_pure ?_)))))))
  refine wpAny_bind (slicePart_ pk ?_)
  show wpAny _ _ (if ((-1 : Int) == 0) = true then _ else _) _ _ s
  rw [if_neg (by decide)]
  refine wpAny_bind (slicePart_none (wpAny_bind (slicePart_none (wpAny_bind (wpAny_pure ?_)))))
  show wpAny _ _ (pure (((n : Int) - 1), (-1 : Int), Builtin.Slice.slicePlaces ((n : Int) - 1) (-1) (-1))) _ _ s
  rw [rev_places]
  exact wpAny_pure h
theorem item_rev {t sl : Addr} {items : Array Value} {vk : Value} {Q : Value → Shared → Prop} (ht : IsTup s.heap t items) (hs : s.heap.IsSliceOf sl .none .none vk) (pk : IsPart vk (some (-1))) (hz : items.size ≤ sizeLine)
    (h : Q (.ref s.heap.objs.size) { s with heap := s.heap.push { cls := .type "tuple", data := .seq items.toList.reverse.toArray } }) : wpAny (model prog w) A (getItem (.ref t) (.ref sl)) Q E s := by
  have fits : sizeOk (.seq items.toList.reverse.toArray) := by
    show items.toList.reverse.toArray.size ≤ sizeLine
    rw [List.size_toArray, List.length_reverse, Array.length_toList]
    exact hz
  obtain ⟨ob, there, isSl, _⟩ := id hs
  have slT : s.TypeIs (.ref sl) "slice" := ⟨ob, there, isSl⟩
  unfold getItem
  try with_reducible refine wpAny_holding ?_
  first | refine wpAny_bind (wpAny_pure ?_) | skip
  refine wpAny_bind (wpAny_sequenceKey ht.typeIs (by decide) ?_)
  refine wpAny_bind (wpAny_callSpecial?_slot (name := Str.ofString "__getitem__") ht.typeIs PyProof.Rows.slot_tuple_getitem (wpAny_call_entry PyProof.Rows.slot_tuple_getitem ht.typeIs entry_tuple_getitem ?_ (args_tuple_getitem _ _)))
  show wpAny _ _ (Builtin.Tuple.tupleItemsOf (.ref t) >>= _) _ _ s
  refine wpAny_bind (tupleItemsOf_ ht (wpAny_bind (wpAny_typeOf slT ?_)))
  rw [if_pos (by decide)]
  refine wpAny_bind (applied_rev hs pk ?_)
  have no : ¬ (((items.size : Int) - 1 == 0 && (-1 : Int) == 1 && items.size == items.size) = true) := by
    have e : ((-1 : Int) == 1) = false := by decide
    rw [e, Bool.and_false, Bool.false_and]
    decide
  show wpAny _ _ (if (((items.size : Int) - 1) == 0 && (-1 : Int) == 1 && items.size == items.size) = true then _ else _) _ _ s
  rw [if_neg no, rev_pick]
  first
    | exact wpAny_bind (m := Builtin.Tuple.tupleExact _) (wpAny_newObj_type (wpAny_pure ⟨_, rfl, wpAny_pure h⟩) fits)
    | exact wpAny_bind (m := Builtin.Tuple.tupleExact _) (wpAny_newObj_type (wpAny_bind (wpAny_pure (wpAny_pure ⟨_, rfl, wpAny_pure h⟩))) fits)
    | exact wpAny_bind (wpAny_bind (m := Builtin.Tuple.tupleExact _) (wpAny_newObj_type (wpAny_pure (wpAny_pure ⟨_, rfl, wpAny_pure h⟩)) fits))
    | exact wpAny_bind (wpAny_bind (m := Builtin.Tuple.tupleExact _) (wpAny_newObj_type (wpAny_pure ⟨_, rfl, wpAny_pure h⟩) fits))
end
def tRevT (K : PySem.W.Frag) (te : TE) : TE := fun σ H Q => te σ H fun x H1 => ∃ a xs, x = .ref a ∧ SqT K H1 a xs ∧ ∀ p, H1 p = none → Q (.ref p) (upd H1 p (.tup xs.reverse))
theorem pe_revT {X : Cx} {e : Expr} {te : TE} {k : Nat} {p1 p2 p3 pos : Pos} (he : PE X e te) : PE X (.Subscript e (.Slice none none (some (.UnaryOp .USub (.Constant (.int 1) k p1) p2)) p3) pos) (tRevT X.K te) := by
  refine ⟨fun pins s σ H Q I told => Subscript_ (thn (he.run pins s σ H _ I told) fun v s1 ⟨x, H1, I1, r1, a, xs, ex, hx, q⟩ => ?_)⟩
  subst ex
  cases r1
  have step : PO X (some (.UnaryOp .USub (.Constant (.int 1) k p1) p2)) (tPart (tUn (rU fun i => .int (-i)) (tC (.int 1)))) := po_some (pe_un un_neg pe_int)
  refine wpAny_Slice (thn (po_none.run pins s1 σ H1 (fun o H2 => o = none ∧ H2 = H1) I1 ⟨rfl, rfl⟩) fun vl s2 ⟨l, H2, I2, pl, el, e2⟩ => ?_)
  subst el e2
  refine thn (po_none.run pins s2 σ H2 (fun o H3 => o = none ∧ H3 = H2) I2 ⟨rfl, rfl⟩) fun vu s3 ⟨u, H3, I3, pu, eu, e3⟩ => ?_
  subst eu e3
  refine thn (step.run pins s3 σ H3 (fun o H4 => o = some (-1) ∧ H4 = H3) I3 ⟨1, rfl, -1, rfl, rfl, rfl⟩) fun vs s4 ⟨o, H4, I4, ps, eo, e4⟩ => ?_
  subst eo e4
  cases pl
  cases pu
  have I5 : Inv X pins σ H4 { s4 with heap := s4.heap.push { cls := .type "slice", data := .fields #[.none, .none, vs] } } := I4.kept (t' := s4.toks) fun b ob q => Heap.get?_push_of_some _ q
  obtain ⟨its, r, ht, hz⟩ := I5.tuple hx
  have hlen := r.length
  show wpAny (model X.prog X.w) X.A (subscriptTail e (.Slice none none (some (.UnaryOp .USub (.Constant (.int 1) k p1) p2)) p3) (.ref a) (.ref s4.heap.objs.size)) (EP X pins σ Q) X.xe { s4 with heap := s4.heap.push { cls := .type "slice", data := .fields #[.none, .none, vs] } }
  refine tail_any (ops := [.ref a, .ref s4.heap.objs.size]) ht.typeIs (PyProof.Rows.slot_tuple_getitem.lookup) ?_ (by with_unfolding_all rfl)
  refine item_rev ht (Heap.IsSliceOf.new _ .none .none vs) ps (by rw [List.size_toArray]; omega) ?_
  refine ⟨.ref _, _, I5.laid (t' := s4.toks) (o := .tup xs.reverse) (fun b ob q => Heap.get?_push_of_some _ q) (Nat.le_refl _) ?_, rfl, q _ (I5.hok.fresh (Nat.le_refl _))⟩
  exact ⟨by rw [List.length_reverse]; exact hz, _, r.reverse, _, Heap.get?_push_size _ rfl, rfl, 0, rfl⟩
/-! isinstance of them -/
def isI : T → Bool
  | .int _ => true
  | .bl _ => true
  | _ => false
def isB : T → Bool
  | .bl _ => true
  | _ => false
def isT : T → Bool
  | .tup _ => true
  | _ => false
def whole : T → Bool
  | .int _ => true
  | _ => false
section
variable {K : PySem.W.Frag} {H : Hp} {σ : L2.St} {te : TE} {v : V} {t : T}
theorem ty_lst {a : Addr} {xs : List V} (h : SqL K H a xs) : TyX K H (.ref a) (.type "list") := by
  rcases h with (h | ⟨o, h⟩) | ⟨o, its, n, h, c, _⟩
  · exact .base (.lst h)
  · exact .base (.frz h)
  · exact .kList h c
theorem ty_tup {a : Addr} {xs : List V} (h : SqT K H a xs) : TyX K H (.ref a) (.type "tuple") := by
  rcases h with (h | ⟨o, h⟩) | ⟨o, its, n, h, c, _⟩
  · exact .base (.tup h)
  · exact .fTuple h
  · exact .kTuple h c
theorem isi_int (h : An K H v t) {Q : VK} (q : Q (.bl (isI t)) H) : rIsi K [v, .ty "int"] H Q := by
  cases h with
  | non => exact ⟨_, _, _, .type "int", false, rfl, .ty "int", .base .non, kit_ty (by decide +kernel), q⟩
  | bl b => exact ⟨_, _, _, .type "int", true, rfl, .ty "int", .base (.bl b), kit_ty (by decide +kernel), q⟩
  | int i => exact ⟨_, _, _, .type "int", true, rfl, .ty "int", .base (.int i), kit_ty (by decide +kernel), q⟩
  | str x => exact ⟨_, _, _, .type "int", false, rfl, .ty "int", .base (.str x), kit_ty (by decide +kernel), q⟩
  | tup h _ => exact ⟨_, _, _, .type "int", false, rfl, .ty "int", ty_tup h, kit_ty (by decide +kernel), q⟩
  | lst h => exact ⟨_, _, _, .type "int", false, rfl, .ty "int", ty_lst h, kit_ty (by decide +kernel), q⟩
  | dct h => exact ⟨_, _, _, .type "int", false, rfl, .ty "int", .base (.dK h), kit_ty (by decide +kernel), q⟩
theorem isi_bool (h : An K H v t) {Q : VK} (q : Q (.bl (isB t)) H) : rIsi K [v, .ty "bool"] H Q := by
  cases h with
  | non => exact ⟨_, _, _, .type "bool", false, rfl, .ty "bool", .base .non, kit_ty (by decide +kernel), q⟩
  | bl b => exact ⟨_, _, _, .type "bool", true, rfl, .ty "bool", .base (.bl b), kit_ty (by decide +kernel), q⟩
  | int i => exact ⟨_, _, _, .type "bool", false, rfl, .ty "bool", .base (.int i), kit_ty (by decide +kernel), q⟩
  | str x => exact ⟨_, _, _, .type "bool", false, rfl, .ty "bool", .base (.str x), kit_ty (by decide +kernel), q⟩
  | tup h _ => exact ⟨_, _, _, .type "bool", false, rfl, .ty "bool", ty_tup h, kit_ty (by decide +kernel), q⟩
  | lst h => exact ⟨_, _, _, .type "bool", false, rfl, .ty "bool", ty_lst h, kit_ty (by decide +kernel), q⟩
  | dct h => exact ⟨_, _, _, .type "bool", false, rfl, .ty "bool", .base (.dK h), kit_ty (by decide +kernel), q⟩
theorem isi_tuple (h : An K H v t) {Q : VK} (q : Q (.bl (isT t)) H) : rIsi K [v, .ty "tuple"] H Q := by
  cases h with
  | non => exact ⟨_, _, _, .type "tuple", false, rfl, .ty "tuple", .base .non, kit_ty (by decide +kernel), q⟩
  | bl b => exact ⟨_, _, _, .type "tuple", false, rfl, .ty "tuple", .base (.bl b), kit_ty (by decide +kernel), q⟩
  | int i => exact ⟨_, _, _, .type "tuple", false, rfl, .ty "tuple", .base (.int i), kit_ty (by decide +kernel), q⟩
  | str x => exact ⟨_, _, _, .type "tuple", false, rfl, .ty "tuple", .base (.str x), kit_ty (by decide +kernel), q⟩
  | tup h _ => exact ⟨_, _, _, .type "tuple", true, rfl, .ty "tuple", ty_tup h, kit_ty (by decide +kernel), q⟩
  | lst h => exact ⟨_, _, _, .type "tuple", false, rfl, .ty "tuple", ty_lst h, kit_ty (by decide +kernel), q⟩
  | dct h => exact ⟨_, _, _, .type "tuple", false, rfl, .ty "tuple", .base (.dK h), kit_ty (by decide +kernel), q⟩
theorem v_int (h : Val te σ H v) (a : An K H v t) : Val (tCB (rIsi K) (tCons te (tCons (tC (.ty "int")) tNil))) σ H (.bl (isI t)) := fun Q q => h _ (isi_int a q)
theorem v_bool (h : Val te σ H v) (a : An K H v t) : Val (tCB (rIsi K) (tCons te (tCons (tC (.ty "bool")) tNil))) σ H (.bl (isB t)) := fun Q q => h _ (isi_bool a q)
theorem v_tuple (h : Val te σ H v) (a : An K H v t) : Val (tCB (rIsi K) (tCons te (tCons (tC (.ty "tuple")) tNil))) σ H (.bl (isT t)) := fun Q q => h _ (isi_tuple a q)
/-- isinstance(v, int) and not isinstance(v, bool) -/
theorem whole_and (hI : Val te σ H v) (h : An K H v t) : Val (tAndV (tCB (rIsi K) (tCons te (tCons (tC (.ty "int")) tNil))) (tNotV (tCB (rIsi K) (tCons te (tCons (tC (.ty "bool")) tNil))))) σ H (.bl (whole t)) := by
  intro Q q
  refine v_int hI h _ ⟨isI t, rfl, ?_⟩
  cases t with
  | int i => exact iteT (v_bool hI h _ ⟨false, rfl, q⟩)
  | bl b => exact iteT (v_bool hI h _ ⟨true, rfl, q⟩)
  | non => exact iteF q
  | str x => exact iteF q
  | tup ts => exact iteF q
  | lst => exact iteF q
  | dct => exact iteF q
/-! parts of tuples, whatever they hold -/
theorem sl_anyT {a : Addr} {xs : List V} {lo hi : Option Int} {Q : VK} (h : SqT K H a xs) (k : ∀ b H', Same H H' → SqT K H' b (cutV xs lo hi) → Q (.ref b) H') : rSlA K (.ref a) lo hi H Q := by
  refine ⟨a, xs, rfl, h, fun w => ?_, fun _ p np => k p _ (same_of np) (SqT.of upd_same)⟩
  have e : cutV xs lo hi = xs := by
    unfold cutV
    rw [w.1, w.2]
    exact List.take_of_length_le (by rw [List.length_drop]; omega)
  exact k a H (Same.refl H) (by rw [e]; exact h)
theorem cat_anyT {a b : Addr} {xs ys : List V} {Q : VK} (h1 : SqT K H a xs) (h2 : SqT K H b ys) (hl : xs.length + ys.length ≤ sizeLine) (k : ∀ c H', Same H H' → SqT K H' c (xs ++ ys) → Q (.ref c) H') : rCatA K (.ref a) (.ref b) H Q := by
  refine ⟨a, b, xs, ys, rfl, rfl, h1, h2, hl, fun e => ?_, fun _ e => ?_, fun _ _ p np => k p _ (same_of np) (SqT.of upd_same)⟩
  · subst e
    exact k b H (Same.refl H) h2
  · subst e
    exact k a H (Same.refl H) (by rw [List.append_nil]; exact h1)
end
/-- t != (), whatever t holds -/
def rNeT0 (K : PySem.W.Frag) : R2 := fun x y H Q => ∃ (a b : Addr) (xs : List V), x = .ref a ∧ y = .ref b ∧ SqT K H a xs ∧ SqT K H b [] ∧ Q (.bl (!xs.isEmpty)) H
theorem op_neT0 {X : Cx} (hu : X.A.units < cLine) : OpR X (compareOp .NotEq) (rNeT0 X.K) := by
  intro pins s σ H x y v u Q I rx ry h
  obtain ⟨a, b, xs, rfl, rfl, ha, hb, q⟩ := h
  cases rx
  cases ry
  obtain ⟨its, r1, ⟨⟨c1, d1, t1, sl1⟩, ho1, hc1, n1, hd1⟩, _⟩ := I.tuple ha
  obtain ⟨its2, r2, ⟨⟨c2, d2, t2, sl2⟩, ho2, hc2, n2, hd2⟩, _⟩ := I.tuple hb
  cases r2
  simp only at hc1 hd1 hc2 hd2
  subst hc1 hd1 hc2 hd2
  refine richCompare_meets_room (op := .NotEq) ⟨_, ho1, rfl⟩ ⟨_, ho2, rfl⟩ PySem.F.slot_tuple_ne PySem.F.entry_tuple_ne (PySem.F.args_tuple_ne_2 _ _) (PySem.SeqAt.tuple_neAt a b its.toArray ([] : List Value).toArray n1 n2 d1 d2 sl1 sl2 (fun _ => true))
    ⟨ho1, ho2, fun j h1 h2 => absurd h2 (by simp), ?_⟩ hu
  have hlen := r1.length
  have e : (!((List.range (min its.toArray.size ([] : List Value).toArray.size)).all (fun _ => true) && its.toArray.size == ([] : List Value).toArray.size)) = !xs.isEmpty := by
    cases xs with
    | nil =>
      cases r1
      rfl
    | cons c r =>
      cases r1
      simp
  rw [e]
  exact ⟨(fun z => nomatch z), ⟨.bl (!xs.isEmpty), H, I, rfl, q⟩⟩
end Lamp
set_option Elab.async false
set_option linter.all false
set_option maxRecDepth 100000
set_option maxHeartbeats 1000000
namespace Lamp
open PySem PySem.Spec PyProof.Rows L2 LamX
abbrev sIsInt : Stmt := top 17
abbrev sIsLevels : Stmt := top 18
abbrev sIsLamp : Stmt := top 19
abbrev sWrong : Stmt := top 20
abbrev sWhole : Stmt := top 29
abbrev sIsLv : Stmt := top 36
abbrev sWrongs : Stmt := top 37
/-! what a value is, by the program and by the law -/
def lampOf (p : Int) : T → Option Int
  | .tup [.int a, .int b] => if 0 < b ∧ b < p then some a else none
  | _ => none
def badAt (p : Int) (ts : List T) (i : Nat) : Bool := match ts[i]?.bind (lampOf p) with
  | none => true
  | some a => decide (0 < i) && (match ts[i - 1]?.bind (lampOf p) with
    | some a' => decide (a ≤ a')
    | none => true)
def levelsB : T → Bool
  | .int i => decide (i = 2 ∨ i = 3 ∨ i = 5 ∨ i = 7)
  | _ => false
theorem lampOf_some {p a : Int} {t : T} (h : lampOf p t = some a) : ∃ b, t = .tup [.int a, .int b] ∧ 0 < b ∧ b < p := by
  unfold lampOf at h
  split at h
  · rename_i x y
    split at h
    · rename_i hc
      cases h
      exact ⟨y, rfl, hc⟩
    · cases h
  · cases h
theorem good_at {p : Int} {ts : List T} {i : Nat} (h : badAt p ts i = false) : ∃ a b, ts[i]? = some (.tup [.int a, .int b]) ∧ lampOf p (.tup [.int a, .int b]) = some a ∧ (0 < i → ∀ a', ts[i - 1]?.bind (lampOf p) = some a' → a' < a) := by
  unfold badAt at h
  split at h
  · cases h
  · rename_i a e
    cases e2 : ts[i]? with
    | none => rw [e2] at e; cases e
    | some t =>
      rw [e2] at e
      have e : lampOf p t = some a := e
      obtain ⟨b, rfl, h1⟩ := lampOf_some e
      refine ⟨a, b, rfl, e, fun hi a' ha' => ?_⟩
      rw [ha', decide_eq_true hi, Bool.true_and] at h
      have z := of_decide_eq_false h
      omega
def rV : Option Nat → V
  | none => .non
  | some i => .int (i : Int)
/-- the first bad one -/
def WJ (p : Int) (ts : List T) : Option Nat → Prop
  | none => ∀ i, i < ts.length → badAt p ts i = false
  | some i => i < ts.length ∧ badAt p ts i = true ∧ ∀ j, j < i → badAt p ts j = false
/-- the index that is told: the first bad one, or the 401st -/
def Judge (p : Int) (ts : List T) : Option Nat → Prop
  | none => ts.length ≤ 400 ∧ ∀ i, i < ts.length → badAt p ts i = false
  | some i => i < ts.length ∧ i ≤ 400 ∧ (∀ j, j < i → badAt p ts j = false) ∧ (i = 400 ∨ badAt p ts i = true)
theorem Judge.one {p : Int} {ts : List T} {r r' : Option Nat} (h : Judge p ts r) (h' : Judge p ts r') : r = r' := by
  cases r with
  | none =>
    cases r' with
    | none => rfl
    | some i =>
      obtain ⟨h1, h2⟩ := h
      obtain ⟨g1, g2, g3, g4⟩ := h'
      rcases g4 with g4 | g4
      · omega
      · rw [h2 i g1] at g4; cases g4
  | some j =>
    cases r' with
    | none =>
      obtain ⟨h1, h2⟩ := h'
      obtain ⟨g1, g2, g3, g4⟩ := h
      rcases g4 with g4 | g4
      · omega
      · rw [h2 j g1] at g4; cases g4
    | some i =>
      obtain ⟨h1, h2, h3, h4⟩ := h
      obtain ⟨g1, g2, g3, g4⟩ := h'
      rcases Nat.lt_trichotomy i j with z | z | z
      · rcases g4 with g4 | g4
        · omega
        · rw [h3 i z] at g4; cases g4
      · rw [z]
      · rcases h4 with h4 | h4
        · omega
        · rw [g3 j z] at h4; cases h4
theorem badAt_take {p : Int} {ts : List T} {n i : Nat} (h : i < n) : badAt p (ts.take n) i = badAt p ts i := by
  unfold badAt
  rw [List.getElem?_take_of_lt h, List.getElem?_take_of_lt (by omega)]
theorem Judge.of {p : Int} {ts : List T} {r : Option Nat} (h : WJ p (ts.take 400) r) : (r = none → 400 < ts.length → Judge p ts (some 400)) ∧ (r = none → ¬ 400 < ts.length → Judge p ts none) ∧ (∀ i, r = some i → Judge p ts (some i)) := by
  refine ⟨fun e l => ?_, fun e l => ?_, fun i e => ?_⟩
  · subst e
    refine ⟨l, by omega, fun j hj => ?_, .inl rfl⟩
    rw [← badAt_take hj]
    exact h j (by rw [List.length_take]; omega)
  · subst e
    refine ⟨by omega, fun j hj => ?_⟩
    rw [← badAt_take (n := 400) (by omega)]
    exact h j (by rw [List.length_take]; omega)
  · subst e
    obtain ⟨h1, h2, h3⟩ := h
    rw [List.length_take] at h1
    rw [badAt_take (by omega)] at h2
    refine ⟨by omega, by omega, fun j hj => ?_, .inr h2⟩
    rw [← badAt_take (n := 400) (by omega)]
    exact h3 j hj
/-! the program's -/
def spIsInt (K : PySem.W.Frag) : Sp := fun vs H Q _ => ∃ (v : V) (t : T), vs = [v] ∧ An K H v t ∧ Q (.bl (whole t)) H
def spIsLevels (K : PySem.W.Frag) : Sp := fun vs H Q _ => ∃ (v : V) (t : T), vs = [v] ∧ An K H v t ∧ Q (.bl (levelsB t)) H
def spIsLamp (K : PySem.W.Frag) : Sp := fun vs H Q _ => ∃ (lv : Int) (v : V) (t : T), vs = [.int lv, v] ∧ An K H v t ∧ Q (.bl (lampOf lv t).isSome) H
def spWrong (K : PySem.W.Frag) : Sp := fun vs H Q _ => ∃ (lv : Int) (a : Addr) (xs : List V) (ts : List T), vs = [.int lv, .ref a] ∧ SqT K H a xs ∧ AnAll K H xs ts ∧ ∀ r H', Same H H' → WJ lv ts r → Q (rV r) H'
section
variable {P : Program} {w : World} {K : PySem.W.Frag} {mg : Str → Option Value} {base : Heap}
theorem scIsInt : FnScope ["value"] ["value"] (defScope sIsInt) := ⟨rfl, rfl, rfl, by decide +kernel, rfl, by decide +kernel, by decide +kernel⟩
theorem scIsLevels : FnScope ["value"] ["value"] (defScope sIsLevels) := ⟨rfl, rfl, rfl, by decide +kernel, rfl, by decide +kernel, by decide +kernel⟩
theorem scIsLamp : FnScope ["levels", "value", "place", "level"] ["levels", "value"] (defScope sIsLamp) := ⟨rfl, rfl, rfl, by decide +kernel, rfl, by decide +kernel, by decide +kernel⟩
theorem scWrong : FnScope ["levels", "lamps", "index", "lamp"] ["levels", "lamps"] (defScope sWrong) := ⟨rfl, rfl, rfl, by decide +kernel, rfl, by decide +kernel, by decide +kernel⟩
theorem an_int {H : Hp} {v : V} {t : T} (h : An K H v t) (e : whole t = true) : ∃ i, v = .int i ∧ t = .int i := by
  cases h <;> first | exact ⟨_, rfl, rfl⟩ | cases e
theorem ok_isInt {f : Addr} {fd : FuncData} (F : Fun K "is_integer" "is_integer" sIsInt f fd) (mis : mg "isinstance" = none) (mi : mg "int" = none) (mb : mg "bool" = none) : FnOk P w K mg base CX0 1 f fd ["value"] (spIsInt K) := by
  refine F.ok scIsInt (fun vs H Q E h => ?_) (fun cdv A outer s H vs Q E hr h => ?_)
  · obtain ⟨v, t, rfl, _⟩ := h
    rfl
  · obtain ⟨v, t, rfl, ha, q⟩ := h
    refine ⟨_, pss_one (ps_ret (pe_and (pe_callB call_isi (by rfl) mis (by decide +kernel) (pa_cons (pv 0) (pa_cons (pe_bltn (v := .ty "int") (by rfl) mi (by decide +kernel) rfl) pa_nil)))
      (pe_one (pe_not (pe_callB call_isi (by rfl) mis (by decide +kernel) (pa_cons (pv 0) (pa_cons (pe_bltn (v := .ty "bool") (by rfl) mb (by decide +kernel) rfl) pa_nil))))))), ?_⟩
    exact st_ret (whole_and (val_var rfl) ha) q
theorem in_levels {i : Int} : inV (V.int i) [.int 2, .int 3, .int 5, .int 7] = decide (i = 2 ∨ i = 3 ∨ i = 5 ∨ i = 7) := by
  by_cases h : i = 2 ∨ i = 3 ∨ i = 5 ∨ i = 7
  · rw [decide_eq_true h]
    rcases h with rfl | rfl | rfl | rfl <;> decide
  · rw [decide_eq_false h]
    have h2 : i ≠ 2 := fun z => h (.inl z)
    have h3 : i ≠ 3 := fun z => h (.inr (.inl z))
    have h5 : i ≠ 5 := fun z => h (.inr (.inr (.inl z)))
    have h7 : i ≠ 7 := fun z => h (.inr (.inr (.inr z)))
    simp [inV, eqV, Ne.symm h2, Ne.symm h3, Ne.symm h5, Ne.symm h7]
theorem ok_isLevels {f aL : Addr} {fd : FuncData} (F : Fun K "is_levels" "is_levels" sIsLevels f fd) (I : Dr P w K mg base (spIsInt K) "is_integer" ["value"] 1) (mL : mg "LEVELS" = some (.ref aL)) (four : ∀ H, SqT K H aL [.int 2, .int 3, .int 5, .int 7]) : FnOk P w K mg base CX0 2 f fd ["value"] (spIsLevels K) := by
  refine F.ok scIsLevels (fun vs H Q E h => ?_) (fun cdv A outer s H vs Q E hr h => ?_)
  · obtain ⟨v, t, rfl, _⟩ := h
    rfl
  · obtain ⟨v, t, rfl, ha, q⟩ := h
    refine ⟨_, pss_one (ps_ret (pe_and (pe_dr I (Nat.le_refl _) hr rfl (pa_cons (pv 0) pa_nil)) (pe_one (pe_cmpR op_in_seq (pv 0) (pe_glob (v := .ref aL) rfl mL rfl) (by rfl))))), ?_⟩
    refine ⟨_, rfl, v, t, rfl, ha, whole t, rfl, ?_⟩
    cases e : whole t with
    | true =>
      obtain ⟨i, rfl, rfl⟩ := an_int ha e
      refine iteT ⟨_, rfl, aL, _, rfl, .inr (four H), rfl, by decide, ?_⟩
      rw [in_levels]
      exact q
    | false =>
      refine iteF ?_
      cases t with
      | int i => cases e
      | _ => exact q
theorem tup_two {H : Hp} {v : V} {ts : List T} (h : An K H v (.tup ts)) (e : ts.length = 2) : ∃ a x y t u, v = .ref a ∧ SqT K H a [x, y] ∧ ts = [t, u] ∧ An K H x t ∧ An K H y u := by
  cases h with
  | tup hs ha =>
    cases ha with
    | nil => cases e
    | cons h1 h2 =>
      cases h2 with
      | nil => cases e
      | cons h3 h4 =>
        cases h4 with
        | nil => exact ⟨_, _, _, _, _, rfl, hs, rfl, h1, h3⟩
        | cons _ _ => simp at e
theorem lampOf_two {lv : Int} {t u : T} : (lampOf lv (.tup [t, u])).isSome = (whole t && (whole u && (match u with | .int b => decide (0 < b ∧ b < lv) | _ => false))) := by
  cases t with
  | int a =>
    cases u with
    | int b =>
      show (if 0 < b ∧ b < lv then some a else none).isSome = _
      by_cases h : 0 < b ∧ b < lv
      · rw [if_pos h]
        simp [whole, h]
      · rw [if_neg h]
        simp only [whole, decide_eq_false h]
        rfl
    | _ => rfl
  | _ => cases u <;> rfl
theorem lampOf_len {lv : Int} {ts : List T} (h : ts.length ≠ 2) : lampOf lv (.tup ts) = none := by
  match ts, h with
  | [], _ => rfl
  | [_], _ => cases ‹T› <;> rfl
  | [_, _], h => exact absurd rfl h
  | _ :: _ :: _ :: _, _ =>
    unfold lampOf
    split
    · rename_i e; injection e with e; simp at e
    · rfl
theorem ok_isLamp {f : Addr} {fd : FuncData} (F : Fun K "is_lamp" "is_lamp" sIsLamp f fd) (I : Dr P w K mg base (spIsInt K) "is_integer" ["value"] 1) (mis : mg "isinstance" = none) (mt : mg "tuple" = none) (ml : mg "len" = none) : FnOk P w K mg base CX0 2 f fd ["levels", "value"] (spIsLamp K) := by
  refine F.ok scIsLamp (fun vs H Q E h => ?_) (fun cdv A outer s H vs Q E hr h => ?_)
  · obtain ⟨lv, v, t, rfl, _⟩ := h
    rfl
  · obtain ⟨lv, v, t, rfl, ha, q⟩ := h
    refine ⟨_, pss_cons (ps_if (PW.pt (pw_or (pt_not (pt_val (pe_callB call_isi (by rfl) mis (by decide +kernel) (pa_cons (pv 1) (pa_cons (pe_bltn (v := .ty "tuple") (by rfl) mt (by decide +kernel) rfl) pa_nil)))))
          (pw_or1 (pt_cmpR op_ne (pe_callB call_len_seq (by rfl) ml PySem.boot_len (pa_cons (pv 1) pa_nil)) pe_int (nomark _))))) (pss_one (ps_ret pe_bl)) pss_nil)
      (pss_cons (ps_asg (pv 1) (pg_tup rfl (pgs_cons (pg_name (i := 2) scIsLamp.nd rfl (.inl rfl)) (pgs_cons (pg_name (i := 3) scIsLamp.nd rfl (.inl rfl)) pgs_nil))))
      (pss_one (ps_ret (pe_and (pe_dr I (Nat.le_refl _) hr rfl (pa_cons (pv 2) pa_nil)) (pe_and (pe_dr I (Nat.le_refl _) hr rfl (pa_cons (pv 3) pa_nil)) (pe_one (pe_chain op_lt op_lt pe_int (pv 3) (pv 0)))))))), ?_⟩
    have noTup : isT t = false → lampOf lv t = none := fun e => by cases t <;> first | rfl | cases e
    cases ei : isT t with
    | false =>
      rw [noTup ei] at q
      refine sq_yes (ans_or1 (ans_not (b := false) (ans_val (by have z := v_tuple (K := K) (te := tVar 1) (σ := [some (V.int lv), some v, none, none]) (val_var rfl) ha; rw [ei] at z; exact z)))) ?_
      exact st_ret val_c q
    | true =>
      cases t with
      | tup ts =>
        obtain ⟨a, xs, rfl, hs, hall⟩ : ∃ a xs, v = .ref a ∧ SqT K H a xs ∧ AnAll K H xs ts := by
          cases ha with
          | tup h1 h2 => exact ⟨_, _, rfl, h1, h2⟩
        have hl := anAll_len hall
        have isTup : Ans (tNot (tB (tCB (rIsi K) (tCons (tVar 1) (tCons (tC (.ty "tuple")) tNil))))) [some (V.int lv), some (V.ref a), none, none] H false :=
          ans_not (b := true) (ans_val (v_tuple (t := .tup ts) (val_var rfl) ha))
        by_cases h2 : ts.length = 2
        · obtain ⟨a', x, y, t, u, ev, hs2, rfl, h3, h4⟩ := tup_two ha h2
          cases ev
          refine sq_no (ans_or isTup (ans_ne (x := .int 2) (y := .int 2) (fun Q q => ⟨_, rfl, a, _, rfl, .inr hs2, q⟩) val_c rfl rfl)) ?_
          refine ⟨_, rfl, a, _, rfl, hs2, rfl, _, _, rfl, _, _, rfl, rfl, ?_⟩
          rw [lampOf_two] at q
          refine ⟨_, rfl, x, t, rfl, h3, whole t, rfl, ?_⟩
          cases e1 : whole t with
          | false =>
            rw [e1] at q
            exact iteF q
          | true =>
            rw [e1, Bool.true_and] at q
            refine iteT ⟨_, rfl, y, u, rfl, h4, whole u, rfl, ?_⟩
            cases e2 : whole u with
            | false =>
              rw [e2] at q
              exact iteF q
            | true =>
              obtain ⟨b, rfl, rfl⟩ := an_int h4 e2
              rw [e2, Bool.true_and] at q
              refine iteT ⟨_, rfl, 0, b, rfl, rfl, decide (0 < b), rfl, ?_⟩
              have q : Q (.bl (decide (0 < b ∧ b < lv))) H := q
              by_cases h0 : 0 < b
              · rw [if_pos (decide_eq_true h0)]
                refine ⟨_, rfl, b, lv, rfl, rfl, ?_⟩
                have e : decide (0 < b ∧ b < lv) = decide (b < lv) := by simp [h0]
                rw [e] at q
                exact q
              · rw [if_neg (by rw [decide_eq_false h0]; decide)]
                have e : decide (0 < b ∧ b < lv) = false := decide_eq_false fun z => h0 z.1
                rw [e] at q
                exact q
        · rw [lampOf_len h2] at q
          refine sq_yes (ans_or isTup (ans_ne (x := .int (xs.length : Int)) (y := .int 2) (fun Q q => ⟨_, rfl, a, _, rfl, .inr hs, q⟩) val_c rfl ?_)) ?_
          · rw [decide_eq_false fun z => h2 (by have z := V.int.inj z; omega)]
            rfl
          · exact st_ret val_c q
      | _ => cases ei
end
end Lamp
set_option Elab.async false
set_option linter.all false
set_option maxRecDepth 100000
set_option maxHeartbeats 1000000
namespace Lamp
open PySem PySem.Spec PyProof.Rows L2 LamX
section
variable {P : Program} {w : World} {K : PySem.W.Frag} {mg : Str → Option Value} {base : Heap}
theorem good_val {H : Hp} {xs : List V} {ts : List T} {p : Int} {i : Nat} (h : AnAll K H xs ts) (hl : i < ts.length) (g : badAt p ts i = false) : ∃ (c : Addr) (a b : Int), xs[i]? = some (.ref c) ∧ SqT K H c [.int a, .int b] ∧ ts[i]?.bind (lampOf p) = some a ∧ ts[i]? = some (.tup [.int a, .int b]) := by
  obtain ⟨a, b, e1, e2, _⟩ := good_at g
  have hx : i < xs.length := by rw [anAll_len h]; exact hl
  obtain ⟨t, e3, an⟩ := anAll_get h (List.getElem?_eq_getElem hx)
  rw [e1] at e3
  cases e3
  obtain ⟨c, x, y, t, u, ev, hs, et, h3, h4⟩ := tup_two an rfl
  cases et
  cases h3
  cases h4
  refine ⟨c, a, b, by rw [List.getElem?_eq_getElem hx, ev], hs, by rw [e1]; exact e2, e1⟩
/-- whether the i-th one is bad, when it is a lamp and those ahead are not bad -/
theorem bad_by {p a a' : Int} {ts : List T} {i : Nat} (h : ts[i]?.bind (lampOf p) = some a) (h' : 0 < i → ts[i - 1]?.bind (lampOf p) = some a') : badAt p ts i = (decide (0 < i) && decide (a ≤ a')) := by
  unfold badAt
  rw [h]
  by_cases hi : 0 < i
  · rw [h' hi]
  · simp only [hi, decide_false, Bool.false_and]
theorem ok_wrong {f : Addr} {fd : FuncData} (F : Fun K "wrong_lamp" "wrong_lamp" sWrong f fd) (L : Dr P w K mg base (spIsLamp K) "is_lamp" ["levels", "value"] 2) (me : mg "enumerate" = none) : FnOk P w K mg base CX0 3 f fd ["levels", "lamps"] (spWrong K) := by
  refine F.ok scWrong (fun vs H Q E h => ?_) (fun cdv A outer s H vs Q E hr h => ?_)
  · obtain ⟨lv, a, xs, ts, rfl, _⟩ := h
    rfl
  · obtain ⟨lv, t, xs, ts, rfl, ht, hall, q⟩ := h
    have hlen := anAll_len hall
    refine ⟨_, pss_cons (ps_for PassesOwn.never rfl (pi_enumT rfl me (pa_cons (pv 1) pa_nil)) (pg_tup rfl (pgs_cons (pg_name (i := 2) scWrong.nd rfl (.inl rfl)) (pgs_cons (pg_name (i := 3) scWrong.nd rfl (.inl rfl)) pgs_nil)))
        (pss_cons (ps_if (pt_not (pt_val (pe_dr L (Nat.le_refl _) hr rfl (pa_cons (pv 0) (pa_cons (pv 3) pa_nil))))) (pss_one (ps_ret (pv 2))) pss_nil)
        (pss_one (ps_if (PW.pt (pw_and (pt_cmpR op_gt (pv 2) pe_int (nomark _)) (pw_and1 (pt_cmpR op_le (pe_ix ix_tup (pv 3) pe_int (fun _ _ => rfl)) (pe_ix ix_tup (pe_ix ix_tup (pv 1) (pe_op op_sub (pv 2) pe_int) (fun _ _ => rfl)) pe_int (fun _ _ => rfl)) (nomark _))))) (pss_one (ps_ret (pv 2))) pss_nil))))
      (pss_one (ps_ret pe_non)), ?_⟩
    refine ⟨_, rfl, t, _, rfl, ht, for_enumT (xs := xs) (fun i σ H' => ∃ x y, σ = [some (.int lv), some (.ref t), x, y] ∧ Same H H' ∧ i ≤ ts.length ∧ ∀ j, j < i → badAt lv ts j = false) ⟨_, _, rfl, Same.refl H, Nat.zero_le _, fun j hj => absurd hj (by omega)⟩ (fun i σ H' _ z => ?_) (fun i x σ H' Tp hx z hT => ?_) (fun σ H' z => ?_)⟩
    · obtain ⟨_, _, _, s, _⟩ := z
      exact same_seqT s ht
    · obtain ⟨x0, y0, rfl, s, _, ahead⟩ := z
      have s1 := s.trans (same_of (o := .tup [V.int (i : Nat), x]) hT)
      have hall1 := anAll_same s1 hall
      obtain ⟨u, eu, an⟩ := anAll_get hall1 hx
      have li : i < ts.length := (List.getElem?_eq_some_iff.mp eu).1
      refine ⟨Tp, _, rfl, SqT.of upd_same, rfl, _, _, rfl, _, _, rfl, rfl, ?_⟩
      cases el : lampOf lv u with
      | none =>
        have bad : badAt lv ts i = true := by
          unfold badAt
          rw [eu]
          show (match lampOf lv u with | none => true | some a => _) = true
          rw [el]
        refine sq_yes (ans_not (b := false) (ans_val fun Q q => ⟨_, rfl, _, rfl, lv, _, u, rfl, an, by rw [el]; exact q⟩)) ?_
        exact st_ret (val_var rfl) (q (some i) _ s1 ⟨li, bad, ahead⟩)
      | some a =>
        refine sq_no (ans_not (b := true) (ans_val fun Q q => ⟨_, rfl, _, rfl, lv, _, u, rfl, an, by rw [el]; exact q⟩)) ?_
        obtain ⟨b, rfl, _⟩ := lampOf_some el
        obtain ⟨c, x1, y1, t1, u1, ev, hs, et, h3, h4⟩ := tup_two an rfl
        cases et
        cases h3
        cases h4
        subst ev
        have here : ts[i]?.bind (lampOf lv) = some a := by rw [eu]; exact el
        cases i with
        | zero =>
          have e : badAt lv ts 0 = false := by rw [bad_by (a' := 0) here (fun z => absurd z (by omega))]; rfl
          refine st_no (ans_and0 (an_gt (val_var rfl) val_c (decide_eq_false (by decide)))) ?_
          exact ⟨_, _, rfl, s1, li, fun j hj => by have z : j = 0 := by omega
                                                   rw [z]; exact e⟩
        | succ j =>
          obtain ⟨c', a', b', ex, hs', hb', _⟩ := good_val hall1 (i := j) (by omega) (ahead j (by omega))
          have e := bad_by (a' := a') here (fun _ => hb')
          have e : badAt lv ts (j + 1) = decide (a ≤ a') := by rw [e, decide_eq_true (by omega : 0 < j + 1), Bool.true_and]
          have cmp : Ans (tAnd (tTest (tOp (rI0 fun i j => .bl (decide (j < i))) (tVar 2) (tC (.int 0)))) (tTest (tOp (rI0 fun i j => .bl (decide (i ≤ j))) (tOp (rIxT K) (tVar 3) (tC (.int 0))) (tOp (rIxT K) (tOp (rIxT K) (tVar 1) (tOp (rI0 fun i j => .int (i - j)) (tVar 2) (tC (.int 1)))) (tC (.int 0))))))
              [some (.int lv), some (.ref t), some (.int ((j + 1 : Nat) : Int)), some (.ref c)] (upd H' Tp (.tup [V.int ((j + 1 : Nat) : Int), V.ref c])) (decide (a ≤ a')) := by
            refine ans_and (an_gt (val_var rfl) val_c (decide_eq_true (by omega))) (ans_cmp (x := .int a) (y := .int a') (val_op (val_var rfl) val_c fun Q q => ⟨c, _, 0, _, rfl, rfl, hs, rfl, q⟩) ?_ fun Q q => ⟨_, _, rfl, rfl, q⟩)
            refine val_op (x := .ref c') (val_op (val_var rfl) (val_op (z := .int (j : Int)) (val_var rfl) val_c fun Q q => ⟨_, _, rfl, rfl, ?_⟩) fun Q q => ⟨t, _, (j : Int), _, rfl, rfl, same_seqT s1 ht, L2.at_of (j := j) rfl ex, q⟩) val_c fun Q q => ⟨_, _, 0, _, rfl, rfl, hs', rfl, q⟩
            have e : ((j + 1 : Nat) : Int) - 1 = (j : Int) := by omega
            show Q (.int (((j + 1 : Nat) : Int) - 1)) _
            rw [e]
            exact q
          by_cases h : a ≤ a'
          · rw [decide_eq_true h] at cmp e
            exact st_yes cmp (st_ret (val_var rfl) (q (some (j + 1)) _ s1 ⟨li, e, ahead⟩))
          · rw [decide_eq_false h] at cmp e
            refine st_no cmp ⟨_, _, rfl, s1, li, fun k hk => ?_⟩
            by_cases z : k = j + 1
            · rw [z]; exact e
            · exact ahead k (by omega)
    · obtain ⟨_, _, rfl, s, _, all⟩ := z
      exact q none _ s fun i hi => all i (by omega)
end
end Lamp
set_option Elab.async false
set_option linter.all false
set_option maxRecDepth 100000
set_option maxHeartbeats 2000000
namespace Lamp
open PySem PySem.Spec PyProof.Rows L2 L2H HotX
/-! an exception of the program as what is raised, whose context is None -/
section
variable {X : Cx} {e : Expr} {te : TE}
theorem pmk5_xo (noEx : X.ex = []) (he : PE X e te) : PMk5 X e (fun σ H Q => te σ H fun x H1 => ∃ (a C : Addr) (d : Option Addr), x = .ref a ∧ H1 a = some (exo a C d) ∧ Fr0 X.H_0 a ∧ Raises X (.ref C) ∧ Q (.ref C) d (delH H1 a)) := by
  intro pins s σ H Q I told
  refine wpAny_mono (he.run pins s σ H _ I told) (fun u s1 made => ?_) fun _ _ z => z
  obtain ⟨v, H1, I1, rel, a, C, d, rfl, at_, fr, rs, q⟩ := made
  cases rel
  obtain ⟨t1, there⟩ := exo_at I1.hok at_
  obtain ⟨G, sub, gone, J⟩ := I1.untrack at_ fr noEx
  refine ⟨⟨a, _, _, { s1 with heap := G }, delH H1 a, .ref C, d, rfl, J, sub, gone, there, ⟨rfl, rfl, fun vs e => by cases e; rfl⟩, rfl, rfl, delH_same, rfl, I1.bare, rs, q⟩, fun b oe vs ea hg hd => ?_⟩
  cases ea
  have hg' : s1.heap.get? a = some oe := hg
  rw [there] at hg'
  cases hg'
  cases hd
  show (4 : Nat) < 6
  decide
theorem pmk_xoN (noEx : X.ex = []) (he : PE X e te) : L2N.PMk X e (fun σ H Q => te σ H fun x H1 => ∃ (a C : Addr) (d : Option Addr), x = .ref a ∧ H1 a = some (exo a C d) ∧ Fr0 X.H_0 a ∧ Raises X (.ref C) ∧ Q (.ref C) d (delH H1 a)) := (pmk5_xo noEx he).pmk
end
/-! .. made while another is handled -/
structure XH (P : Program) (w : World) (K : PySem.W.Frag) (mg : Str → Option Value) (C : Addr) (x f : Str) : Prop where
  xc : XC P w K mg C x f
  hot : ∃ (fI : Addr) (fd : FuncData), PySem.W.findIn K (.ref C) "__init__" = some (some (.ref fI)) ∧ PySem.W.typeIn K (.ref fI) = some (.type "function") ∧ PySem.W.takerIn K C f = some none ∧
    (∀ base : Heap, FnH P w K mg base CX0 1 fI fd ["self", f] (spInit K C f)) ∧ (∀ (s : Shared) (v u : Value), K.In s.heap → BindsTo s fd ⟨[v, u], []⟩ [("self", v), (f, u)])
section
variable {P : Program} {w : World} {K : PySem.W.Frag} {mg : Str → Option Value} {base : Heap}
theorem ok_initH {fI C : Addr} {fd : FuncData} {st : Stmt} {qual f : Str} {p1 p2 p3 p4 : Pos} (F : Fun K "__init__" qual st fI fd) (S : FnScope ["self", f] ["self", f] (defScope st))
    (hb : defBody st = [.Assign [.Attribute (.Name "self" p1) f p2] (.Name f p3) p4]) (v0 : (defScope st).names.lookup ("self" : Str) = some NameKind.local) (v1 : (defScope st).names.lookup f = some NameKind.local)
    (d1 : (f == ("__debug__" : Str)) = false) (d2 : (f == ("__classdict__" : Str)) = false) : FnH P w K mg base CX0 1 fI fd ["self", f] (spInit K C f) := by
  obtain ⟨oc, od, kV, doc, pm, an, cdv, ct, osl, rfl, lk, hcd⟩ := F.ex
  refine fn_ofH (k := 0) lk hcd S (fun vs H Q E h => ?_) (fun A outer s H vs Q E p hot hr h => ?_)
  · obtain ⟨a, y, rfl, _⟩ := h
    rfl
  · obtain ⟨a, y, rfl, T, ht, ha, q⟩ := h
    rw [hb]
    refine ⟨_, pss_one (ps_store1 (pv 0 rfl (Or.inl v0)) (pv 1 rfl (Or.inl v1) d1 d2)), ?_⟩
    exact ⟨_, rfl, _, rfl, a, C, rfl, T, ht, ha, q⟩
end
section
variable {X : Cx} {C fI : Addr} {fd : FuncData} {f x : Str} {B newId initId : String} {tail : List Value} {p pos kpos : Pos} {e : Expr} {ta : TE}
theorem run_mkEH {pins : List (Addr × Obj)} {σ : L2.St} {H : Hp} {s : Shared} {Q : VK} {u : Value} {y : V} {us : List Value} {kw : List (Str × Value)} {k : Nat} (T : EC X.K C B newId initId tail) (iC : PySem.W.findIn X.K (.ref C) "__init__" = some (some (.ref fI))) (tI : PySem.W.typeIn X.K (.ref fI) = some (.type "function"))
    (ht : PySem.W.takerIn X.K C f = some none) (F1 : FnH X.prog X.w X.K X.mg X.base CX0 k fI fd ["self", f] (spInit X.K C f)) (hr : RoomH (k + 1) X.A) (hc : HotC X)
    (hb : ∀ (s : Shared) (v : Value), X.K.In s.heap → BindsTo s fd ⟨v :: us, kw⟩ [("self", v), (f, u)]) (I : Inv X pins σ H s) (r : RelV y u) (short : us.length ≤ sizeLine)
    (h : ∀ a dx, H a = none → H dx = none → dx ≠ a → Q (.ref a) (upd (upd (upd H a (exo a C none)) dx (exd dx [(f, y)])) a (exo a C (some dx)))) :
    wpAny (model X.prog X.w) X.A (call (.ref C) us kw) (EP X pins σ Q) X.xe s := by
  obtain ⟨nm, N, qn, bs, bm, hdct, sn, sub, ab, col, dd, k0, k1, k2, k3, k5, hC, hT⟩ := PySem.W.excInit_of I.kIn T.made
  obtain ⟨pn, hot, hpn⟩ := hc
  obtain ⟨hp, g, dr, tk, os⟩ := s
  have above : hp.objs.size ≤ hp.objs.size + 1 := Nat.le_succ _
  have new : H (hp.objs.size + 1) = none := I.hok.fresh above
  have kept : ∀ b o, hp.get? b = some o → ((hp.push (PySem.W.kdv_tup us)).push (PySem.HandSPX.excO C hp.objs.size)).get? b = some o := fun b o e => Heap.get?_push_of_some _ (Heap.get?_push_of_some _ e)
  have there : ((hp.push (PySem.W.kdv_tup us)).push (PySem.HandSPX.excO C hp.objs.size)).get? (hp.objs.size + 1) = some (PySem.HandSPX.excO C hp.objs.size) := by heap_get
  have I2 : Inv X pins σ (upd H (hp.objs.size + 1) (exo (hp.objs.size + 1) C none)) ⟨(hp.push (PySem.W.kdv_tup us)).push (PySem.HandSPX.excO C hp.objs.size), g, dr, tk, os⟩ :=
    I.laid (t' := tk) (a := hp.objs.size + 1) (o := exo (hp.objs.size + 1) C none) (h' := (hp.push (PySem.W.kdv_tup us)).push (PySem.HandSPX.excO C hp.objs.size)) kept above (exo_ok there)
  have asked : spInit X.K C f [.ref (hp.objs.size + 1), y] (upd H (hp.objs.size + 1) (exo (hp.objs.size + 1) C none)) (fun v H2 => v = .non ∧ Q (.ref (hp.objs.size + 1)) H2) E0 :=
    ⟨_, y, rfl, ⟨B, newId, initId, tail, T⟩, ht, upd_same, fun dx hn ne => ⟨rfl, h _ dx new (by rw [upd_ne ne] at hn; exact hn) ne⟩⟩
  have pinned := I2.pin pn (List.mem_append_left _ hpn)
  have held : PinOk X.stack (upd H (hp.objs.size + 1) (exo (hp.objs.size + 1) C none)) ⟨(hp.push (PySem.W.kdv_tup us)).push (PySem.HandSPX.excO C hp.objs.size), g, dr, tk, os⟩ pn := by
    refine { get := pinned.1, free := pinned.2.1, nofs := fun m => ?_, nocell := pinned.2.2.2.2 }
    rcases List.mem_cons.mp (I2.stkSub pn.1 m) with own | outer
    · exact pinned.2.2.1 own
    · exact pinned.2.2.2.1 outer
  refine wpAny_call (PySem.LampX.excCalled T.F hT hC (PySem.W.looks_findIn I.kIn iC) (fun self => PySem.W.bind_fn I.kIn self tI) short
    (codeAny_mono (F1.run _ X.stack _ _ ⟨Value.ref (hp.objs.size + 1) :: us, kw⟩ [Value.ref (hp.objs.size + 1), u] _ _ E0 pn ?rm ⟨hot.1, hot.2⟩ held ?ev (hb _ _ I2.kIn) (.cons (show RelV (V.ref _) (Value.ref _) from rfl) (.cons r .nil)) asked) fun res s' told => ?_))
  case rm => exact hr.make C us kw
  case ev => exact I2.env0.make C us kw
  match res, told with
  | .error _, told => exact False.elim told
  | .ok .next, told => exact False.elim told
  | .ok .brk, told => exact False.elim told
  | .ok .cont, told => exact False.elim told
  | .ok (.ret v), told =>
    obtain ⟨z, H', I3, rv, ez, q3⟩ := I2.after told
    subst ez
    exact ⟨rv, ⟨V.ref (hp.objs.size + 1), H', I3, rfl, q3⟩⟩
theorem pe_xcH (Z : XH X.prog X.w X.K X.mg C x f) (hr : RoomH 2 X.A) (hc : HotC X) (hg : Gl X x) (ha : PE X e ta) (hs : starEach [e] X.env = (false, eval e X.env) :: starEach [] X.env := by rfl) (hdb : (x == ("__debug__" : Str)) = false := by decide) :
    PE X (.Call (.Name x p) [e] [] pos) (tMkE C f ta) := by
  obtain ⟨fI, fd, iC, tI, ht, F1, hb⟩ := Z.hot
  obtain ⟨B, newId, initId, tail, T⟩ := Z.xc.T
  refine ⟨fun pins s σ H Q I h => wpAny_Call_Name_kw (ld_glob I hg Z.xc.hm (PySem.W.callWith_K (h₀ := X.base) I.ok.mod.kin T.kp ?_ hs (by rfl)) hdb)⟩
  rw [hs]
  show wpAny _ _ (spliced ((false, eval e X.env) :: backTo pos (starEach [] X.env))) _ _ s
  refine Calls.spliced_cons (thn (ha.run pins s σ H _ I h) fun u s1 ⟨y, H1, I1, r1, q1⟩ => Calls.spliced_nil ⟨I1.kIn, ?_⟩)
  exact run_mkEH (us := [u]) (kw := []) T iC tI ht (F1 _) hr hc (fun s v hk => hb s v u hk) I1 r1 (by show 1 ≤ sizeLine; decide) q1
end
/-! try: body, except (A, B): suite, where all that is raised is one of them; the suite may raise -/
def wTup2 (K : PySem.W.Frag) (c1 c2 : Value) (ts : Addr → Value → Option Addr → TS) (D : Ends) : WX := fun cls d σ H =>
  PySem.W.exmAny K cls [c1, c2] = some true ∧ ∀ a, H a = none → ts a cls d D σ H
section
variable {X : Cx} {x1 x2 : Str} {c1 c2 : Value} {kk : Nat} {body suite : List Stmt} {b0 : Stmt} {p1 p2 tp pos pos' : Pos} {tb : WX → TS} {ts : Addr → Value → Option Addr → TS} {Wout : WX}
theorem ps_try_tup2X (onTop : X.stack = X.env :: X.outer) (framed : X.env.frame = some X.env.locals) (n1 : Names X x1 c1) (n2 : Names X x2 c2) (out : ∀ held : Option Value, PassesOwnAt (model X.prog X.w) (X.A.mark held) X.A X.env X.xe) (lets : L2.Takes X Wout)
    (inBody : ∀ (W : WX) (pn : List (Addr × Obj)) (xe : Value → Shared → Prop), L2N.Takes (X.tr pn xe) W → PassesOwn (model X.prog X.w) X.A X.env xe → PSs (X.tr pn xe) body (tb W))
    (inSuite : ∀ (a : Addr) (oe : Obj) (cls : Value) (d : Option Addr) (pn : List (Addr × Obj)), L2N.Zn cls d oe → (∃ vs, oe.data = .fields vs) → L2.Takes (suiteX X a ((a, oe) :: pn)) Wout → HotC (suiteX X a ((a, oe) :: pn)) → PSs (suiteX X a ((a, oe) :: pn)) (b0 :: suite) (ts a cls d)) :
    PS X (.Try body [.ExceptHandler (some (.Tuple [.Name x1 p1, .Name x2 p2] kk tp)) none (b0 :: suite) pos'] [] [] pos) (fun D σ H => tb (wTup2 X.K c1 c2 ts D) D σ H) := by
  refine ⟨fun pins s σ H D I told => wpAny_Try_except ?_⟩
  have xok := I.ok
  have frames : X.A.frames = some (X.env :: X.outer) := by rw [xok.frames, onTop]
  refine wpAny_mono ((inBody (wTup2 X.K c1 c2 ts D) (X.pn ++ pins) _ (fun u s' air => ?_) PassesOwn.looking).run [] s σ H D (I.toTry _) told) (fun f s1 ended => ?_) (fun e s1 z => z)
  · obtain ⟨a, B, sI, pins', σ', H', cls, d, rfl, J', ground, ups, sky, na, os, ag, hits, q⟩ := air
    have J : Inv X pins σ' H' sI := J'.ofTry xok
    have sky' : Sky B (X.env :: X.outer) a (L2N.Zn cls d) X.env.locals s'.heap := onTop ▸ sky
    show wpAny (model X.prog X.w) X.A (noteFrame (.ref a) X.env) _ _ _
    refine L2N.Sky.land L2N.Zn.steady frames framed sky' fun h3 fl3 up3 => ?_
    have J3 : Inv X pins σ' H' { s' with heap := h3 } := J.landed ground fl3.1 (ups.trans up3) os ag
    obtain ⟨oe3, vs3, he3, hz3, hd3⟩ := fl3.there
    have apart : a ∉ frs (X.env :: X.outer) := fun hm => by
      obtain ⟨_, o', e', plain⟩ := fl3.2.2.1.mem hm
      rw [he3] at e'
      cases e'
      exact plain _ hd3
    have apartL : a ≠ X.env.locals := fun z => apart (List.mem_filterMap.mpr ⟨X.env, List.mem_cons_self, by rw [framed, z]⟩)
    have apartF : a ∉ X.fs := fun hm => by
      obtain ⟨e, he, r⟩ := List.mem_filterMap.mp hm
      exact apart (List.mem_filterMap.mpr ⟨e, List.mem_cons_of_mem _ he, r⟩)
    have S3 := J3.suite he3 hd3 na apartL apartF
    refine wpAny_handleBy_cons (codeAny_handlers_test ?_) (by intro q; cases q)
    have kp : ∀ b o, h3.get? b = some o → (h3.push { cls := .type "tuple", data := .seq [c1, c2].toArray }).get? b = some o := fun _ _ z => Heap.get?_push_of_some _ z
    have fl4 := flying_on fl3 kp
    have isOf : PySem.W.Looks (model X.prog X.w) (h3.push { cls := .type "tuple", data := .seq [c1, c2].toArray }) (typeOf (.ref a)) cls := fun A Q E s k q => wpAny_typeOf_ref (k _ _ (kp _ _ he3)) (by rw [hz3.1]; exact q)
    have hit := PySem.W.exm_tup2 (M := model X.prog X.w) (J3.kIn.keeps kp) isOf (Heap.get?_push_size h3 rfl) hits
    have m1 : Names (X.suite a ((a, oe3) :: (X.pn ++ pins))) x1 c1 := n1
    have m2 : Names (X.suite a ((a, oe3) :: (X.pn ++ pins))) x2 c2 := n2
    show wpAny (model X.prog X.w) (X.A.mark (some (.ref a))) _ _ _ _
    refine wpAny_Tuple (wpAny_items_cons (name_at m1 S3 (wpAny_items_cons (name_at m2 S3 (wpAny_items_nil ⟨by size_fits, hit.here ?_⟩)))))
    refine codeAny_handlers_suite (HandSPX.lands_againZ fl4 fun h5 fl5 up5 => ?_)
    have upK : h3.UpToSlots (h3.push { cls := .type "tuple", data := .seq [c1, c2].toArray }) := Heap.UpToSlots.of_keeps kp
    have J5 : Inv X pins σ' H' { s' with heap := h5 } := J.landed ground fl5.1 (((ups.trans up3).trans upK).trans up5) os ag
    obtain ⟨oe5, vs5, he5, hz5, hd5⟩ := fl5.there
    have S5 := J5.suite he5 hd5 na apartL apartF
    have leaves : L2.Takes (suiteX X a ((a, oe5) :: (X.pn ++ pins))) Wout := fun u2 s2 gone => by
      obtain ⟨a2, B2, sJ, pn2, σ2, H2, cls2, d2, e2, J2, more⟩ := gone
      exact lets u2 s2 ⟨a2, B2, sJ, pins, σ2, H2, cls2, d2, e2, unsuiteX J2 xok, more⟩
    have warm : HotC (suiteX X a ((a, oe5) :: (X.pn ++ pins))) := ⟨_, ⟨rfl, _, hd5, hz5.2.2 _ hd5⟩, List.mem_cons_self⟩
    refine wpAny_mono ((inSuite a oe5 cls d (X.pn ++ pins) hz5 ⟨_, hd5⟩ leaves warm).run [] _ _ H' _ (suiteX_of S5) (q a na)) (fun f s7 ended => ?_) (fun e7 s7 z => out (some (.ref a)) e7 s7 z)
    match f, ended with
    | .next, ⟨_, _, S7, q7⟩ => exact ⟨_, _, unsuiteX S7 xok, q7⟩
    | .brk, ⟨_, _, S7, q7⟩ => exact ⟨_, _, unsuiteX S7 xok, q7⟩
    | .cont, ⟨_, _, S7, q7⟩ => exact ⟨_, _, unsuiteX S7 xok, q7⟩
    | .ret u, ⟨_, _, _, S7, r7, q7⟩ => exact ⟨_, _, _, unsuiteX S7 xok, r7, q7⟩
  · match f, ended with
    | .next, ⟨_, _, J', r⟩ => exact wpAny_execs_nil ⟨_, _, J'.ofTry xok, r⟩
    | .brk, ⟨_, _, J', r⟩ => exact ⟨_, _, J'.ofTry xok, r⟩
    | .cont, ⟨_, _, J', r⟩ => exact ⟨_, _, J'.ofTry xok, r⟩
    | .ret u, ⟨_, _, _, J', v, r⟩ => exact ⟨_, _, _, J'.ofTry xok, v, r⟩
end
section
variable {P : Program} {w : World} {K : PySem.W.Frag} {mg : Str → Option Value} {base : Heap}
/-- the rule for a def that may raise exceptions whose context is None -/
theorem okXN {x qual : Str} {st : Stmt} {f : Addr} {fd : FuncData} {N ps : List Str} {k : Nat} {sp : Sp} (F : Fun K x qual st f fd) (S : FnScope N ps (defScope st)) (many : ∀ vs H Q E, sp vs H Q E → vs.length = ps.length)
    (goes : ∀ (cdv : Value) (A : Around) (out : List Env) (s : Shared) (H : Hp) (vs : List V) (Q : VK) (E : XK), Room k (A.deeper (envOfC qual (defScope st) s.heap.objs.size f cdv)) → sp vs H Q E →
      ∃ t, PSs (cxOf (L2N.CX P w) P w K mg base N qual (defScope st) f cdv A out s H E) (defBody st) t ∧ t { nx := fun _ H' => Q .non H', rt := Q } (L2.start N vs) H) : FnOk P w K mg base (L2N.CX P w) (k + 1) f fd ps sp :=
  match fd, F.ex with
  | _, ⟨_, _, _, _, _, _, cdv, _, _, rfl, there, isCode⟩ => fn_of there isCode S many fun A out s H vs Q E room told => goes cdv A out s H vs Q E room told
end
/-! a class called, whatever it lets out asked at one state -/
section
variable {X : Cx} {CX : CXT} {k : Nat} {f C : Addr} {fd : FuncData} {ps : List Str} {sp : Sp} {E : XK}
theorem run_makeAt {pins : List (Addr × Obj)} {σ : L2.St} {H : Hp} {s : Shared} {Q : VK} {us : List Value} {vs : List V} (M : Mk X.K C f) (F : FnOk X.prog X.w X.K X.mg X.base CX k f fd ps sp) (room : Room (k + 1) X.A) (binds : Binds X.K fd ps [])
    (out : PassesAt CX X σ E) (I : Inv X pins σ H s) (r : Vals vs us)
    (asked : ∀ x dx, H x = none → H dx = none → dx ≠ x → sp (.ref x :: vs) (upd (upd H dx (.own x)) x (.ins C dx [])) (fun v H2 => v = .non ∧ Q (.ref x) H2) E) :
    wpAny (model X.prog X.w) X.A (call (.ref C) us) (EP X pins σ Q) X.xe s := by
  generalize en : s.heap.objs.size = n at *
  have told := asked (n + 1) n (I.hok.fresh (by omega)) (I.hok.fresh (by omega)) (Nat.ne_of_lt (Nat.lt_succ_self n))
  have J := Inv.made (C := C) I
  rw [en] at J
  have both : Vals (V.ref (n + 1) :: vs) (Value.ref (n + 1) :: us) := .cons rfl r
  have bound := binds _ (Value.ref (n + 1) :: us) J.kIn (by rw [List.append_nil, ← Paired.length both]; exact F.len _ _ _ _ told)
  rw [List.append_nil] at bound
  refine wpAny_call (make_map (f := f) I.kIn M.makes M.init (beq_iff_eq.mp M.fn) ?_)
  rw [en]
  refine codeAny_mono (F.run _ X.stack _ _ ⟨Value.ref (n + 1) :: us, []⟩ _ _ _ E (room.make C us []) (J.env0.make C us []) bound both told) fun res s' fin => ?_
  match res, fin with
  | .error e, fin => exact out pins _ _ e s' J fin
  | .ok .next, fin => exact False.elim fin
  | .ok .brk, fin => exact False.elim fin
  | .ok .cont, fin => exact False.elim fin
  | .ok (.ret u), fin =>
    obtain ⟨v, H', J3, rv, ev, q3⟩ := J.after fin
    subst ev
    exact ⟨rv, V.ref (n + 1), H', J3, rfl, q3⟩
end
end Lamp
set_option Elab.async false
set_option linter.all false
set_option maxRecDepth 100000
set_option maxHeartbeats 1000000
namespace Lamp
open PySem PySem.Spec PyProof.Rows L2
/-! len, str, repr, bool of an instance by its own methods -/
/-- the class at C has m as a def at f that keeps sp -/
structure OwnM (P : Program) (w : World) (K : PySem.W.Frag) (mg : Str → Option Value) (base : Heap) (C : Addr) (m : Str) (sp : Sp) (k : Nat) : Prop where
  ex : ∃ (f : Addr) (fd : FuncData), PySem.W.findIn K (.ref C) m = some (some (.ref f)) ∧ PySem.W.isFn K (.ref f) = true ∧ FnOk P w K mg base CX0 k f fd ["self"] sp ∧ Binds K fd ["self"] []
section
variable {X : Cx} {pins : List (Addr × Obj)} {σ : L2.St} {H : Hp} {s : Shared} {Q : VK} {a f : Addr} {k : Nat} {sp : Sp} {fd : FuncData} {A' : Around}
theorem run_self (F : FnOk X.prog X.w X.K X.mg X.base CX0 k f fd ["self"] sp) (hr : Room k A') (hf : A'.frames = X.A.frames) (hb : Binds X.K fd ["self"] []) (I : Inv X pins σ H s) (h : sp [.ref a] H Q E0) :
    wpAny (model X.prog X.w) A' (call (.ref f) [.ref a]) (EP X pins σ Q) X.xe s := by
  have e0 := I.env0
  have e1 : Env0 X.prog X.w X.K X.mg X.base A' X.stack s H := ⟨hf.trans e0.frames, e0.mod, e0.bs, e0.bsz, e0.funs, e0.frf, e0.hok, e0.bare⟩
  have bb := hb s [.ref a] I.kIn rfl
  refine wpAny_call (codeAny_mono (F.run A' X.stack s H ⟨[.ref a], []⟩ [.ref a] [.ref a] Q E0 hr e1 bb (.cons (show RelV (V.ref a) (Value.ref a) from rfl) .nil) h) fun res s' told => ?_)
  match res, told with
  | .error _, told => exact False.elim told
  | .ok (.ret u), told => exact I.after told
  | .ok .next, told => exact False.elim told
  | .ok .brk, told => exact False.elim told
  | .ok .cont, told => exact False.elim told
theorem ins_inst {C dx : Addr} {fs : List (Str × V)} (I : Inv X pins σ H s) (h : H a = some (.ins C dx fs)) : ∃ od, PySem.W.InstAt s.heap a (PySem.W.instObj C dx) C (some od) := by
  obtain ⟨mA, O, _⟩ := ins_get I.hok h
  obtain ⟨od, J, _⟩ := O.look
  exact ⟨od, J⟩
end
section
variable {X : Cx} {C : Addr} {sp : Sp} {k : Nat}
/-- the reading of such a call: what the method hands back, as ok says, is the answer -/
def rOwn (C : Addr) (sp : Sp) (ok : V → Prop) : List V → Hp → VK → Prop := fun xs H Q => ∃ (a dx : Addr) (fs : List (Str × V)), xs = [.ref a] ∧ H a = some (.ins C dx fs) ∧ sp [.ref a] H (fun v H' => ok v ∧ Q v H') E0
def okLen (v : V) : Prop := ∃ n : Int, v = .int n ∧ 0 ≤ n ∧ n < 2 ^ 63
def okStr (v : V) : Prop := ∃ x : Str, v = .str x
def okBool (v : V) : Prop := ∃ b : Bool, v = .bl b
theorem call_lenO (Z : OwnM X.prog X.w X.K X.mg X.base C "__len__" sp k) (hr : Room (k + 1) X.A) : CallR X (.builtin "len") (rOwn C sp okLen) := by
  intro pins s σ H xs us Q I r h
  obtain ⟨a, dx, fs, rfl, ha, hs⟩ := h
  obtain ⟨f, fd, h1, h2, F, b⟩ := Z.ex
  have e := Vals.ref1 r
  subst e
  obtain ⟨od, J⟩ := ins_inst I ha
  obtain ⟨m, fr⟩ := I.fr
  refine PySem.W.len_K fr I.ok.mod.kin J h1 h2 (wpAny_mono (run_self F hr.in1 rfl b I hs) (fun u s' told => ?_) fun _ _ z => z)
  obtain ⟨v, H1, I1, rv, ⟨n, ev, n0, n1⟩, q⟩ := told
  subst ev
  obtain ⟨t, eu⟩ := rv
  subst eu
  exact ⟨⟨n0, n1⟩, ⟨.int n, H1, I1.tok _, ⟨_, rfl⟩, q⟩⟩
theorem call_reprO (Z : OwnM X.prog X.w X.K X.mg X.base C "__repr__" sp k) (hr : Room (k + 1) X.A) : CallR X (.builtin "repr") (rOwn C sp okStr) := by
  intro pins s σ H xs us Q I r h
  obtain ⟨a, dx, fs, rfl, ha, hs⟩ := h
  obtain ⟨f, fd, h1, h2, F, b⟩ := Z.ex
  have e := Vals.ref1 r
  subst e
  obtain ⟨od, J⟩ := ins_inst I ha
  obtain ⟨m, fr⟩ := I.fr
  refine PySem.W.repr_K hr.in1.units0 fr I.ok.mod.kin J h1 h2 (wpAny_mono (run_self F hr.in1 rfl b I hs) (fun u s' told => ?_) fun _ _ z => z)
  obtain ⟨v, H1, I1, rv, ⟨x, ev⟩, q⟩ := told
  subst ev
  obtain ⟨t, eu⟩ := rv
  subst eu
  exact ⟨.str x, H1, I1, ⟨_, rfl⟩, q⟩
theorem call_strO (Z : OwnM X.prog X.w X.K X.mg X.base C "__str__" sp k) (hr : Room (k + 2) X.A) : CallR X (.type "str") (rOwn C sp okStr) := by
  intro pins s σ H xs us Q I r h
  obtain ⟨a, dx, fs, rfl, ha, hs⟩ := h
  obtain ⟨f, fd, h1, h2, F, b⟩ := Z.ex
  have e := Vals.ref1 r
  subst e
  obtain ⟨od, J⟩ := ins_inst I ha
  refine PySem.W.kso_call hr.in1.in1.units0 I.kIn J h1 h2 (wpAny_mono (run_self F hr.in1.in1 rfl b I hs) (fun u s' told => ?_) fun _ _ z => z)
  obtain ⟨v, H1, I1, rv, ⟨x, ev⟩, q⟩ := told
  subst ev
  obtain ⟨t, eu⟩ := rv
  subst eu
  exact ⟨.str x, H1, I1, ⟨_, rfl⟩, q⟩
theorem call_boolO (Z : OwnM X.prog X.w X.K X.mg X.base C "__bool__" sp k) (hr : Room (k + 2) X.A) : CallR X (.type "bool") (rOwn C sp okBool) := by
  intro pins s σ H xs us Q I r h
  obtain ⟨a, dx, fs, rfl, ha, hs⟩ := h
  obtain ⟨f, fd, h1, h2, F, b⟩ := Z.ex
  have e := Vals.ref1 r
  subst e
  obtain ⟨od, J⟩ := ins_inst I ha
  obtain ⟨m, fr⟩ := I.fr
  refine callType_codes (T := "bool") (Bi := Builtin.«object.__init__») (Q₁ := fun r s₁ => ∃ y, r = .bool y ∧ EP X pins σ Q r s₁) PySem.F.called_bool (PySem.F.typeCall_bool_1 _) PySem.F.entry_object_init ?_ ?_
  · refine codeAny_of_tree ?_
    show wpAny _ X.A.in1.in1 (do checkBuiltinCall "bool.__new__" ⟨[.type "bool", .ref a], []⟩; again (.builtin "bool.__new__" ⟨[.type "bool", .ref a], []⟩)) _ _ s
    refine PySem.wpAny_bind (wpAny_of_eq (PySem.F.newCall_bool_1 _) (PySem.wpAny_pure ⟨plainId_quiet (by decide +kernel) _, codeAny_builtin PySem.F.entry_bool_new ?_⟩))
    rw [Around.under_plainId (by decide +kernel) _]
    refine PySem.wpAny_bind (PySem.wpAny_pure ?_)
    refine PySem.wpAny_bind (wpAny_of_eq PySem.F.conv_sub_bool ?_)
    refine PySem.wpAny_bind (PySem.wpAny_pure ?_)
    refine PySem.wpAny_bind (PySem.W.truthy_K fr I.ok.mod.kin J h1 h2 (wpAny_mono (run_self F hr.in1.in1 rfl b I hs) (fun u s' told => ?_) fun _ _ z => z))
    obtain ⟨v, H1, I1, rv, ⟨x, ev⟩, q⟩ := told
    subst ev
    have eu : u = Value.bool x := rv
    subst eu
    exact PySem.wpAny_pure ⟨x, rfl, .bl x, H1, I1, rfl, q⟩
  · rintro obj s₁ ⟨y, rfl, hq⟩
    exact ⟨rfl, PySem.F.args_object_init_2 _ _, object_init_meets PySem.F.called_bool.init.lookup PySem.F.called_bool.made (by decide) X.prog X.w X.A.in1 _ s₁ ⟨rfl, rfl, hq⟩⟩
end
end Lamp
set_option Elab.async false
set_option linter.all false
set_option maxRecDepth 100000
set_option maxHeartbeats 1000000
namespace Lamp
open PySem PySem.Spec PyProof.Rows L2 LamX
abbrev sRound : Stmt := top 22
abbrev sInit : Stmt := inClass sRound 0
/-! what a making comes to -/
inductive Due
  | lv
  | la (r : Option Nat)
  | nu
  | ok
/-- .. for levels, lamps and an end of any kind -/
def DueOf (tl ta te : T) : Due → Prop
  | .lv => levelsB tl = false
  | .la none => levelsB tl = true ∧ isT ta = false
  | .la (some i) => levelsB tl = true ∧ ∃ p ts, tl = .int p ∧ ta = .tup ts ∧ Judge p ts (some i)
  | .nu => levelsB tl = true ∧ ∃ p ts, tl = .int p ∧ ta = .tup ts ∧ Judge p ts none ∧ whole te = false
  | .ok => levelsB tl = true ∧ ∃ p ts, tl = .int p ∧ ta = .tup ts ∧ Judge p ts none ∧ whole te = true
theorem DueOf.one {tl ta te : T} {d d' : Due} (h : DueOf tl ta te d) (h' : DueOf tl ta te d') : d = d' := by
  have lvn : levelsB tl = false → levelsB tl = true → False := fun a b => by rw [a] at b; cases b
  have tn : isT ta = false → ∀ ts, ta = .tup ts → False := fun a ts b => by rw [b] at a; cases a
  have jn : ∀ {p p' ts ts'} {r r' : Option Nat}, tl = T.int p → ta = T.tup ts → tl = T.int p' → ta = T.tup ts' → Judge p ts r → Judge p' ts' r' → r = r' := fun a b a' b' j j' => by
    rw [a] at a'
    rw [b] at b'
    cases a'
    cases b'
    exact j.one j'
  have wn : whole te = false → whole te = true → False := fun a b => by rw [a] at b; cases b
  match d, d', h, h' with
  | .lv, .lv, _, _ => rfl
  | .lv, .la none, a, b => exact (lvn a b.1).elim
  | .lv, .la (some _), a, b => exact (lvn a b.1).elim
  | .lv, .nu, a, b => exact (lvn a b.1).elim
  | .lv, .ok, a, b => exact (lvn a b.1).elim
  | .la none, .lv, b, a => exact (lvn a b.1).elim
  | .la (some _), .lv, b, a => exact (lvn a b.1).elim
  | .nu, .lv, b, a => exact (lvn a b.1).elim
  | .ok, .lv, b, a => exact (lvn a b.1).elim
  | .la none, .la none, _, _ => rfl
  | .la none, .la (some _), a, ⟨_, _, ts, _, e, _⟩ => exact (tn a.2 ts e).elim
  | .la none, .nu, a, ⟨_, _, ts, _, e, _⟩ => exact (tn a.2 ts e).elim
  | .la none, .ok, a, ⟨_, _, ts, _, e, _⟩ => exact (tn a.2 ts e).elim
  | .la (some _), .la none, ⟨_, _, ts, _, e, _⟩, a => exact (tn a.2 ts e).elim
  | .nu, .la none, ⟨_, _, ts, _, e, _⟩, a => exact (tn a.2 ts e).elim
  | .ok, .la none, ⟨_, _, ts, _, e, _⟩, a => exact (tn a.2 ts e).elim
  | .la (some i), .la (some j), ⟨_, _, _, a1, a2, a3⟩, ⟨_, _, _, b1, b2, b3⟩ => rw [jn a1 a2 b1 b2 a3 b3]
  | .la (some i), .nu, ⟨_, _, _, a1, a2, a3⟩, ⟨_, _, _, b1, b2, b3, _⟩ => cases jn a1 a2 b1 b2 a3 b3
  | .la (some i), .ok, ⟨_, _, _, a1, a2, a3⟩, ⟨_, _, _, b1, b2, b3, _⟩ => cases jn a1 a2 b1 b2 a3 b3
  | .nu, .la (some i), ⟨_, _, _, b1, b2, b3, _⟩, ⟨_, _, _, a1, a2, a3⟩ => cases jn a1 a2 b1 b2 a3 b3
  | .ok, .la (some i), ⟨_, _, _, b1, b2, b3, _⟩, ⟨_, _, _, a1, a2, a3⟩ => cases jn a1 a2 b1 b2 a3 b3
  | .nu, .nu, _, _ => rfl
  | .ok, .ok, _, _ => rfl
  | .nu, .ok, ⟨_, _, _, _, _, _, a⟩, ⟨_, _, _, _, _, _, b⟩ => exact (wn a b).elim
  | .ok, .nu, ⟨_, _, _, _, _, _, b⟩, ⟨_, _, _, _, _, _, a⟩ => exact (wn a b).elim
theorem level_int {tl : T} (h : levelsB tl = true) : ∃ p, tl = .int p := by
  cases tl <;> first | exact ⟨_, rfl⟩ | cases h
/-! rounds as objects -/
def fldX (lv la en : V) : List (Str × V) := [("_levels", lv), ("_lamps", la), ("_end", en)]
/-- at a: the round with these parts -/
def RAt (C : Addr) (H : Hp) (a : Addr) (lv la en : V) : Prop := ∃ dx, H a = some (.ins C dx (fldX lv la en))
theorem RAt.same {C : Addr} {H H' : Hp} {a : Addr} {lv la en : V} (h : RAt C H a lv la en) (e : Same H H') : RAt C H' a lv la en := by
  obtain ⟨dx, h⟩ := h
  exact ⟨dx, e _ _ h⟩
/-- what of the text the class must have -/
structure RCls (K : PySem.W.Frag) (C : Addr) : Prop where
  cl : Cls K C
  n1 : NoAttr K C "_levels"
  n2 : NoAttr K C "_lamps"
  n3 : NoAttr K C "_end"
/-- the ways that it ends: an error with what it holds, or what follows -/
def Fin (xL xA xN : Addr) (lv en : V) (H : Hp) (E : XK) (ok : Prop) : Due → Prop
  | .lv => ∀ d H', Same H H' → H' d = some (exd d [("given", lv)]) → E (.ref xL) (some d) H'
  | .la r => ∀ d H', Same H H' → H' d = some (exd d [("index", rV r)]) → E (.ref xA) (some d) H'
  | .nu => ∀ d H', Same H H' → H' d = some (exd d [("given", en)]) → E (.ref xN) (some d) H'
  | .ok => ok
def spInitX (K : PySem.W.Frag) (C xL xA xN : Addr) : Sp := fun vs H Q E => ∃ (a dx : Addr) (lv la en : V) (tl ta te : T), vs = [.ref a, lv, la, en] ∧ H a = some (.ins C dx []) ∧ An K H lv tl ∧ An K H la ta ∧ An K H en te ∧
  ∀ d, DueOf tl ta te d → Fin xL xA xN lv en H E (∀ H', But a H H' → H' a = some (.ins C dx (fldX lv la en)) → Q .non H') d
theorem raise_run {X : Cx} {C : Addr} {f : Str} {te : TE} {σ : L2.St} {H : Hp} {y : V} {Q : XK} (h : Val te σ H y) (hs : ∀ a, H a = none → Fr0 X.H_0 a) (rs : Raises X (.ref C)) (k : ∀ dx H', Same H H' → H' dx = some (exd dx [(f, y)]) → Q (.ref C) (some dx) H') :
    tMkE C f te σ H fun x H1 => ∃ (a C' : Addr) (d : Option Addr), x = .ref a ∧ H1 a = some (exo a C' d) ∧ Fr0 X.H_0 a ∧ Raises X (.ref C') ∧ Q (.ref C') d (delH H1 a) := by
  refine h _ fun a dx na nd ne => ⟨a, C, some dx, rfl, upd_same, hs a na, rs, k dx _ (fun b o e => ?_) ?_⟩
  · rw [delH_ne (ne_of_none e na), upd_ne (ne_of_none e na), upd_ne (ne_of_none e nd), upd_ne (ne_of_none e na)]
    exact e
  · rw [delH_ne ne, upd_ne ne, upd_same]
theorem cut_to (xs : List V) (k : Nat) : cutV xs none (some (k : Int)) = xs.take k := by
  unfold cutV
  rw [HT.sIx_none, HT.sIx_nat]
  show (xs.drop 0).take (min k xs.length - 0) = xs.take k
  rw [List.drop_zero, Nat.sub_zero, List.take_eq_take_min]
  simp
section
variable {P : Program} {w : World} {K : PySem.W.Frag} {mg : Str → Option Value} {base : Heap} {C xL xA xN : Addr}
theorem scInit : FnScope ["self", "levels", "lamps", "end", "index"] ["self", "levels", "lamps", "end"] (defScope sInit) := ⟨rfl, rfl, rfl, by decide +kernel, rfl, by decide +kernel, by decide +kernel⟩
theorem xc_raises {X : Cx} {x f : Str} (Z : XC X.prog X.w X.K X.mg C x f) (ty : PySem.W.typeIn X.K (.ref C) = some (.type "type")) : Raises X (.ref C) := by
  obtain ⟨B, n, i, t, T⟩ := Z.T
  exact raises_ec T ty
theorem ok_initX {f : Addr} {fd : FuncData} {t1 : Tok} (F : Fun K "__init__" "Round.__init__" sInit f fd) (R : RCls K C) (Ii : Dr P w K mg base (spIsInt K) "is_integer" ["value"] 1) (Il : Dr P w K mg base (spIsLevels K) "is_levels" ["value"] 2)
    (Wr : Dr P w K mg base (spWrong K) "wrong_lamp" ["levels", "lamps"] 3) (ZL : XC P w K mg xL "InvalidLevels" "given") (ZA : XC P w K mg xA "InvalidLamps" "index") (ZN : XC P w K mg xN "InvalidNumber" "given")
    (yL : PySem.W.typeIn K (.ref xL) = some (.type "type")) (yA : PySem.W.typeIn K (.ref xA) = some (.type "type")) (yN : PySem.W.typeIn K (.ref xN) = some (.type "type"))
    (mML : mg "MOST_LAMPS" = some (.int 400 t1)) (mis : mg "isinstance" = none) (mt : mg "tuple" = none) (ml : mg "len" = none) :
    FnOk P w K mg base (L2N.CX P w) 4 f fd ["self", "levels", "lamps", "end"] (spInitX K C xL xA xN) := by
  refine okXN F scInit (fun vs H Q E h => ?_) (fun cdv A outer s H vs Q E hr h => ?_)
  · obtain ⟨a, dx, lv, la, en, _, _, _, rfl, _⟩ := h
    rfl
  · obtain ⟨a, dx, lv, la, en, tl, ta, te, rfl, ha, hl, hA, hn, q⟩ := h
    have hr2 : Room 2 _ := hr.mono (by decide)
    refine ⟨_, pss_cons (ps_if (pt_not (pt_val (pe_dr Il (by decide) hr rfl (pa_cons (pv 1) pa_nil)))) (pss_one (L2N.ps_raise rfl (L2N.takes_of rfl rfl rfl rfl) (pmk_xoN rfl (pe_xc ZL hr2 rfl (pv 1))))) pss_nil)
      (pss_cons (ps_if (pt_not (pt_val (pe_callB call_isi (by rfl) mis (by decide +kernel) (pa_cons (pv 2) (pa_cons (pe_bltn (v := .ty "tuple") (by rfl) mt (by decide +kernel) rfl) pa_nil))))) (pss_one (L2N.ps_raise rfl (L2N.takes_of rfl rfl rfl rfl) (pmk_xoN rfl (pe_xc ZA hr2 rfl pe_non)))) pss_nil)
      (pss_cons (ps_set (i := 4) scInit.nd rfl (.inl rfl) (pe_dr Wr (Nat.le_refl _) hr rfl (pa_cons (pv 1) (pa_cons (pe_slice (r := rSlA K) sl_tupA (pv 2) po_none (po_some (pe_glob (v := .int 400) rfl mML ⟨_, rfl⟩))) pa_nil))))
      (pss_cons (ps_if (pt_cmpR op_notN1 (pv 4) pe_non (nomark _)) (pss_one (L2N.ps_raise rfl (L2N.takes_of rfl rfl rfl rfl) (pmk_xoN rfl (pe_xc ZA hr2 rfl (pv 4))))) pss_nil)
      (pss_cons (ps_if (pt_cmpR op_gt (pe_callB call_len_seq (by rfl) ml PySem.boot_len (pa_cons (pv 2) pa_nil)) (pe_glob (v := .int 400) rfl mML ⟨_, rfl⟩) (nomark _)) (pss_one (L2N.ps_raise rfl (L2N.takes_of rfl rfl rfl rfl) (pmk_xoN rfl (pe_xc ZA hr2 rfl (pe_glob (v := .int 400) rfl mML ⟨_, rfl⟩))))) pss_nil)
      (pss_cons (ps_if (pt_not (pt_val (pe_dr Ii (by decide) hr rfl (pa_cons (pv 3) pa_nil)))) (pss_one (L2N.ps_raise rfl (L2N.takes_of rfl rfl rfl rfl) (pmk_xoN rfl (pe_xc ZN hr2 rfl (pv 3))))) pss_nil)
      (pss_cons (ps_fld (pv 0) (pv 1) (by rfl)) (pss_cons (ps_fld (pv 0) (pv 2) (by rfl)) (pss_one (ps_fld (pv 0) (pv 3) (by rfl)))))))))), ?_⟩
    cases el : levelsB tl with
    | false =>
      refine sq_yes (ans_not (b := false) (ans_val fun Q q => ⟨_, rfl, lv, tl, rfl, hl, by rw [el]; exact q⟩)) ?_
      exact raise_run (val_var rfl) (fun a na => fr0_none na) (xc_raises ZL yL) fun d H' s1 hd => q .lv el d H' s1 hd
    | true =>
      refine sq_no (ans_not (b := true) (ans_val fun Q q => ⟨_, rfl, lv, tl, rfl, hl, by rw [el]; exact q⟩)) ?_
      cases et : isT ta with
      | false =>
        refine sq_yes (ans_not (b := false) (ans_val (by have z := v_tuple (K := K) (te := tVar 2) (σ := [some (V.ref a), some lv, some la, some en, none]) (val_var rfl) hA; rw [et] at z; exact z))) ?_
        exact raise_run val_c (fun a na => fr0_none na) (xc_raises ZA yA) fun d H' s1 hd => q (.la none) ⟨el, et⟩ d H' s1 hd
      | true =>
        refine sq_no (ans_not (b := true) (ans_val (by have z := v_tuple (K := K) (te := tVar 2) (σ := [some (V.ref a), some lv, some la, some en, none]) (val_var rfl) hA; rw [et] at z; exact z))) ?_
        obtain ⟨p, rfl⟩ := level_int el
        obtain ⟨ts, rfl⟩ : ∃ ts, ta = .tup ts := by cases ta <;> first | exact ⟨_, rfl⟩ | cases et
        cases hl
        cases hA with
        | @tup t xs _ ht hall =>
          have hlen := anAll_len hall
          refine ⟨_, rfl, _, rfl, 400, rfl, sl_anyT ht fun b H1 s1 hb => ?_⟩
          have hb : SqT K H1 b (cutV xs none (some ((400 : Nat) : Int))) := hb
          rw [cut_to] at hb
          refine ⟨p, b, _, _, rfl, hb, anAll_same s1 (anAll_take 400 hall), fun r H2 s2 hr2 => ?_⟩
          have s12 := s1.trans s2
          obtain ⟨j1, j2, j3⟩ := Judge.of hr2
          have fr : ∀ a, H2 a = none → Fr0 H a := fun a na => fr0_none (s12.free na)
          dsimp only [gName]
          cases r with
          | some i =>
            refine sq_yes (ans_notN (x := rV (some i)) (val_var rfl) (by rw [decide_eq_false (show ¬ (rV (some i) = V.non) from fun z => by cases z)]; rfl)) ?_
            exact raise_run (val_var rfl) fr (xc_raises ZA yA) fun d H' s3 hd => q (.la (some i)) ⟨el, p, ts, rfl, rfl, j3 i rfl⟩ d H' (s12.trans s3) hd
          | none =>
            refine sq_no (ans_notN (x := rV none) (val_var rfl) (by rw [decide_eq_true (show rV none = V.non from rfl)]; rfl)) ?_
            by_cases h4 : 400 < ts.length
            · refine sq_yes (an_gt (x := (xs.length : Nat)) (fun Q q => ⟨_, rfl, t, _, rfl, .inr (same_seqT s12 ht), q⟩) val_c (decide_eq_true (by omega))) ?_
              exact raise_run val_c fr (xc_raises ZA yA) fun d H' s3 hd => q (.la (some 400)) ⟨el, p, ts, rfl, rfl, j1 rfl h4⟩ d H' (s12.trans s3) hd
            · refine sq_no (an_gt (x := (xs.length : Nat)) (fun Q q => ⟨_, rfl, t, _, rfl, .inr (same_seqT s12 ht), q⟩) val_c (decide_eq_false (by omega))) ?_
              cases ew : whole te with
              | false =>
                refine sq_yes (ans_not (b := false) (ans_val fun Q q => ⟨_, rfl, en, te, rfl, an_same s12 hn, by rw [ew]; exact q⟩)) ?_
                exact raise_run (val_var rfl) fr (xc_raises ZN yN) fun d H' s3 hd => q .nu ⟨el, p, ts, rfl, rfl, j2 rfl h4, ew⟩ d H' (s12.trans s3) hd
              | true =>
                refine sq_no (ans_not (b := true) (ans_val fun Q q => ⟨_, rfl, en, te, rfl, an_same s12 hn, by rw [ew]; exact q⟩)) ?_
                refine st_seq (st_fld (y := .int p) (val_var rfl) (val_var rfl) (s12 _ _ ha) R.cl R.n1 (by show 0 < 1000; decide) ?_)
                refine st_seq (st_fld (y := .ref t) (val_var rfl) (val_var rfl) upd_same R.cl R.n2 (by show 1 < 1000; decide) ?_)
                refine st_fld (y := en) (val_var rfl) (val_var rfl) upd_same R.cl R.n3 (by show 2 < 1000; decide) ?_
                exact q .ok ⟨el, p, ts, rfl, rfl, j2 rfl h4, ew⟩ _ (((But.of s12).trans But.at).trans (But.at.trans But.at)) upd_same
end
end Lamp
set_option Elab.async false
set_option linter.all false
set_option maxRecDepth 100000
set_option maxHeartbeats 1000000
namespace Lamp
open PySem PySem.Spec PyProof.Rows L2 LamX
abbrev sLevels : Stmt := inClass sRound 2
abbrev sLampsP : Stmt := inClass sRound 3
abbrev sEnd : Stmt := inClass sRound 4
abbrev sLen : Stmt := inClass sRound 8
abbrev sTold : Stmt := top 41
/-! making rounds, of values of any kind -/
structure MkX (P : Program) (w : World) (K : PySem.W.Frag) (mg : Str → Option Value) (base : Heap) (C xL xA xN : Addr) : Prop where
  ex : ∃ (f : Addr) (fd : FuncData), Mk K C f ∧ FnOk P w K mg base (L2N.CX P w) 4 f fd ["self", "levels", "lamps", "end"] (spInitX K C xL xA xN) ∧ Binds K fd ["self", "levels", "lamps", "end"] [] ∧
    ∀ (s : Shared) (x u1 u2 u3 : Value), BindsTo s fd ⟨[x], [("end", u1), ("lamps", u2), ("levels", u3)]⟩ [("self", x), ("levels", u3), ("lamps", u2), ("end", u1)]
def rMkX (K : PySem.W.Frag) (C xL xA xN : Addr) (lv la en : V) (H : Hp) (E : XK) (Q : VK) : Prop := ∃ tl ta te, An K H lv tl ∧ An K H la ta ∧ An K H en te ∧
  ∀ d, DueOf tl ta te d → Fin xL xA xN lv en H E (∀ a H', Same H H' → H a = none → RAt C H' a lv la en → Q (.ref a) H') d
theorem fin_same {xL xA xN : Addr} {lv en : V} {H H' : Hp} {E : XK} {p q : Prop} (s : Same H H') (pq : p → q) : ∀ {d : Due}, Fin xL xA xN lv en H E p d → Fin xL xA xN lv en H' E q d
  | .lv, h => fun d H2 s2 hd => h d H2 (s.trans s2) hd
  | .la _, h => fun d H2 s2 hd => h d H2 (s.trans s2) hd
  | .nu, h => fun d H2 s2 hd => h d H2 (s.trans s2) hd
  | .ok, h => pq h
theorem mk_init {K : PySem.W.Frag} {C xL xA xN : Addr} {lv la en : V} {H : Hp} {E : XK} {Q : VK} (h : rMkX K C xL xA xN lv la en H E Q) {x dx : Addr} (hx : H x = none) (hd : H dx = none) (hne : dx ≠ x) :
    spInitX K C xL xA xN [.ref x, lv, la, en] (upd (upd H dx (.own x)) x (.ins C dx [])) (fun v H2 => v = .non ∧ Q (.ref x) H2) E := by
  obtain ⟨tl, ta, te, h1, h2, h3, q⟩ := h
  have s1 : Same H (upd (upd H dx (.own x)) x (.ins C dx [])) := fun b o e => by rw [upd_ne (ne_of_none e hx), upd_ne (ne_of_none e hd)]; exact e
  refine ⟨x, dx, lv, la, en, tl, ta, te, rfl, upd_same, an_same s1 h1, an_same s1 h2, an_same s1 h3, fun d hd' => fin_same s1 (fun q H' bt hr => ⟨rfl, q x H' (fun b o e => ?_) hx ⟨dx, hr⟩⟩) (q d hd')⟩
  exact bt b o (ne_of_none e hx) (s1 b o e)
/-- Round(a, b, c) -/
def tMkX (K : PySem.W.Frag) (C xL xA xN : Addr) (E : XK) (ta : TA) : TE := fun σ H Q => ta σ H fun vs H1 => ∃ lv la en, vs = [lv, la, en] ∧ rMkX K C xL xA xN lv la en H1 E Q
/-- Round(end=c, lamps=b, levels=a) -/
def tMkXK (K : PySem.W.Frag) (C xL xA xN : Addr) (E : XK) (tk : TA) : TE := fun σ H Q => tk σ H fun zs H1 => ∃ lv la en, zs = [en, la, lv] ∧ rMkX K C xL xA xN lv la en H1 E Q
def gK {α : Type} : List α → List α → List α
  | [x], [u1, u2, u3] => [x, u3, u2, u1]
  | _, _ => []
theorem three {α : Type} : ∀ {l : List α}, l.length = 3 → ∃ a b c, l = [a, b, c]
  | [a, b, c], _ => ⟨a, b, c, rfl⟩
theorem gK_rel : ∀ {vs : List V} {us : List Value} {zs : List V} {ws : List Value}, Vals vs us → Vals zs ws → Vals (gK vs zs) (gK us ws)
  | _, _, _, _, .cons r .nil, .cons r1 (.cons r2 (.cons r3 .nil)) => .cons r (.cons r3 (.cons r2 (.cons r1 .nil)))
  | _, _, _, _, .nil, _ => .nil
  | _, _, _, _, .cons _ (.cons _ _), _ => .nil
  | _, _, _, _, .cons _ .nil, .nil => .nil
  | _, _, _, _, .cons _ .nil, .cons _ .nil => .nil
  | _, _, _, _, .cons _ .nil, .cons _ (.cons _ .nil) => .nil
  | _, _, _, _, .cons _ .nil, .cons _ (.cons _ (.cons _ (.cons _ _))) => .nil
section
variable {X : Cx} {C xL xA xN : Addr} {x : Str} {e : Expr} {es : List Expr} {ta tk : TA} {p pos : Pos} {kws : List Keyword} {E : XK}
theorem pe_mkX (Z : MkX X.prog X.w X.K X.mg X.base C xL xA xN) (hr : Room 5 X.A) (hg : Gl X x) (hm : X.mg x = some (.ref C)) (hx : Passes (L2N.CX X.prog X.w) X E) (ha : PA X (e :: es) ta) (hdb : (x == ("__debug__" : Str)) = false := by decide)
    (he : starEach (e :: es) X.env = (false, eval e X.env) :: starEach es X.env := by rfl) (hpl : (backTo pos (starEach es X.env)).any (·.1) = false := by rfl) : PE X (.Call (.Name x p) (e :: es) [] pos) (tMkX X.K C xL xA xN E ta) := by
  obtain ⟨f, fd, M, F, b, _⟩ := Z.ex
  refine ⟨fun pins s σ H Q I h => ?_⟩
  refine wpAny_Call_Name_kw (ld_glob I hg hm ?_ hdb)
  refine PySem.W.callWith_K (h₀ := X.base) I.ok.mod.kin M.kp (thn (ha.run pos pins s σ H _ I h) fun us s1 ⟨vs, H1, I1, r, lv, la, en, ev, q⟩ => ⟨I1.kIn, ?_⟩) he hpl
  subst ev
  exact run_make M F hr b .nil hx I1 r fun y dx hy hd hne => mk_init q hy hd hne
theorem pe_mkXK (Z : MkX X.prog X.w X.K X.mg X.base C xL xA xN) (hr : Room 5 X.A) (hg : Gl X x) (hm : X.mg x = some (.ref C)) (hx : Passes (L2N.CX X.prog X.w) X E) (hkw : PK X kws tk)
    (hall : (backToKw pos (keywordEach kws X.env)).all (·.1.isSome) = true := by rfl) (hks : (backToKw pos (keywordEach kws X.env)).filterMap (·.1) = (["end", "lamps", "levels"] : List Str) := by rfl) (hdb : (x == ("__debug__" : Str)) = false := by decide)
    (hpl : ((backTo pos (starEach [] X.env)).any (·.1) || (backToKw pos (keywordEach kws X.env)).any (·.1.isNone)) = false := by rfl) : PE X (.Call (.Name x p) [] kws pos) (tMkXK X.K C xL xA xN E tk) := by
  obtain ⟨f, fd, M, F, _, b⟩ := Z.ex
  have kb : KBn X.K fd ["self", "levels", "lamps", "end"] 1 ["end", "lamps", "levels"] gK gK := ⟨fun s us ws _ l1 l2 => by
    obtain ⟨x, rfl⟩ := List.length_eq_one_iff.mp l1
    obtain ⟨u1, u2, u3, rfl⟩ := three l2
    exact b s x u1 u2 u3, gK_rel⟩
  refine ⟨fun pins s σ H Q I h => ?_⟩
  refine wpAny_Call_Name_kw (ld_glob I hg hm ?_ hdb)
  refine PySem.W.callWith_KW0 (h₀ := X.base) I.ok.mod.kin M.kp hall ?_ hpl
  refine thn (hkw.run pos pins s σ H _ I h) fun ws s2 ⟨zs, H2, I2, rz, lv, la, en, ev, q2⟩ => ⟨I2.kIn, ?_⟩
  subst ev
  rw [hks]
  exact run_makeK (us := []) (vs := []) M F hr kb hx I2 .nil rz rfl rfl fun y dx hy hd hne => mk_init q2 hy hd hne
/-- what a lambda's body lets out -/
theorem passes_lam {A : Around} {outer : List Env} {s : Shared} {H : Hp} {scope : Scope} {f c' : Addr} : Passes (L2.CX X.prog X.w) (lamCx X A outer s H E scope f c') E :=
  passes_call (X := lamCx X A outer s H E scope f c') (takes_of rfl rfl rfl rfl) fun _ _ _ _ h => h
end
def spLv (C : Addr) : Sp := fun vs H Q _ => ∃ (a : Addr) (lv la en : V), vs = [.ref a] ∧ RAt C H a lv la en ∧ Q lv H
def spLa (C : Addr) : Sp := fun vs H Q _ => ∃ (a : Addr) (lv la en : V), vs = [.ref a] ∧ RAt C H a lv la en ∧ Q la H
def spEn (C : Addr) : Sp := fun vs H Q _ => ∃ (a : Addr) (lv la en : V), vs = [.ref a] ∧ RAt C H a lv la en ∧ Q en H
def spLn (K : PySem.W.Frag) (C : Addr) : Sp := fun vs H Q _ => ∃ (a t : Addr) (lv en : V) (xs : List V), vs = [.ref a] ∧ RAt C H a lv (.ref t) en ∧ SqT K H t xs ∧ Q (.int (xs.length : Int)) H
def spTold (C : Addr) : Sp := fun vs H Q _ => ∃ (a : Addr) (lv la en : V), vs = [.ref a] ∧ RAt C H a lv la en ∧ ∀ l H', Same H H' → H l = none → H' l = some (.lst [lv, la, en]) → Q (.ref l) H'
section
variable {P : Program} {w : World} {K : PySem.W.Frag} {mg : Str → Option Value} {base : Heap} {C : Addr}
theorem scLevels : FnScope ["self"] ["self"] (defScope sLevels) := ⟨rfl, rfl, rfl, by decide +kernel, rfl, by decide +kernel, by decide +kernel⟩
theorem scLampsP : FnScope ["self"] ["self"] (defScope sLampsP) := ⟨rfl, rfl, rfl, by decide +kernel, rfl, by decide +kernel, by decide +kernel⟩
theorem scEnd : FnScope ["self"] ["self"] (defScope sEnd) := ⟨rfl, rfl, rfl, by decide +kernel, rfl, by decide +kernel, by decide +kernel⟩
theorem scLen : FnScope ["self"] ["self"] (defScope sLen) := ⟨rfl, rfl, rfl, by decide +kernel, rfl, by decide +kernel, by decide +kernel⟩
theorem scTold : FnScope ["_law_mine"] ["_law_mine"] (defScope sTold) := ⟨rfl, rfl, rfl, by decide +kernel, rfl, by decide +kernel, by decide +kernel⟩
section
variable {σ : L2.St} {H : Hp} {a : Addr} {lv la en : V} {ta : TE}
theorem v_lv (R : RCls K C) (h : Val ta σ H (.ref a)) (hr : RAt C H a lv la en) : Val (tFld K ta "_levels") σ H lv := by
  obtain ⟨dx, hr⟩ := hr
  exact val_fld h hr R.cl R.n1 rfl
theorem v_la (R : RCls K C) (h : Val ta σ H (.ref a)) (hr : RAt C H a lv la en) : Val (tFld K ta "_lamps") σ H la := by
  obtain ⟨dx, hr⟩ := hr
  exact val_fld h hr R.cl R.n2 rfl
theorem v_en (R : RCls K C) (h : Val ta σ H (.ref a)) (hr : RAt C H a lv la en) : Val (tFld K ta "_end") σ H en := by
  obtain ⟨dx, hr⟩ := hr
  exact val_fld h hr R.cl R.n3 rfl
end
theorem ok_lv {f : Addr} {fd : FuncData} (F : Fun K "levels" "Round.levels" sLevels f fd) (R : RCls K C) : FnOk P w K mg base CX0 1 f fd ["self"] (spLv C) := by
  refine F.ok scLevels (fun vs H Q E h => ?_) (fun cdv A outer s H vs Q E hr h => ?_)
  · obtain ⟨a, lv, la, en, rfl, _⟩ := h
    rfl
  · obtain ⟨a, lv, la, en, rfl, h, q⟩ := h
    exact ⟨_, pss_one (ps_ret (pe_fld (pv 0) rfl)), st_ret (v_lv R (val_var rfl) h) q⟩
theorem ok_la {f : Addr} {fd : FuncData} (F : Fun K "lamps" "Round.lamps" sLampsP f fd) (R : RCls K C) : FnOk P w K mg base CX0 1 f fd ["self"] (spLa C) := by
  refine F.ok scLampsP (fun vs H Q E h => ?_) (fun cdv A outer s H vs Q E hr h => ?_)
  · obtain ⟨a, lv, la, en, rfl, _⟩ := h
    rfl
  · obtain ⟨a, lv, la, en, rfl, h, q⟩ := h
    exact ⟨_, pss_one (ps_ret (pe_fld (pv 0) rfl)), st_ret (v_la R (val_var rfl) h) q⟩
theorem ok_en {f : Addr} {fd : FuncData} (F : Fun K "end" "Round.end" sEnd f fd) (R : RCls K C) : FnOk P w K mg base CX0 1 f fd ["self"] (spEn C) := by
  refine F.ok scEnd (fun vs H Q E h => ?_) (fun cdv A outer s H vs Q E hr h => ?_)
  · obtain ⟨a, lv, la, en, rfl, _⟩ := h
    rfl
  · obtain ⟨a, lv, la, en, rfl, h, q⟩ := h
    exact ⟨_, pss_one (ps_ret (pe_fld (pv 0) rfl)), st_ret (v_en R (val_var rfl) h) q⟩
theorem ok_ln {f : Addr} {fd : FuncData} (F : Fun K "__len__" "Round.__len__" sLen f fd) (R : RCls K C) (ml : mg "len" = none) : FnOk P w K mg base CX0 1 f fd ["self"] (spLn K C) := by
  refine F.ok scLen (fun vs H Q E h => ?_) (fun cdv A outer s H vs Q E hr h => ?_)
  · obtain ⟨a, t, lv, en, xs, rfl, _⟩ := h
    rfl
  · obtain ⟨a, t, lv, en, xs, rfl, h, ht, q⟩ := h
    exact ⟨_, pss_one (ps_ret (pe_callB call_len_seq (by rfl) ml PySem.boot_len (pa_cons (pe_fld (pv 0) rfl) pa_nil))), st_ret (fun Q q => v_la R (val_var rfl) h _ ⟨t, _, rfl, .inr ht, q⟩) q⟩
/-- a property of rounds -/
structure PrR (P : Program) (w : World) (K : PySem.W.Frag) (mg : Str → Option Value) (base : Heap) (C : Addr) (x : Str) (sp : Sp) (k : Nat) : Prop where
  ex : ∃ (p g : Addr) (fd : FuncData), PropOf K C x p g ∧ FnOk P w K mg base CX0 k g fd ["self"] sp ∧ Binds K fd ["self"] []
theorem pe_prR {X : Cx} {k j : Nat} {x : Str} {sp : Sp} {e : Expr} {ta : TE} {pos : Pos} (Z : PrR X.prog X.w X.K X.mg X.base C x sp k) (R : RCls X.K C) (hk : k + 1 ≤ j) (hr : Room j X.A) (he : PE X e ta) (hab : attributeBase e x X.env (eval e X.env) = eval e X.env := by rfl) :
    PE X (.Attribute e x pos) (tProp C sp [] E0 ta) := by
  obtain ⟨p, g, fd, hp, F, b⟩ := Z.ex
  exact pe_prop he R.cl hp F (hr.mono hk) b .nil pass0 hab
theorem ok_told {f : Addr} {fd : FuncData} (F : Fun K "_law_told" "_law_told" sTold f fd) (R : RCls K C) (Lv : PrR P w K mg base C "levels" (spLv C) 1) (La : PrR P w K mg base C "lamps" (spLa C) 1) (En : PrR P w K mg base C "end" (spEn C) 1) :
    FnOk P w K mg base CX0 3 f fd ["_law_mine"] (spTold C) := by
  refine F.ok scTold (fun vs H Q E h => ?_) (fun cdv A outer s H vs Q E hr h => ?_)
  · obtain ⟨a, lv, la, en, rfl, _⟩ := h
    rfl
  · obtain ⟨a, lv, la, en, rfl, h, q⟩ := h
    refine ⟨_, pss_one (ps_ret (pe_lst (pa_cons (pe_prR Lv R (Nat.le_refl _) hr (pv 0)) (pa_cons (pe_prR La R (Nat.le_refl _) hr (pv 0)) (pa_cons (pe_prR En R (Nat.le_refl _) hr (pv 0)) pa_nil))))), ?_⟩
    have h' := h
    obtain ⟨dx, ha⟩ := h
    refine ⟨_, rfl, a, dx, _, rfl, ha, a, lv, la, en, rfl, h', ?_⟩
    refine ⟨_, rfl, a, dx, _, rfl, ha, a, lv, la, en, rfl, h', ?_⟩
    refine ⟨_, rfl, a, dx, _, rfl, ha, a, lv, la, en, rfl, h', ?_⟩
    exact ⟨(by show 3 ≤ sizeLine; decide), fun l nl => q l _ (same_of nl) nl upd_same⟩
end
end Lamp
set_option Elab.async false
set_option linter.all false
set_option maxRecDepth 100000
set_option maxHeartbeats 1000000
namespace Lamp
open PySem PySem.Spec PyProof.Rows L2 LamX
/-! the law's own judging -/
def rL : Option Nat → List V
  | none => []
  | some i => [.int (i : Int)]
def spIsLv (K : PySem.W.Frag) : Sp := fun vs H Q _ => ∃ (v : V) (t : T), vs = [v] ∧ An K H v t ∧ ∀ H', Same H H' → Q (.bl (levelsB t)) H'
def spWrongs (K : PySem.W.Frag) : Sp := fun vs H Q _ => ∃ (p : Int) (v : V) (t : T), vs = [.int p, v] ∧ An K H v t ∧ (isT t = false → ∀ l H', Same H H' → H' l = some (.lst [.non]) → Q (.ref l) H') ∧
  ∀ ts, t = .tup ts → ts.length ≤ 1000 ∧ ∀ r, Judge p ts r → ∀ l H', Same H H' → H' l = some (.lst (rL r)) → Q (.ref l) H'
section
variable {P : Program} {w : World} {K : PySem.W.Frag} {mg : Str → Option Value} {base : Heap}
theorem scWhole : FnScope ["_law_value"] ["_law_value"] (defScope sWhole) := ⟨rfl, rfl, rfl, by decide +kernel, rfl, by decide +kernel, by decide +kernel⟩
theorem scIsLv : FnScope ["_law_value"] ["_law_value"] (defScope sIsLv) := ⟨rfl, rfl, rfl, by decide +kernel, rfl, by decide +kernel, by decide +kernel⟩
theorem scWrongs : FnScope ["_law_p", "_law_value", "_law_at", "_law_each"] ["_law_p", "_law_value"] (defScope sWrongs) := ⟨rfl, rfl, rfl, by decide +kernel, rfl, by decide +kernel, by decide +kernel⟩
theorem ok_whole {f : Addr} {fd : FuncData} (F : Fun K "_law_is_whole" "_law_is_whole" sWhole f fd) (mis : mg "isinstance" = none) (mi : mg "int" = none) (mb : mg "bool" = none) : FnOk P w K mg base CX0 1 f fd ["_law_value"] (spIsInt K) := by
  refine F.ok scWhole (fun vs H Q E h => ?_) (fun cdv A outer s H vs Q E hr h => ?_)
  · obtain ⟨v, t, rfl, _⟩ := h
    rfl
  · obtain ⟨v, t, rfl, ha, q⟩ := h
    refine ⟨_, pss_one (ps_ret (pe_and (pe_callB call_isi (by rfl) mis (by decide +kernel) (pa_cons (pv 0) (pa_cons (pe_bltn (v := .ty "int") (by rfl) mi (by decide +kernel) rfl) pa_nil)))
      (pe_one (pe_not (pe_callB call_isi (by rfl) mis (by decide +kernel) (pa_cons (pv 0) (pa_cons (pe_bltn (v := .ty "bool") (by rfl) mb (by decide +kernel) rfl) pa_nil))))))), ?_⟩
    exact st_ret (whole_and (val_var rfl) ha) q
theorem ok_isLv {f : Addr} {fd : FuncData} (F : Fun K "_law_is_levels" "_law_is_levels" sIsLv f fd) (I : Dr P w K mg base (spIsInt K) "_law_is_whole" ["_law_value"] 1) : FnOk P w K mg base CX0 2 f fd ["_law_value"] (spIsLv K) := by
  refine F.ok scIsLv (fun vs H Q E h => ?_) (fun cdv A outer s H vs Q E hr h => ?_)
  · obtain ⟨v, t, rfl, _⟩ := h
    rfl
  · obtain ⟨v, t, rfl, ha, q⟩ := h
    refine ⟨_, pss_one (ps_ret (pe_and (pe_dr I (Nat.le_refl _) hr rfl (pa_cons (pv 0) pa_nil)) (pe_one (pe_cmpR op_in_seq (pv 0) (pe_lst (pa_cons pe_int (pa_cons pe_int (pa_cons pe_int (pa_cons pe_int pa_nil))))) (by rfl))))), ?_⟩
    refine ⟨_, rfl, v, t, rfl, ha, whole t, rfl, ?_⟩
    cases e : whole t with
    | true =>
      obtain ⟨i, rfl, rfl⟩ := an_int ha e
      refine iteT ⟨_, rfl, (by show 4 ≤ sizeLine; decide), fun r hr => ⟨r, [.int 2, .int 3, .int 5, .int 7], rfl, .inl (SqL.of upd_same), rfl, by decide, ?_⟩⟩
      rw [in_levels]
      exact q _ (same_of hr)
    | false =>
      refine iteF ?_
      cases t with
      | int i => cases e
      | _ => exact q _ (Same.refl H)
theorem lamp_bad {p : Int} {ts : List T} {i : Nat} {u : T} (eu : ts[i]? = some u) (el : lampOf p u = none) : badAt p ts i = true := by
  unfold badAt
  rw [eu]
  show (match lampOf p u with | none => true | some a => _) = true
  rw [el]
theorem ok_wrongs {f : Addr} {fd : FuncData} (F : Fun K "_law_wrong_lamps" "_law_wrong_lamps" sWrongs f fd) (I : Dr P w K mg base (spIsInt K) "_law_is_whole" ["_law_value"] 1) (mis : mg "isinstance" = none) (mt : mg "tuple" = none) (ml : mg "len" = none) (mr : mg "range" = none) :
    FnOk P w K mg base CX0 2 f fd ["_law_p", "_law_value"] (spWrongs K) := by
  refine F.ok scWrongs (fun vs H Q E h => ?_) (fun cdv A outer s H vs Q E hr h => ?_)
  · obtain ⟨p, v, t, rfl, _⟩ := h
    rfl
  · obtain ⟨p, v, t, rfl, ha, qn, qt⟩ := h
    refine ⟨_, pss_cons (ps_if (pt_not (pt_val (pe_callB call_isi (by rfl) mis (by decide +kernel) (pa_cons (pv 1) (pa_cons (pe_bltn (v := .ty "tuple") (by rfl) mt (by decide +kernel) rfl) pa_nil))))) (pss_one (ps_ret (pe_lst (pa_cons pe_non pa_nil)))) pss_nil)
      (pss_cons (ps_for PassesOwn.never rfl (pi_range1 rfl mr (pa_cons (pe_callB call_len_seq (by rfl) ml PySem.boot_len (pa_cons (pv 1) pa_nil)) pa_nil)) (pg_name (i := 2) scWrongs.nd rfl (.inl rfl))
        (pss_cons (ps_set (i := 3) scWrongs.nd rfl (.inl rfl) (pe_ix ix_tup (pv 1) (pv 2) (fun _ _ => rfl)))
        (pss_cons (ps_if (PW.pt (pw_or (pt_cmpR op_eq (pv 2) pe_int (nomark _)) (pw_or (pt_not (pt_val (pe_callB call_isi (by rfl) mis (by decide +kernel) (pa_cons (pv 3) (pa_cons (pe_bltn (v := .ty "tuple") (by rfl) mt (by decide +kernel) rfl) pa_nil)))))
            (pw_or1 (pt_cmpR op_ne (pe_callB call_len_seq (by rfl) ml PySem.boot_len (pa_cons (pv 3) pa_nil)) pe_int (nomark _)))))) (pss_one (ps_ret (pe_lst (pa_cons (pv 2) pa_nil)))) pss_nil)
        (pss_cons (ps_if (PW.pt (pw_or (pt_not (pt_val (pe_dr I (by decide) hr rfl (pa_cons (pe_ix ix_tup (pv 3) pe_int (fun _ _ => rfl)) pa_nil)))) (pw_or (pt_not (pt_val (pe_dr I (by decide) hr rfl (pa_cons (pe_ix ix_tup (pv 3) pe_int (fun _ _ => rfl)) pa_nil))))
            (pw_or1 (pt_not (pt_chain op_lt op_lt pe_int (pe_ix ix_tup (pv 3) pe_int (fun _ _ => rfl)) (pv 0))))))) (pss_one (ps_ret (pe_lst (pa_cons (pv 2) pa_nil)))) pss_nil)
        (pss_one (ps_if (PW.pt (pw_and (pt_cmpR op_gt (pv 2) pe_int (nomark _)) (pw_and1 (pt_cmpR op_le (pe_ix ix_tup (pv 3) pe_int (fun _ _ => rfl)) (pe_ix ix_tup (pe_ix ix_tup (pv 1) (pe_op op_sub (pv 2) pe_int) (fun _ _ => rfl)) pe_int (fun _ _ => rfl)) (nomark _))))) (pss_one (ps_ret (pe_lst (pa_cons (pv 2) pa_nil)))) pss_nil))))))
      (pss_one (ps_ret (pe_lst pa_nil)))), ?_⟩
    cases et : isT t with
    | false =>
      refine sq_yes (ans_not (b := false) (ans_val (by have z := v_tuple (K := K) (te := tVar 1) (σ := [some (V.int p), some v, none, none]) (val_var rfl) ha; rw [et] at z; exact z))) ?_
      exact ⟨(by show 1 ≤ sizeLine; decide), fun l nl => qn et l _ (same_of nl) upd_same⟩
    | true =>
      refine sq_no (ans_not (b := true) (ans_val (by have z := v_tuple (K := K) (te := tVar 1) (σ := [some (V.int p), some v, none, none]) (val_var rfl) ha; rw [et] at z; exact z))) ?_
      obtain ⟨ts, rfl⟩ : ∃ ts, t = .tup ts := by cases t <;> first | exact ⟨_, rfl⟩ | cases et
      obtain ⟨hn, q⟩ := qt ts rfl
      cases ha with
      | @tup a xs _ hs hall =>
        have hlen := anAll_len hall
        refine sq_forRn (n := ts.length) hn (fun i σ H' => ∃ x y, σ = [some (.int p), some (.ref a), x, y] ∧ H' = H ∧ i ≤ 400 ∧ ∀ j, j < i → badAt p ts j = false) ⟨_, _, rfl, rfl, by omega, fun j hj => absurd hj (by omega)⟩ ?_ ?_
          (fun Q q => ⟨_, rfl, a, _, rfl, .inr hs, by rw [hlen]; exact q⟩)
        · rintro i σ' H0 hi ⟨x0, y0, rfl, rfl, h4, ahead⟩
          have hx : i < xs.length := by omega
          obtain ⟨u, eu, an⟩ := anAll_get hall (List.getElem?_eq_getElem hx)
          obtain ⟨x, ex⟩ : ∃ x, xs[i] = x := ⟨_, rfl⟩
          rw [ex] at an
          have hxi : xs[i]? = some x := by rw [List.getElem?_eq_getElem hx, ex]
          refine sq_set (v := x) (val_op (val_var rfl) (val_var rfl) fun Q q => ⟨a, _, (i : Int), _, rfl, rfl, hs, L2.at_of (j := i) rfl hxi, q⟩) ?_
          dsimp only [List.set]
          have out : Judge p ts (some i) → ∀ D : Ends, D.rt = Q → tRet (tLst (tCons (tVar 2) tNil)) D [some (.int p), some (.ref a), some (.int (i : Int)), some x] H0 := fun hj D eD => by
            refine ⟨_, rfl, (by show 1 ≤ sizeLine; decide), fun l nl => ?_⟩
            rw [eD]
            exact q (some i) hj l _ (same_of nl) upd_same
          by_cases h400 : i = 400
          · refine sq_yes (ans_or1 (ans_eq (x := .int (i : Int)) (y := .int 400) (val_var rfl) val_c rfl (decide_eq_true (by rw [h400]; rfl)))) ?_
            exact out ⟨hi, h4, ahead, .inl h400⟩ _ rfl
          · have e400 : Ans (tTest (tOp rEq (tVar 2) (tC (.int 400)))) [some (.int p), some (.ref a), some (.int (i : Int)), some x] H0 false := ans_eq (x := .int (i : Int)) (y := .int 400) (val_var rfl) val_c rfl (decide_eq_false (by intro z; have z := V.int.inj z; omega))
            cases eu2 : isT u with
            | false =>
              have nt : lampOf p u = none := by cases u <;> first | rfl | cases eu2
              refine sq_yes (ans_or e400 (ans_or1 (ans_not (b := false) (ans_val (by have z := v_tuple (K := K) (te := tVar 3) (σ := [some (.int p), some (.ref a), some (.int (i : Int)), some x]) (val_var rfl) an; rw [eu2] at z; exact z))))) ?_
              exact out ⟨hi, h4, ahead, .inr (lamp_bad eu nt)⟩ _ rfl
            | true =>
              have isTup := ans_not (b := true) (ans_val (by have z := v_tuple (K := K) (te := tVar 3) (σ := [some (.int p), some (.ref a), some (.int (i : Int)), some x]) (val_var rfl) an; rw [eu2] at z; exact z))
              obtain ⟨us, rfl⟩ : ∃ us, u = .tup us := by cases u <;> first | exact ⟨_, rfl⟩ | cases eu2
              obtain ⟨c0, xs0, rfl, hs0, hall0⟩ : ∃ c xs, x = .ref c ∧ SqT K H0 c xs ∧ AnAll K H0 xs us := by
                cases an with
                | tup h1 h2 => exact ⟨_, _, rfl, h1, h2⟩
              have hl0 := anAll_len hall0
              by_cases h2 : us.length = 2
              · obtain ⟨c, x1, y1, t1, u1, ev, hs1, rfl, h3, h5⟩ := tup_two an h2
                cases ev
                refine sq_no (ans_or e400 (ans_or isTup (ans_ne (x := .int 2) (y := .int 2) (fun Q q => ⟨_, rfl, c0, _, rfl, .inr hs1, q⟩) val_c rfl rfl))) ?_
                have w1 : Ans (tNot (tB (tCallG (spIsInt K) (tCons (tOp (rIxT K) (tVar 3) (tC (.int 0))) tNil)))) [some (.int p), some (.ref a), some (.int (i : Int)), some (.ref c0)] H0 (!whole t1) := ans_not (ans_val fun Q q => ⟨_, rfl, c0, _, 0, _, rfl, rfl, hs1, rfl, x1, t1, rfl, h3, q⟩)
                have w2 : Ans (tNot (tB (tCallG (spIsInt K) (tCons (tOp (rIxT K) (tVar 3) (tC (.int 1))) tNil)))) [some (.int p), some (.ref a), some (.int (i : Int)), some (.ref c0)] H0 (!whole u1) := ans_not (ans_val fun Q q => ⟨_, rfl, c0, _, 1, _, rfl, rfl, hs1, rfl, y1, u1, rfl, h5, q⟩)
                have l2 := lampOf_two (lv := p) (t := t1) (u := u1)
                cases e1 : whole t1 with
                | false =>
                  rw [e1] at w1 l2
                  refine sq_yes (ans_or1 w1) ?_
                  exact out ⟨hi, h4, ahead, .inr (lamp_bad eu (Option.not_isSome_iff_eq_none.mp (by rw [l2]; exact Bool.false_ne_true)))⟩ _ rfl
                | true =>
                  cases e2 : whole u1 with
                  | false =>
                    rw [e1] at w1
                    rw [e2] at w2
                    rw [e1, e2] at l2
                    refine sq_yes (ans_or w1 (ans_or1 w2)) ?_
                    exact out ⟨hi, h4, ahead, .inr (lamp_bad eu (Option.not_isSome_iff_eq_none.mp (by rw [l2]; exact Bool.false_ne_true)))⟩ _ rfl
                  | true =>
                    rw [e1] at w1
                    rw [e2] at w2
                    obtain ⟨a1, rfl, rfl⟩ := an_int h3 e1
                    obtain ⟨b1, rfl, rfl⟩ := an_int h5 e2
                    have ch : Ans (tTest (tChain (rI0 fun i j => .bl (decide (i < j))) (rI0 fun i j => .bl (decide (i < j))) (tC (.int 0)) (tOp (rIxT K) (tVar 3) (tC (.int 1))) (tVar 0))) [some (.int p), some (.ref a), some (.int (i : Int)), some (.ref c0)] H0 (decide (0 < b1 ∧ b1 < p)) := by
                      intro Q q
                      refine ⟨_, rfl, c0, _, 1, _, rfl, rfl, hs1, rfl, 0, b1, rfl, rfl, decide (0 < b1), rfl, ?_⟩
                      by_cases h0 : 0 < b1
                      · rw [if_pos (decide_eq_true h0)]
                        refine ⟨_, rfl, b1, p, rfl, rfl, decide (b1 < p), rfl, ?_⟩
                        have e : decide (0 < b1 ∧ b1 < p) = decide (b1 < p) := by simp [h0]
                        rw [e] at q
                        exact q
                      · rw [if_neg (by rw [decide_eq_false h0]; decide)]
                        refine ⟨false, rfl, ?_⟩
                        · have e : decide (0 < b1 ∧ b1 < p) = false := decide_eq_false fun z => h0 z.1
                          rw [e] at q
                          exact q
                    by_cases hb : 0 < b1 ∧ b1 < p
                    · rw [decide_eq_true hb] at ch
                      refine sq_no (ans_or w1 (ans_or w2 (ans_not ch))) ?_
                      have el : lampOf p (.tup [.int a1, .int b1]) = some a1 := if_pos hb
                      have here : ts[i]?.bind (lampOf p) = some a1 := by rw [eu]; exact el
                      cases i with
                      | zero =>
                        have e : badAt p ts 0 = false := by rw [bad_by (a' := 0) here (fun z => absurd z (by omega))]; rfl
                        refine st_no (ans_and0 (an_gt (val_var rfl) val_c (decide_eq_false (by decide)))) ?_
                        exact ⟨_, _, rfl, rfl, by omega, fun j hj => by have z : j = 0 := by omega
                                                                        rw [z]; exact e⟩
                      | succ j =>
                        obtain ⟨c', a', b', ex, hs', hb', _⟩ := good_val hall (i := j) (by omega) (ahead j (by omega))
                        have e := bad_by (a' := a') here (fun _ => hb')
                        have e : badAt p ts (j + 1) = decide (a1 ≤ a') := by rw [e, decide_eq_true (by omega : 0 < j + 1), Bool.true_and]
                        have cmp : Ans (tAnd (tTest (tOp (rI0 fun i j => .bl (decide (j < i))) (tVar 2) (tC (.int 0)))) (tTest (tOp (rI0 fun i j => .bl (decide (i ≤ j))) (tOp (rIxT K) (tVar 3) (tC (.int 0))) (tOp (rIxT K) (tOp (rIxT K) (tVar 1) (tOp (rI0 fun i j => .int (i - j)) (tVar 2) (tC (.int 1)))) (tC (.int 0))))))
                            [some (.int p), some (.ref a), some (.int ((j + 1 : Nat) : Int)), some (.ref c0)] H0 (decide (a1 ≤ a')) := by
                          refine ans_and (an_gt (val_var rfl) val_c (decide_eq_true (by omega))) (ans_cmp (x := .int a1) (y := .int a') (val_op (val_var rfl) val_c fun Q q => ⟨c0, _, 0, _, rfl, rfl, hs1, rfl, q⟩) ?_ fun Q q => ⟨_, _, rfl, rfl, q⟩)
                          refine val_op (x := .ref c') (val_op (val_var rfl) (val_op (z := .int (j : Int)) (val_var rfl) val_c fun Q q => ⟨_, _, rfl, rfl, ?_⟩) fun Q q => ⟨a, _, (j : Int), _, rfl, rfl, hs, L2.at_of (j := j) rfl ex, q⟩) val_c fun Q q => ⟨_, _, 0, _, rfl, rfl, hs', rfl, q⟩
                          have e : ((j + 1 : Nat) : Int) - 1 = (j : Int) := by omega
                          show Q (.int (((j + 1 : Nat) : Int) - 1)) _
                          rw [e]
                          exact q
                        by_cases h : a1 ≤ a'
                        · rw [decide_eq_true h] at cmp e
                          exact st_yes cmp (out ⟨hi, h4, ahead, .inr e⟩ _ rfl)
                        · rw [decide_eq_false h] at cmp e
                          refine st_no cmp ⟨_, _, rfl, rfl, by omega, fun k hk => ?_⟩
                          by_cases z : k = j + 1
                          · rw [z]; exact e
                          · exact ahead k (by omega)
                    · rw [decide_eq_false hb] at ch
                      have el : lampOf p (.tup [.int a1, .int b1]) = none := if_neg hb
                      refine sq_yes (ans_or w1 (ans_or w2 (ans_not ch))) ?_
                      exact out ⟨hi, h4, ahead, .inr (lamp_bad eu el)⟩ _ rfl
              · refine sq_yes (ans_or e400 (ans_or isTup (ans_ne (x := .int (xs0.length : Int)) (y := .int 2) (fun Q q => ⟨_, rfl, c0, _, rfl, .inr hs0, q⟩) val_c rfl ?_))) ?_
                · rw [decide_eq_false fun z => h2 (by have z := V.int.inj z; omega)]
                  rfl
                · exact out ⟨hi, h4, ahead, .inr (lamp_bad eu (lampOf_len h2))⟩ _ rfl
        · rintro σ' H0 ⟨x0, y0, rfl, rfl, h4, ahead⟩
          exact ⟨(by show 0 ≤ sizeLine; decide), fun l nl => q none ⟨h4, fun i hi => ahead i hi⟩ l _ (same_of nl) upd_same⟩
end
end Lamp
set_option Elab.async false
set_option linter.all false
set_option maxRecDepth 100000
set_option maxHeartbeats 1000000
namespace Lamp
open PySem PySem.Spec PyProof.Rows L2
open TL (tl tl_append ext_tl numL tl_ofString len_tl)
/-! numbers and rounds as texts -/
/-- an integer's text -/
def nS (i : Int) : Str := Str.ofString (toString i)
def sg (i : Int) : List Nat := if i < 0 then [45] else []
theorem tl_nS (i : Int) : tl (nS i) = sg i ++ numL i.natAbs := by
  cases i with
  | ofNat n =>
    have e : ¬ Int.ofNat n < 0 := by simp
    unfold sg
    rw [if_neg e]
    exact TL.tl_num n
  | negSucc n =>
    unfold sg
    rw [if_pos (Int.negSucc_lt_zero n)]
    show tl (Str.ofString ("-" ++ Nat.repr (n + 1))) = [45] ++ numL (n + 1)
    rw [tl_ofString, String.toList_append, List.map_append, Nat.toList_repr]
    rfl
theorem nS_sign {i : Int} {c : Nat} (h : c ∈ tl (nS i)) : c = 45 ∨ (48 ≤ c ∧ c ≤ 57) := by
  rw [tl_nS] at h
  rcases List.mem_append.mp h with h | h
  · unfold sg at h
    split at h
    · exact .inl (List.mem_singleton.mp h)
    · cases h
  · exact .inr (TL.numL_digits _ c h)
theorem nS_free {i : Int} {c : Nat} (h1 : c ≠ 45) (h2 : c < 48 ∨ 57 < c) : c ∉ tl (nS i) := fun z => by
  rcases nS_sign z with e | e
  · exact h1 e
  · omega
theorem nS_len {i : Int} (h : i.natAbs < 10 ^ 40) : (nS i).length ≤ 41 := by
  rw [len_tl, tl_nS, List.length_append]
  have h1 := TL.numL_len (by decide : 0 < 40) h
  have h2 : (sg i).length ≤ 1 := by
    unfold sg
    split <;> simp
  omega
theorem nS_read {i : Int} (h : i.natAbs < 10 ^ 40) : intText? (nS i) = some i := by
  have hl : (nS i).length ≤ 4300 := Nat.le_trans (nS_len h) (by decide)
  have e := tl_nS i
  unfold sg at e
  split at e
  · have z := PySem.intText_neg e (TL.numL_digits _) (TL.numL_ne _) hl
    have z2 : intText? (nS i) = some (-((NumText.digitsVal (numL i.natAbs) : Nat) : Int)) := z
    rw [TL.numL_val] at z2
    rw [z2]
    congr 1
    omega
  · rw [List.nil_append] at e
    have z := PySem.intText_digits (x := nS i) (by rw [show (nS i).cps.toList = _ from e]; exact TL.numL_digits _) (by rw [show (nS i).cps.toList = _ from e]; exact TL.numL_ne _) hl
    rw [show (nS i).cps.toList = _ from e, TL.numL_val] at z
    rw [z]
    congr 1
    omega
theorem nS_inj {i j : Int} (h1 : i.natAbs < 10 ^ 40) (h2 : j.natAbs < 10 ^ 40) (h : nS i = nS j) : i = j := by
  have e := nS_read h1
  rw [h, nS_read h2] at e
  exact (Option.some.inj e).symm
/-- without its sign -/
theorem tl_bare (i : Int) : tl (Txt.removeprefix (nS i) "-") = numL i.natAbs := by
  have hs : Builtin.Str.subAt (nS i) "-" 0 = decide (i < 0) := by
    unfold Builtin.Str.subAt
    have e : ((nS i).cps.extract 0 (0 + ("-" : Str).length)).toList = (tl (nS i)).take 1 := by
      rw [Array.toList_extract]
      rfl
    have e2 : (("-" : Str).cps).toList = [45] := rfl
    have e3 : ((nS i).cps.extract 0 (0 + ("-" : Str).length) == ("-" : Str).cps) = ((tl (nS i)).take 1 == [45]) := by
      rw [Bool.eq_iff_iff, beq_iff_eq, beq_iff_eq, ← e, ← e2]
      exact ⟨fun z => by rw [z], fun z => Array.toList_inj.mp z⟩
    rw [e3, tl_nS]
    unfold sg
    by_cases h : i < 0
    · rw [if_pos h, decide_eq_true h]
      rfl
    · rw [if_neg h, decide_eq_false h, List.nil_append]
      cases hn : numL i.natAbs with
      | nil => exact absurd hn (TL.numL_ne _)
      | cons c r =>
        have hd := TL.numL_digits i.natAbs c (by rw [hn]; exact List.mem_cons_self ..)
        show ([c] == [45]) = false
        rw [beq_eq_false_iff_ne]
        intro z
        have := (List.cons.inj z).1
        omega
  unfold Txt.removeprefix
  rw [hs]
  have e := tl_nS i
  unfold sg at e
  by_cases h : i < 0
  · rw [decide_eq_true h, if_pos rfl]
    rw [if_pos h] at e
    show tl (if ((nS i).length - ("-" : Str).length == (nS i).length) = true then nS i else Builtin.Str.strSub (nS i) ("-" : Str).length (nS i).length) = _
    have hl : (nS i).length ≠ 0 := by
      rw [len_tl, e]
      simp
    rw [if_neg (by rw [beq_iff_eq]; show ¬ (nS i).length - 1 = (nS i).length; omega), TL.tl_strSub_end, e]
    rfl
  · rw [decide_eq_false h, if_neg Bool.false_ne_true]
    rw [if_neg h] at e
    exact e
theorem dig_uni : ∀ c, c < 128 → 48 ≤ c → c ≤ 57 → Unicode.isDigit c = true := by decide +kernel
theorem all_tl (x : Str) (p : Nat → Bool) : x.cps.all p = (tl x).all p := by
  show x.cps.all p = x.cps.toList.all p
  simp
theorem bare_ascii (i : Int) : Txt.isascii (Txt.removeprefix (nS i) "-") = true := by
  unfold Txt.isascii
  rw [all_tl, tl_bare, List.all_eq_true]
  intro c hc
  have := TL.numL_digits _ c hc
  exact decide_eq_true (by omega)
theorem bare_digit (i : Int) : Txt.isdigit (Txt.removeprefix (nS i) "-") = true := by
  unfold Txt.isdigit
  rw [all_tl, len_tl, tl_bare, Bool.and_eq_true, List.all_eq_true]
  refine ⟨decide_eq_true ?_, fun c hc => ?_⟩
  · cases hn : numL i.natAbs with
    | nil => exact absurd hn (TL.numL_ne _)
    | cons c r => exact Nat.succ_pos _
  · have := TL.numL_digits _ c hc
    exact dig_uni c (by omega) this.1 this.2
/-- a lamp's word -/
def lampS (q : Int × Int) : Str := nS q.1 ++ ":" ++ nS q.2
theorem tl_lampS (q : Int × Int) : tl (lampS q) = tl (nS q.1) ++ 58 :: tl (nS q.2) := by
  unfold lampS
  rw [tl_append, tl_append, List.append_assoc]
  rfl
theorem lampS_free (q : Int × Int) : 32 ∉ tl (lampS q) := by
  rw [tl_lampS]
  intro h
  rcases List.mem_append.mp h with h | h
  · exact nS_free (by decide) (.inl (by decide)) h
  · rcases List.mem_cons.mp h with h | h
    · cases h
    · exact nS_free (by decide) (.inl (by decide)) h
theorem lampS_len {q : Int × Int} (h1 : q.1.natAbs < 10 ^ 40) (h2 : q.2.natAbs < 10 ^ 40) : (lampS q).length ≤ 83 := by
  rw [len_tl, tl_lampS, List.length_append, List.length_cons]
  have e1 := nS_len h1
  have e2 := nS_len h2
  rw [len_tl] at e1 e2
  omega
/-- the words behind the end -/
def tailWs (ls : List (Int × Int)) : List Str := match ls with
  | [] => ["dark"]
  | l :: r => "lamps" :: (l :: r).map lampS
def wordsS (lv : Int) (ls : List (Int × Int)) (fin : Int) : List Str := [("levels" : Str), nS lv, ("end" : Str), nS fin] ++ tailWs ls
def sheetS (lv : Int) (ls : List (Int × Int)) (fin : Int) : Str := Txt.join " " (wordsS lv ls fin)
theorem wordsS_free (lv : Int) (ls : List (Int × Int)) (fin : Int) : ∀ p ∈ wordsS lv ls fin, 32 ∉ tl p := by
  intro p hp
  unfold wordsS at hp
  rcases List.mem_append.mp hp with h | h
  · simp only [List.mem_cons, List.not_mem_nil, or_false] at h
    rcases h with rfl | rfl | rfl | rfl
    · decide
    · exact nS_free (by decide) (.inl (by decide))
    · decide
    · exact nS_free (by decide) (.inl (by decide))
  · cases ls with
    | nil =>
      rw [show tailWs [] = [("dark" : Str)] from rfl] at h
      rw [List.mem_singleton.mp h]
      decide
    | cons l r =>
      rcases List.mem_cons.mp h with h | h
      · rw [h]; decide
      · obtain ⟨q, _, rfl⟩ := List.mem_map.mp h
        exact lampS_free q
theorem sheet_split (lv : Int) (ls : List (Int × Int)) (fin : Int) : Txt.split (sheetS lv ls fin) " " = wordsS lv ls fin :=
  TL.split_join (y := (" " : Str)) (s := 32) (S := []) rfl (by rw [all_tl]; decide) (by unfold wordsS; simp) (wordsS_free lv ls fin)
theorem lamp_part (q : Int × Int) : Txt.partition (lampS q) ":" = (nS q.1, (":" : Str), nS q.2) :=
  TL.partition_app (y := (":" : Str)) (s := 58) (S := []) rfl (nS_free (by decide) (.inr (by decide)))
end Lamp
set_option Elab.async false
set_option linter.all false
set_option maxRecDepth 100000
set_option maxHeartbeats 1000000
namespace Lamp
open PySem PySem.Spec PyProof.Rows L2
open TL (tl tl_append ext_tl numL tl_ofString len_tl)
/-! any word read as an integer -/
def bareL : List Nat → List Nat
  | 45 :: r => r
  | l => l
theorem bareL_cons {c : Nat} {r : List Nat} (h : c ≠ 45) : bareL (c :: r) = c :: r := by
  unfold bareL
  split
  · rename_i e; exact absurd (List.cons.inj e).1 h
  · rfl
def digB (l : List Nat) : Bool := !l.isEmpty && l.all fun c => decide (48 ≤ c) && decide (c ≤ 57)
def okW (w : Str) : Bool := digB (bareL (tl w))
/-- the integer that a word tells -/
def figS (w : Str) : Option Int := if okW w = true then (match intText? w with | some n => if nS n = w then some n else none | none => none) else none
theorem digB_all {l : List Nat} (h : digB l = true) : l ≠ [] ∧ NumText.AllDigits l := by
  unfold digB at h
  rw [Bool.and_eq_true, List.all_eq_true] at h
  refine ⟨fun e => by rw [e] at h; exact absurd h.1 (by decide), fun c hc => ?_⟩
  have z := h.2 c hc
  rw [Bool.and_eq_true, decide_eq_true_eq, decide_eq_true_eq] at z
  exact z
theorem digB_not {l : List Nat} (h : digB l = false) : l = [] ∨ ∃ c ∈ l, ¬ (48 ≤ c ∧ c ≤ 57) := by
  cases l with
  | nil => exact .inl rfl
  | cons a r =>
    refine .inr ?_
    unfold digB at h
    have h : ((a :: r).all fun c => decide (48 ≤ c) && decide (c ≤ 57)) = false := h
    rw [List.all_eq_false] at h
    obtain ⟨c, hc, hn⟩ := h
    refine ⟨c, hc, fun z => hn ?_⟩
    rw [decide_eq_true z.1, decide_eq_true z.2]
    rfl
theorem digitsVal_lt : ∀ (cs : List Nat), NumText.AllDigits cs → NumText.digitsVal cs < 10 ^ cs.length := by
  intro cs
  have key : ∀ (cs : List Nat) (acc : Nat), NumText.AllDigits cs → cs.foldl (fun acc c => acc * 10 + (c - 48)) acc < (acc + 1) * 10 ^ cs.length := by
    intro cs
    induction cs with
    | nil => intro acc _; simp
    | cons c r ih =>
      intro acc h
      rw [List.foldl_cons, List.length_cons, Nat.pow_succ]
      have hc := h c (List.mem_cons_self ..)
      have := ih (acc * 10 + (c - 48)) fun d hd => h d (List.mem_cons_of_mem _ hd)
      refine Nat.lt_of_lt_of_le this ?_
      have : acc * 10 + (c - 48) + 1 ≤ (acc + 1) * 10 := by omega
      calc (acc * 10 + (c - 48) + 1) * 10 ^ r.length ≤ ((acc + 1) * 10) * 10 ^ r.length := Nat.mul_le_mul_right _ this
        _ = (acc + 1) * (10 ^ r.length * 10) := by rw [Nat.mul_assoc, Nat.mul_comm 10]
  intro h
  have := key cs 0 h
  simpa [NumText.digitsVal] using this
theorem okW_int {w : Str} (h : okW w = true) (hl : w.length ≤ 560) : ∃ n : Int, intText? w = some n ∧ n.natAbs < 10 ^ 560 := by
  obtain ⟨h1, h2⟩ := digB_all h
  have hlt : ∀ k : Nat, k ≤ 560 → (10 : Nat) ^ k ≤ 10 ^ 560 := fun k hk => Nat.pow_le_pow_right (by decide) hk
  cases e : tl w with
  | nil => rw [e] at h1; exact absurd rfl h1
  | cons c r =>
    rw [len_tl, e, List.length_cons] at hl
    by_cases hc : c = 45
    · subst hc
      rw [e] at h1 h2
      have z := PySem.intText_neg (x := w) (cs := r) e h2 h1 (by rw [len_tl, e, List.length_cons]; omega)
      refine ⟨_, z, ?_⟩
      have := digitsVal_lt r h2
      have := hlt r.length (by omega)
      omega
    · rw [e, bareL_cons hc] at h1 h2
      have z := PySem.intText_digits (x := w) (by rw [show w.cps.toList = _ from e]; exact h2) (by rw [show w.cps.toList = _ from e]; exact h1) (by rw [len_tl, e, List.length_cons]; omega)
      refine ⟨_, z, ?_⟩
      rw [show w.cps.toList = _ from e]
      have := digitsVal_lt (c :: r) h2
      have := hlt (c :: r).length (by rw [List.length_cons]; omega)
      omega
theorem fig_no {w : Str} (h : okW w = false) : figS w = none := by
  unfold figS
  rw [h]
  exact if_neg Bool.false_ne_true
theorem fig_yes {w : Str} {n : Int} (h : okW w = true) (e : intText? w = some n) : figS w = if nS n = w then some n else none := by
  unfold figS
  rw [if_pos h, e]
theorem fig_some {w : Str} {n : Int} (h : figS w = some n) : w = nS n := by
  unfold figS at h
  split at h
  · split at h
    · split at h
      · rename_i e
        cases h
        exact e.symm
      · cases h
    · cases h
  · cases h
theorem fig_ok {w : Str} {n : Int} (h : figS w = some n) : okW w = true := by
  cases e : okW w with
  | true => rfl
  | false => rw [fig_no e] at h; cases h
/-- its signs -/
theorem fig_signs {w : Str} {n : Int} (h : figS w = some n) : ∀ c ∈ tl w, c = 45 ∨ (48 ≤ c ∧ c ≤ 57) := fun c hc => by
  rw [fig_some h] at hc
  exact nS_sign hc
theorem fig_bad {w : Str} {c : Nat} (hc : c ∈ tl w) (h1 : c ≠ 45) (h2 : c < 48 ∨ 57 < c) : figS w = none := by
  cases e : figS w with
  | none => rfl
  | some n =>
    rcases fig_signs e c hc with z | z
    · exact absurd z h1
    · omega
theorem log_big {n : Int} (h : n.natAbs < 10 ^ 560) : n.natAbs.log2 < 1920 := PySem.Flt.log2_lt_of (by decide) (Nat.lt_of_lt_of_le h (by decide +kernel))
/-! the sign taken away -/
theorem minus_at (w : Str) : Builtin.Str.subAt w "-" 0 = ((tl w).take 1 == [45]) := by
  unfold Builtin.Str.subAt
  have e : (w.cps.extract 0 (0 + ("-" : Str).length)).toList = (tl w).take 1 := by
    rw [Array.toList_extract]
    rfl
  have e2 : (("-" : Str).cps).toList = [45] := rfl
  rw [Bool.eq_iff_iff, beq_iff_eq, beq_iff_eq, ← e, ← e2]
  exact ⟨fun z => by rw [z], fun z => Array.toList_inj.mp z⟩
theorem tl_bareW (w : Str) : tl (Txt.removeprefix w "-") = bareL (tl w) := by
  unfold Txt.removeprefix
  rw [minus_at]
  cases e : tl w with
  | nil => exact e
  | cons c r =>
    by_cases hc : c = 45
    · subst hc
      have hb : ((45 :: r).take 1 == [45]) = true := rfl
      rw [hb, if_pos rfl]
      show tl (if (w.length - ("-" : Str).length == w.length) = true then w else Builtin.Str.strSub w ("-" : Str).length w.length) = _
      have hl : w.length ≠ 0 := by
        rw [len_tl, e]
        simp
      rw [if_neg (by rw [beq_iff_eq]; show ¬ w.length - 1 = w.length; omega), TL.tl_strSub_end, e]
      rfl
    · have hb : ((c :: r).take 1 == [45]) = false := by
        show ([c] == [45]) = false
        rw [beq_eq_false_iff_ne]
        intro z
        exact hc (List.cons.inj z).1
      rw [hb, if_neg Bool.false_ne_true, bareL_cons hc]
      exact e
theorem dig_uni2 : ∀ c, c < 128 → Unicode.isDigit c = (decide (48 ≤ c) && decide (c ≤ 57)) := by decide +kernel
/-- isascii and isdigit of what stands behind the sign -/
theorem bare_ok {w : Str} : (Txt.isascii (Txt.removeprefix w "-") && Txt.isdigit (Txt.removeprefix w "-")) = okW w := by
  unfold Txt.isascii Txt.isdigit okW digB
  rw [all_tl, all_tl, len_tl, tl_bareW]
  generalize bareL (tl w) = l
  cases l with
  | nil => rfl
  | cons a r =>
    have e1 : decide ((a :: r).length > 0) = true := decide_eq_true (Nat.succ_pos _)
    have e2 : (!(a :: r).isEmpty) = true := rfl
    rw [e1, e2, Bool.true_and, Bool.true_and]
    rw [Bool.eq_iff_iff]
    simp only [Bool.and_eq_true, List.all_eq_true, decide_eq_true_eq]
    refine ⟨fun ⟨h1, h2⟩ c hc => ?_, fun h => ⟨fun c hc => ?_, fun c hc => ?_⟩⟩
    · have z := h2 c hc
      rw [dig_uni2 c (h1 c hc)] at z
      rw [Bool.and_eq_true, decide_eq_true_eq, decide_eq_true_eq] at z
      exact z
    · have := h c hc
      omega
    · have z := h c hc
      rw [dig_uni2 c (by omega), decide_eq_true z.1, decide_eq_true z.2]
      rfl
/-! a word with a colon -/
/-- a lamp that a word tells -/
def lampF (w : Str) : Option (Int × Int) := match figS (Txt.partition w ":").1, figS (Txt.partition w ":").2.2 with
  | some a, some b => some (a, b)
  | _, _ => none
theorem tl_colon : tl (":" : Str) = [58] := rfl
theorem first_at {c : Nat} : ∀ {l : List Nat}, c ∈ l → ∃ a b, l = a ++ c :: b ∧ c ∉ a
  | d :: r, h => by
    by_cases e : d = c
    · subst e
      exact ⟨[], r, rfl, by simp⟩
    · obtain ⟨a, b, e1, e2⟩ := first_at (l := r) (by
        rcases List.mem_cons.mp h with z | z
        · exact absurd z.symm e
        · exact z)
      refine ⟨d :: a, b, by rw [e1]; rfl, fun z => ?_⟩
      rcases List.mem_cons.mp z with z | z
      · exact e z.symm
      · exact e2 z
theorem colon_cases (w : Str) : (58 ∉ tl w ∧ Txt.partition w ":" = (w, Str.empty, Str.empty) ∧ Txt.split w ":" = [w]) ∨
    ∃ a b : Str, 58 ∉ tl a ∧ tl w = tl a ++ 58 :: tl b ∧ Txt.partition w ":" = (a, (":" : Str), b) ∧ Txt.split w ":" = a :: Txt.split b ":" := by
  by_cases h : 58 ∈ tl w
  · refine .inr ?_
    obtain ⟨l1, l2, e, hn⟩ := first_at h
    let a : Str := ⟨l1.toArray⟩
    let b : Str := ⟨l2.toArray⟩
    have ea : tl a = l1 := TL.tl_mk l1
    have eb : tl b = l2 := TL.tl_mk l2
    have ew : w = a ++ (":" : Str) ++ b := ext_tl (by rw [tl_append, tl_append, ea, eb, tl_colon, e, List.append_assoc]; rfl)
    refine ⟨a, b, by rw [ea]; exact hn, by rw [ea, eb, e], ?_, ?_⟩
    · rw [ew]
      exact TL.partition_app (y := ":") (s := 58) (S := []) rfl (by rw [ea]; exact hn)
    · refine TL.map_tl_inj ?_
      rw [List.map_cons, TL.split_spl w ":" (by rw [tl_colon]; simp) (TL.kind_ok (by decide +kernel)), TL.split_spl b ":" (by rw [tl_colon]; simp) (TL.kind_ok (by decide +kernel)), tl_colon, e, ea, eb]
      exact TL.spl_part1 (S := []) hn
  · refine .inl ⟨h, TL.partition_none (y := ":") (s := 58) (S := []) rfl h, ?_⟩
    refine TL.map_tl_inj ?_
    rw [TL.split_spl w ":" (by rw [tl_colon]; simp) (TL.kind_ok (by decide +kernel)), tl_colon, TL.spl_last1 h]
    rfl
end Lamp
set_option Elab.async false
set_option linter.all false
set_option maxRecDepth 100000
set_option maxHeartbeats 1000000
namespace Lamp
open PySem PySem.Spec PyProof.Rows L2
open TL (tl tl_append ext_tl numL tl_ofString len_tl spl joinL)
/-! words of a text, and how long they are -/
theorem pre32 {d : Nat} {r : List Nat} : TL.pre [32] (d :: r) = decide (d = 32) := by
  show ([d] == [32]) = _
  by_cases h : d = 32
  · rw [h, decide_eq_true rfl]; rfl
  · rw [decide_eq_false h, beq_eq_false_iff_ne]
    intro z
    exact h (List.cons.inj z).1
theorem spl32 (acc : List Nat) (d : Nat) (r : List Nat) : spl [32] 0 acc (d :: r) = if d = 32 then acc :: spl [32] 0 [] r else spl [32] 0 (acc ++ [d]) r := by
  by_cases h : d = 32
  · rw [if_pos h]
    exact TL.spl_hit (by rw [pre32, decide_eq_true h])
  · rw [if_neg h]
    exact TL.spl_miss (by rw [pre32, decide_eq_false h])
theorem spl_mem : ∀ (l acc : List Nat) (c : Nat), c ∈ acc ++ l → c = 32 ∨ ∃ p ∈ spl [32] 0 acc l, c ∈ p
  | [], acc, c, h => .inr ⟨acc, by rw [TL.spl_nil]; exact List.mem_singleton.mpr rfl, by simpa using h⟩
  | d :: r, acc, c, h => by
    rw [spl32]
    by_cases hd : d = 32
    · rw [if_pos hd]
      rcases List.mem_append.mp h with h | h
      · exact .inr ⟨acc, List.mem_cons_self .., h⟩
      · rcases List.mem_cons.mp h with h | h
        · exact .inl (by rw [h, hd])
        · rcases spl_mem r [] c (by simpa using h) with z | ⟨p, h1, h2⟩
          · exact .inl z
          · exact .inr ⟨p, List.mem_cons_of_mem _ h1, h2⟩
    · rw [if_neg hd]
      exact spl_mem r (acc ++ [d]) c (by simpa using h)
/-- signs between spaces, at most so many -/
def Runs (W : Nat) (l : List Nat) : Prop := ∀ a b c, l = a ++ b ++ c → 32 ∉ b → b.length ≤ W
theorem Runs.mono {W W' : Nat} {l : List Nat} (h : Runs W l) (hw : W ≤ W') : Runs W' l := fun a b c e n => Nat.le_trans (h a b c e n) hw
theorem Runs.left {W : Nat} {x y : List Nat} (h : Runs W (x ++ y)) : Runs W x := fun a b c e n => h a b (c ++ y) (by rw [e]; simp) n
theorem Runs.right {W : Nat} {x y : List Nat} (h : Runs W (x ++ y)) : Runs W y := fun a b c e n => h (x ++ a) b c (by rw [e]; simp) n
theorem runs_short {l : List Nat} : Runs l.length l := fun a b c e _ => by
  have := congrArg List.length e
  rw [List.length_append, List.length_append] at this
  omega
theorem runs_app {W1 W2 : Nat} {x y : List Nat} (h1 : Runs W1 x) (h2 : Runs W2 y) : Runs (W1 + W2) (x ++ y) := fun a b c e n => by
  rcases List.append_eq_append_iff.mp e with ⟨a', e1, e2⟩ | ⟨c', e1, e2⟩
  · rcases List.append_eq_append_iff.mp e1 with ⟨t, e3, e4⟩ | ⟨t, e3, e4⟩
    · have n1 : 32 ∉ t := fun z => n (by rw [e4]; exact List.mem_append_left _ z)
      have n2 : 32 ∉ a' := fun z => n (by rw [e4]; exact List.mem_append_right _ z)
      have l1 := h1 a t [] (by rw [e3]; simp) n1
      have l2 := h2 [] a' c (by rw [e2]; rfl) n2
      rw [e4, List.length_append]
      omega
    · have := h2 t b c (by rw [e2, e4]) n
      omega
  · have := h1 a b c' e1 n
    omega
theorem runs_space {W : Nat} {x y : List Nat} (h1 : Runs W x) (h2 : Runs W y) : Runs W (x ++ 32 :: y) := fun a b c e n => by
  rcases List.append_eq_append_iff.mp e with ⟨a', e1, e2⟩ | ⟨c', e1, e2⟩
  · cases a' with
    | nil =>
      rw [List.append_nil] at e1
      exact h1 a b [] (by rw [← e1]; simp) n
    | cons d r =>
      have e2 : 32 :: y = d :: (r ++ c) := e2
      obtain ⟨ed, er⟩ := List.cons.inj e2
      subst ed
      rcases List.append_eq_append_iff.mp e1 with ⟨t, e3, e4⟩ | ⟨t, e3, e4⟩
      · exact absurd (by rw [e4]; exact List.mem_append_right _ (List.mem_cons_self ..)) n
      · cases t with
        | nil =>
          have e4 : 32 :: r = b := e4
          exact absurd (by rw [← e4]; exact List.mem_cons_self ..) n
        | cons d' t' =>
          have e4 : 32 :: r = d' :: (t' ++ b) := e4
          obtain ⟨_, er2⟩ := List.cons.inj e4
          exact h2 t' b c (by rw [er, er2]) n
  · exact h1 a b c' e1 n
theorem runs_words : ∀ {W : Nat} (l acc p0 : List Nat), Runs W (p0 ++ acc ++ l) → 32 ∉ acc → ∀ p ∈ spl [32] 0 acc l, p.length ≤ W
  | W, [], acc, p0, h, n, p, hp => by
    rw [TL.spl_nil] at hp
    rw [List.mem_singleton.mp hp]
    exact h p0 acc [] (by simp) n
  | W, d :: r, acc, p0, h, n, p, hp => by
    rw [spl32] at hp
    by_cases hd : d = 32
    · rw [if_pos hd] at hp
      rcases List.mem_cons.mp hp with hp | hp
      · rw [hp]
        exact h p0 acc (d :: r) rfl n
      · exact runs_words r [] (p0 ++ acc ++ [d]) (by simpa using h) (by simp) p hp
    · rw [if_neg hd] at hp
      refine runs_words r (acc ++ [d]) p0 (by simpa using h) (fun z => ?_) p hp
      rcases List.mem_append.mp z with z | z
      · exact n z
      · exact hd (List.mem_singleton.mp z).symm
theorem runs_join {W : Nat} : ∀ {ps : List (List Nat)}, (∀ p ∈ ps, p.length ≤ W) → Runs W (joinL [32] ps)
  | [], _ => fun a b c e _ => by
    have e : ([] : List Nat) = a ++ b ++ c := e
    have := congrArg List.length e
    rw [List.length_append, List.length_append] at this
    have z : ([] : List Nat).length = 0 := rfl
    omega
  | [p], h => (runs_short (l := p)).mono (h p (List.mem_cons_self ..))
  | p :: q :: r, h => by
    show Runs W (p ++ ([32] ++ joinL [32] (q :: r)))
    exact runs_space ((runs_short (l := p)).mono (h p (List.mem_cons_self ..))) (runs_join fun z hz => h z (List.mem_cons_of_mem _ hz))
/-- how long words are when put together -/
def wsum : List (List Nat) → Nat
  | [] => 0
  | p :: r => p.length + 1 + wsum r
theorem wsum_app : ∀ (a b : List (List Nat)), wsum (a ++ b) = wsum a + wsum b
  | [], b => by simp [wsum]
  | p :: r, b => by
    show p.length + 1 + wsum (r ++ b) = p.length + 1 + wsum r + wsum b
    rw [wsum_app r b]
    omega
theorem wsum_spl : ∀ (l acc : List Nat), wsum (spl [32] 0 acc l) = acc.length + l.length + 1
  | [], acc => by rw [TL.spl_nil]; rfl
  | d :: r, acc => by
    rw [spl32]
    by_cases hd : d = 32
    · rw [if_pos hd]
      show acc.length + 1 + wsum (spl [32] 0 [] r) = _
      rw [wsum_spl r [], List.length_cons]
      simp only [List.length_nil]
      omega
    · rw [if_neg hd, wsum_spl r _, List.length_append, List.length_cons, List.length_cons]
      simp only [List.length_nil]
      omega
theorem join_len : ∀ (ps : List (List Nat)), (joinL [32] ps).length ≤ wsum ps
  | [] => Nat.zero_le _
  | [p] => by show p.length ≤ p.length + 1 + 0; omega
  | p :: q :: r => by
    have h := join_len (q :: r)
    show (p ++ ([32] ++ joinL [32] (q :: r))).length ≤ p.length + 1 + wsum (q :: r)
    rw [List.length_append, List.length_append]
    have e : ([32] : List Nat).length = 1 := rfl
    omega
theorem join_mem {c : Nat} : ∀ {ps : List (List Nat)}, c ∈ joinL [32] ps → c = 32 ∨ ∃ p ∈ ps, c ∈ p
  | [], h => by cases h
  | [p], h => .inr ⟨p, List.mem_cons_self .., h⟩
  | p :: q :: r, h => by
    have h : c ∈ p ++ ([32] ++ joinL [32] (q :: r)) := h
    rcases List.mem_append.mp h with h | h
    · exact .inr ⟨p, List.mem_cons_self .., h⟩
    · rcases List.mem_append.mp h with h | h
      · exact .inl (List.mem_singleton.mp h)
      · rcases join_mem h with z | ⟨p', h1, h2⟩
        · exact .inl z
        · exact .inr ⟨p', List.mem_cons_of_mem _ h1, h2⟩
theorem spl_in : ∀ (l acc : List Nat) (p : List Nat), p ∈ spl [32] 0 acc l → ∀ c ∈ p, c ∈ acc ++ l
  | [], acc, p, h, c, hc => by
    rw [TL.spl_nil] at h
    rw [List.mem_singleton.mp h] at hc
    exact List.mem_append_left _ hc
  | d :: r, acc, p, h, c, hc => by
    rw [spl32] at h
    by_cases hd : d = 32
    · rw [if_pos hd] at h
      rcases List.mem_cons.mp h with h | h
      · rw [h] at hc
        exact List.mem_append_left _ hc
      · have := spl_in r [] p h c hc
        exact List.mem_append_right _ (List.mem_cons_of_mem _ (by simpa using this))
    · rw [if_neg hd] at h
      have := spl_in r (acc ++ [d]) p h c hc
      simpa using this
/-! of texts -/
def spW (s : Str) : List Str := Txt.split s " "
theorem tl_spc : tl (" " : Str) = [32] := rfl
theorem words_tl (s : Str) : (spW s).map tl = spl [32] 0 [] (tl s) := by
  unfold spW
  rw [TL.split_spl s " " (by rw [tl_spc]; simp) (TL.kind_ok (by decide +kernel)), tl_spc]
/-- a text: its signs, its length, its runs -/
structure Txt0 (L W : Nat) (s : Str) : Prop where
  asc : ∀ c ∈ tl s, c < 128
  len : s.length ≤ L
  run : Runs W (tl s)
theorem Txt0.word {L W : Nat} {s : Str} (h : Txt0 L W s) {w : Str} (hw : w ∈ spW s) : w.length ≤ W ∧ ∀ c ∈ tl w, c < 128 := by
  have hm : tl w ∈ spl [32] 0 [] (tl s) := by rw [← words_tl]; exact List.mem_map_of_mem hw
  refine ⟨?_, fun c hc => h.asc c ?_⟩
  · rw [len_tl]
    exact runs_words (tl s) [] [] (by simpa using h.run) (by simp) _ hm
  · have := spl_in (tl s) [] _ hm c hc
    simpa using this
theorem words_sum (s : Str) : wsum ((spW s).map tl) = s.length + 1 := by
  rw [words_tl, wsum_spl, len_tl]
  simp
theorem words_mem {s : Str} {c : Nat} (h : c ∈ tl s) : c = 32 ∨ ∃ w ∈ spW s, c ∈ tl w := by
  rcases spl_mem (tl s) [] c (by simpa using h) with z | ⟨p, h1, h2⟩
  · exact .inl z
  · rw [← words_tl] at h1
    obtain ⟨w, hw, rfl⟩ := List.mem_map.mp h1
    exact .inr ⟨w, hw, h2⟩
theorem wsum_le : ∀ (ps : List (List Nat)), ps.length ≤ wsum ps
  | [] => Nat.le_refl _
  | p :: r => by
    show r.length + 1 ≤ p.length + 1 + wsum r
    have := wsum_le r
    omega
theorem words_len (s : Str) : (spW s).length ≤ s.length + 1 := by
  have := wsum_le ((spW s).map tl)
  rw [words_sum, List.length_map] at this
  exact this
theorem words_pos (s : Str) : 0 < (spW s).length := by
  have h : ∀ (l acc : List Nat), 0 < (spl [32] 0 acc l).length := by
    intro l
    induction l with
    | nil => intro acc; rw [TL.spl_nil]; exact Nat.one_pos
    | cons d r ih =>
      intro acc
      rw [spl32]
      split
      · exact Nat.succ_pos _
      · exact ih _
  have := h (tl s) []
  rw [← words_tl, List.length_map] at this
  exact this
/-- a text put together of words -/
theorem txt_join {L W : Nat} {ws : List Str} (h : ∀ w ∈ ws, w.length ≤ W ∧ ∀ c ∈ tl w, c < 128) (hl : wsum (ws.map tl) ≤ L) : Txt0 L W (Txt.join " " ws) := by
  have e : tl (Txt.join " " ws) = joinL [32] (ws.map tl) := by rw [TL.join_eq, TL.tl_join, tl_spc]
  refine ⟨fun c hc => ?_, ?_, ?_⟩
  · rw [e] at hc
    rcases join_mem hc with z | ⟨p, h1, h2⟩
    · omega
    · obtain ⟨w, hw, rfl⟩ := List.mem_map.mp h1
      exact (h w hw).2 c h2
  · rw [len_tl, e]
    exact Nat.le_trans (join_len _) hl
  · rw [e]
    refine runs_join fun p hp => ?_
    obtain ⟨w, hw, rfl⟩ := List.mem_map.mp hp
    rw [← len_tl]
    exact (h w hw).1
/-- .. of two parts with at most one sign between them -/
theorem txt_mid {L W : Nat} {s : Str} {x m0 y m : List Nat} (h : Txt0 L W s) (e : tl s = x ++ m0 ++ y) (hm : m.length ≤ 1) (ha : ∀ c ∈ m, c < 128) {s' : Str} (e' : tl s' = x ++ m ++ y) : Txt0 (L + 1) (2 * W + 1) s' := by
  refine ⟨fun c hc => ?_, ?_, ?_⟩
  · rw [e'] at hc
    rcases List.mem_append.mp hc with hc | hc
    · rcases List.mem_append.mp hc with hc | hc
      · exact h.asc c (by rw [e]; exact List.mem_append_left _ (List.mem_append_left _ hc))
      · exact ha c hc
    · exact h.asc c (by rw [e]; exact List.mem_append_right _ hc)
  · have h1 := h.len
    rw [len_tl, e, List.length_append, List.length_append] at h1
    rw [len_tl, e', List.length_append, List.length_append]
    omega
  · have h1 := h.run
    rw [e] at h1
    rw [e']
    refine (runs_app (runs_app h1.left.left ((runs_short (l := m)).mono hm)) h1.right).mono (by omega)
end Lamp
set_option Elab.async false
set_option linter.all false
set_option maxRecDepth 100000
set_option maxHeartbeats 1000000
namespace Lamp
open PySem PySem.Spec PyProof.Rows L2 LamX
open TL (tl tl_append ext_tl numL tl_ofString len_tl)
abbrev sReadInt : Stmt := top 11
abbrev sReadLamp : Stmt := top 13
abbrev sReadLamps : Stmt := top 14
abbrev sReadParts : Stmt := top 15
theorem le_line {n : Nat} (h : n ≤ 1000) : n ≤ sizeLine := Nat.le_of_lt (small1000 h)
/-! words, as the program reads them -/
def figV : Option Int → V
  | none => .non
  | some n => .int n
def figTT : Option Int → T
  | none => .non
  | some n => .int n
theorem an_fig {K : PySem.W.Frag} {H : Hp} (o : Option Int) : An K H (figV o) (figTT o) := by
  cases o with
  | none => exact .non
  | some n => exact .int n
def lampD : Option (Int × Int) → PyData
  | none => .none
  | some q => .tuple [.int q.1, .int q.2]
def allL : List Str → Option (List (Int × Int))
  | [] => some []
  | w :: r => match lampF w, allL r with
    | some q, some qs => some (q :: qs)
    | _, _ => none
def lampsF (ws : List Str) : Option (List (Int × Int)) := if ws = [("dark" : Str)] then some [] else match ws with
  | w :: r => if w = ("lamps" : Str) ∧ r ≠ [] then allL r else none
  | [] => none
def partsF (ws : List Str) : Option (Int × List (Int × Int) × Int) := match ws with
  | a :: p :: b :: e :: x :: r => if a = ("levels" : Str) ∧ b = ("end" : Str) then (match figS p, figS e, lampsF (x :: r) with
      | some p, some e, some ls => some (p, ls, e)
      | _, _, _ => none) else none
  | _ => none
theorem allL_some : ∀ {r : List Str} {ls : List (Int × Int)}, allL r = some ls → r.map lampF = ls.map some
  | [], ls, h => by
    have h : some [] = some ls := h
    cases h
    rfl
  | w :: r, ls, h => by
    unfold allL at h
    split at h
    · rename_i q qs e1 e2
      cases h
      rw [List.map_cons, List.map_cons, e1, allL_some e2]
    · cases h
theorem allL_none : ∀ {r : List Str}, allL r = none → (r.map lampF).any (·.isNone) = true
  | [], h => by cases h
  | w :: r, h => by
    unfold allL at h
    rw [List.map_cons, List.any_cons]
    cases e1 : lampF w with
    | none => rfl
    | some q =>
      cases e2 : allL r with
      | none => rw [allL_none e2, Bool.or_true]
      | some qs =>
        rw [e1, e2] at h
        cases h
/-- what stands for a lamp -/
def LV (H : Hp) (v : V) : Option (Int × Int) → Prop
  | none => v = .non
  | some q => ∃ a, v = .ref a ∧ H a = some (.tup [.int q.1, .int q.2])
theorem LV.same {H H' : Hp} {v : V} : ∀ {o : Option (Int × Int)}, LV H v o → Same H H' → LV H' v o
  | none, h, _ => h
  | some q, ⟨a, e, h⟩, s => ⟨a, e, s _ _ h⟩
theorem dp_lv {K : PySem.W.Frag} {H : Hp} : ∀ {vs : List V} {os : List (Option (Int × Int))}, Paired (LV H) vs os → DpAll K H vs (os.map lampD)
  | _, _, .nil => .nil
  | _, _, .cons (b := none) h t => by
    have h : _ = V.non := h
    subst h
    exact .cons .non (dp_lv t)
  | _, _, .cons (b := some q) h t => by
    obtain ⟨a, e, h⟩ := h
    subst e
    exact .cons (.tup (SqT.of h) (.cons (.int _) (.cons (.int _) .nil))) (dp_lv t)
theorem lv_all {H : Hp} : ∀ {vs : List V} {ls : List (Int × Int)}, Paired (LV H) vs (ls.map some) → ∃ as : List Addr, vs = as.map V.ref ∧ Paired (fun a (q : Int × Int) => H a = some (.tup [.int q.1, .int q.2])) as ls
  | _, [], .nil => ⟨[], rfl, .nil⟩
  | _, q :: ls, .cons h t => by
    obtain ⟨a, e, h⟩ := h
    obtain ⟨as, e2, h2⟩ := lv_all t
    exact ⟨a :: as, by rw [e, e2]; rfl, .cons h h2⟩
theorem any_none (os : List (Option (Int × Int))) : ((os.map lampD).any fun z => PyData.eqv z .none) = os.any (·.isNone) := by
  rw [List.any_map]
  congr 1
  funext o
  cases o with
  | none => rfl
  | some q => rfl
theorem lay_lampD : ∀ os : List (Option (Int × Int)), PyData.canLayAll0 (os.map lampD) = true ∧ PyData.depthAll (os.map lampD) ≤ 1
  | [] => ⟨rfl, by decide⟩
  | o :: r => by
    obtain ⟨h1, h2⟩ := lay_lampD r
    cases o with
    | none =>
      refine ⟨?_, ?_⟩
      · show (true && PyData.canLayAll0 (r.map lampD)) = true
        rw [h1]; rfl
      · show max 0 (PyData.depthAll (r.map lampD)) ≤ 1
        omega
    | some q =>
      refine ⟨?_, ?_⟩
      · show ((true && (true && true)) && PyData.canLayAll0 (r.map lampD)) = true
        rw [h1]; rfl
      · show max (max 0 (max 0 0) + 1) (PyData.depthAll (r.map lampD)) ≤ 1
        omega
theorem shaped_lampD (os : List (Option (Int × Int))) : SeqAt.shaped (.list (os.map lampD)) = true := by
  obtain ⟨h1, h2⟩ := lay_lampD os
  unfold SeqAt.shaped
  rw [Bool.and_eq_true]
  refine ⟨h1, decide_eq_true ?_⟩
  show PyData.depthAll (os.map lampD) + 1 ≤ 64
  omega
theorem str_ok {x : Str} (h : ∀ c ∈ tl x, c < 128) : PyData.strOk x = true := by
  unfold PyData.strOk
  rw [all_tl, List.all_eq_true]
  intro c hc
  have := h c hc
  exact decide_eq_true (by omega)
theorem lay_strs : ∀ {xs : List Str}, (∀ x ∈ xs, ∀ c ∈ tl x, c < 128) → PyData.canLayAll0 (xs.map PyData.str) = true ∧ PyData.depthAll (xs.map PyData.str) ≤ 0
  | [], _ => ⟨rfl, by decide⟩
  | x :: r, h => by
    obtain ⟨h1, h2⟩ := lay_strs (xs := r) fun y hy => h y (List.mem_cons_of_mem _ hy)
    refine ⟨?_, ?_⟩
    · show (PyData.strOk x && PyData.canLayAll0 (r.map PyData.str)) = true
      rw [h1, str_ok (h x (List.mem_cons_self ..))]
      rfl
    · show max 0 (PyData.depthAll (r.map PyData.str)) ≤ 0
      omega
theorem shaped_strs {xs : List Str} (h : ∀ x ∈ xs, ∀ c ∈ tl x, c < 128) : SeqAt.shaped (.list (xs.map PyData.str)) = true := by
  obtain ⟨h1, h2⟩ := lay_strs h
  unfold SeqAt.shaped
  rw [Bool.and_eq_true]
  refine ⟨h1, decide_eq_true ?_⟩
  show PyData.depthAll (xs.map PyData.str) + 1 ≤ 64
  omega
theorem dp_strs {K : PySem.W.Frag} {H : Hp} : ∀ (xs : List Str), DpAll K H (xs.map V.str) (xs.map PyData.str)
  | [] => .nil
  | x :: xs => .cons (.str x) (dp_strs xs)
theorem eqv_strs : ∀ (xs ys : List Str), PyData.eqvAll (xs.map PyData.str) (ys.map PyData.str) = decide (xs = ys)
  | [], [] => rfl
  | [], y :: ys => rfl
  | x :: xs, [] => rfl
  | x :: xs, y :: ys => by
    show ((x == y) && PyData.eqvAll (xs.map PyData.str) (ys.map PyData.str)) = _
    rw [eqv_strs xs ys, Bool.eq_iff_iff, Bool.and_eq_true, beq_iff_eq, decide_eq_true_eq, decide_eq_true_eq, List.cons.injEq]
def spReadInt : Sp := fun vs H Q _ => ∃ w : Str, vs = [.str w] ∧ w.length ≤ 560 ∧ Q (figV (figS w)) H
def spReadLamp : Sp := fun vs H Q _ => ∃ w : Str, vs = [.str w] ∧ w.length ≤ 560 ∧ ∀ v H', Same H H' → LV H' v (lampF w) → Q v H'
def spReadLamps : Sp := fun vs H Q _ => ∃ (wl : Addr) (ws : List Str), vs = [.ref wl] ∧ H wl = some (.lst (ws.map V.str)) ∧ ws ≠ [] ∧ ws.length ≤ 900 ∧ (∀ w ∈ ws, w.length ≤ 560 ∧ ∀ c ∈ tl w, c < 128) ∧
  (lampsF ws = none → ∀ H', Same H H' → Q .non H') ∧ ∀ ls, lampsF ws = some ls → ∀ t H', Same H H' → (∃ as : List Addr, H' t = some (.tup (as.map V.ref)) ∧ Paired (fun a (q : Int × Int) => H' a = some (.tup [.int q.1, .int q.2])) as ls) → Q (.ref t) H'
def spReadParts : Sp := fun vs H Q _ => ∃ (s : Str) (L W : Nat), vs = [.str s] ∧ Txt0 L W s ∧ L ≤ 800 ∧ W ≤ 560 ∧ (partsF (spW s) = none → ∀ H', Same H H' → Q .non H') ∧
  ∀ p ls e, partsF (spW s) = some (p, ls, e) → ∀ l t H', Same H H' → H' l = some (.tup [.int p, .ref t, .int e]) → (∃ as : List Addr, H' t = some (.tup (as.map V.ref)) ∧ Paired (fun a (q : Int × Int) => H' a = some (.tup [.int q.1, .int q.2])) as ls) → Q (.ref l) H'
section
variable {P : Program} {w : World} {K : PySem.W.Frag} {mg : Str → Option Value} {base : Heap}
theorem scReadInt : FnScope ["word", "digits", "number"] ["word"] (defScope sReadInt) := ⟨rfl, rfl, rfl, by decide +kernel, rfl, by decide +kernel, by decide +kernel⟩
theorem scReadLamp : FnScope ["word", "first", "_", "second", "place", "level"] ["word"] (defScope sReadLamp) := ⟨rfl, rfl, rfl, by decide +kernel, rfl, by decide +kernel, by decide +kernel⟩
theorem scReadLamps : FnScope ["words", "lamps", "word"] ["words"] (defScope sReadLamps) := ⟨rfl, rfl, rfl, by decide +kernel, rfl, by decide +kernel, by decide +kernel⟩
theorem scReadParts : FnScope ["text", "words", "levels", "end", "lamps"] ["text"] (defScope sReadParts) := ⟨rfl, rfl, rfl, by decide +kernel, rfl, by decide +kernel, by decide +kernel⟩
theorem ok_readInt {f : Addr} {fd : FuncData} (F : Fun K "read_integer" "read_integer" sReadInt f fd) (mi : mg "int" = none) (ms : mg "str" = none) : FnOk P w K mg base CX0 1 f fd ["word"] spReadInt := by
  refine F.ok scReadInt (fun vs H Q E h => ?_) (fun cdv A outer s H vs Q E hr h => ?_)
  · obtain ⟨i, rfl, _⟩ := h
    rfl
  · obtain ⟨x, rfl, hl, q⟩ := h
    refine ⟨_, pss_cons (ps_set (i := 1) scReadInt.nd rfl (.inl rfl) (pe_m1 PySem.F.slot_str_removeprefix PySem.F.type_str_removeprefix mt_removeprefix (pv 0) pe_str))
      (pss_cons (ps_if (PW.pt (pw_or (pt_not (pt_val (pe_m0 PySem.F.slot_str_isascii PySem.F.type_str_isascii mt_isascii (pv 1)))) (pw_or1 (pt_not (pt_val (pe_m0 PySem.F.slot_str_isdigit PySem.F.type_str_isdigit mt_isdigit (pv 1))))))) (pss_one (ps_ret pe_non)) pss_nil)
      (pss_cons (ps_set (i := 2) scReadInt.nd rfl (.inl rfl) (pe_callTy call_int_str (by rfl) mi (by decide +kernel) (pa_cons (pv 0) pa_nil)))
      (pss_cons (ps_if (pt_cmpR op_ne (pe_callTy call_str_int (by rfl) ms (by decide +kernel) (pa_cons (pv 2) pa_nil)) (pv 0) (nomark _)) (pss_one (ps_ret pe_non)) pss_nil)
      (pss_one (ps_ret (pv 2)))))), ?_⟩
    refine sq_set (v := .str (Txt.removeprefix x "-")) (fun Q q => ⟨_, rfl, ⟨_, rfl⟩, _, _, rfl, rfl, le_line (by omega), q⟩) ?_
    have aA : ∀ b, Txt.isascii (Txt.removeprefix x "-") = b → Ans (tNot (tB (tM0 (fun x xs H Q => ∃ a, x = .str a ∧ xs = [] ∧ True ∧ Q (.bl (Txt.isascii a)) H) (tVar 1)))) [some (.str x), some (.str (Txt.removeprefix x "-")), none] H (!b) := fun b e => ans_not (ans_val fun Q q => ⟨_, rfl, ⟨_, rfl⟩, _, rfl, rfl, trivial, by rw [e]; exact q⟩)
    have aD : ∀ b, Txt.isdigit (Txt.removeprefix x "-") = b → Ans (tNot (tB (tM0 (fun x xs H Q => ∃ a, x = .str a ∧ xs = [] ∧ True ∧ Q (.bl (Txt.isdigit a)) H) (tVar 1)))) [some (.str x), some (.str (Txt.removeprefix x "-")), none] H (!b) := fun b e => ans_not (ans_val fun Q q => ⟨_, rfl, ⟨_, rfl⟩, _, rfl, rfl, trivial, by rw [e]; exact q⟩)
    have bo := bare_ok (w := x)
    cases ok : okW x with
    | false =>
      rw [ok] at bo
      rw [fig_no ok] at q
      cases e1 : Txt.isascii (Txt.removeprefix x "-") with
      | false =>
        refine sq_yes (ans_or1 (aA false e1)) ?_
        exact st_ret val_c q
      | true =>
        rw [e1, Bool.true_and] at bo
        refine sq_yes (ans_or (aA true e1) (aD false bo)) ?_
        exact st_ret val_c q
    | true =>
      rw [ok, Bool.and_eq_true] at bo
      refine sq_no (ans_or (aA true bo.1) (aD true bo.2)) ?_
      obtain ⟨n, hn, hb⟩ := okW_int ok hl
      refine sq_set (v := .int n) (fun Q q => ⟨_, rfl, _, n, rfl, hn, by omega, q⟩) ?_
      rw [fig_yes ok hn] at q
      by_cases e : nS n = x
      · rw [if_pos e] at q
        refine sq_no (ans_ne (x := .str (nS n)) (y := .str x) (fun Q q => ⟨_, rfl, n, rfl, log_big hb, q⟩) (val_var rfl) rfl (by rw [decide_eq_true (by rw [e])]; rfl)) ?_
        exact st_ret (val_var rfl) q
      · rw [if_neg e] at q
        refine sq_yes (ans_ne (x := .str (nS n)) (y := .str x) (fun Q q => ⟨_, rfl, n, rfl, log_big hb, q⟩) (val_var rfl) rfl (by rw [decide_eq_false (fun z => e (V.str.inj z))]; rfl)) ?_
        exact st_ret val_c q
theorem part_len (w : Str) : (Txt.partition w ":").1.length ≤ w.length ∧ (Txt.partition w ":").2.2.length ≤ w.length := by
  rcases colon_cases w with ⟨_, e, _⟩ | ⟨a, b, _, e1, e, _⟩
  · rw [e]
    exact ⟨Nat.le_refl _, Nat.zero_le _⟩
  · rw [e]
    have h := congrArg List.length e1
    rw [List.length_append, List.length_cons, ← len_tl, ← len_tl, ← len_tl] at h
    exact ⟨by show a.length ≤ _; omega, by show b.length ≤ _; omega⟩
theorem isN_fig {σ : L2.St} {H : Hp} {i : Nat} {o : Option Int} (h : σ[i]? = some (some (figV o))) : Ans (tTest (tOp rIsN (tVar i) (tC .non))) σ H o.isNone := by
  refine ans_isN (x := figV o) (val_var h) ?_
  cases o with
  | none => exact decide_eq_true rfl
  | some n => exact decide_eq_false fun z => by cases z
theorem ok_readLamp {f : Addr} {fd : FuncData} (F : Fun K "read_lamp" "read_lamp" sReadLamp f fd) (R : Dr P w K mg base spReadInt "read_integer" ["word"] 1) : FnOk P w K mg base CX0 2 f fd ["word"] spReadLamp := by
  refine F.ok scReadLamp (fun vs H Q E h => ?_) (fun cdv A outer s H vs Q E hr h => ?_)
  · obtain ⟨q, rfl, _⟩ := h
    rfl
  · obtain ⟨x, rfl, hl, q⟩ := h
    refine ⟨_, pss_cons (ps_asg (pe_partition (pv 0) pe_str) (pg_tup rfl (pgs_cons (pg_name (i := 1) scReadLamp.nd rfl (.inl rfl)) (pgs_cons (pg_name (i := 2) scReadLamp.nd rfl (.inl rfl)) (pgs_cons (pg_name (i := 3) scReadLamp.nd rfl (.inl rfl)) pgs_nil)))))
      (pss_cons (ps_set (i := 4) scReadLamp.nd rfl (.inl rfl) (pe_dr R (Nat.le_refl _) hr rfl (pa_cons (pv 1) pa_nil)))
      (pss_cons (ps_set (i := 5) scReadLamp.nd rfl (.inl rfl) (pe_dr R (Nat.le_refl _) hr rfl (pa_cons (pv 3) pa_nil)))
      (pss_cons (ps_if (PW.pt (pw_or (pt_cmpR op_isN1 (pv 4) pe_non (nomark _)) (pw_or1 (pt_cmpR op_isN1 (pv 5) pe_non (nomark _))))) (pss_one (ps_ret pe_non)) pss_nil)
      (pss_one (ps_ret (pe_tup (pa_cons (pv 4) (pa_cons (pv 5) pa_nil)))))))), ?_⟩
    obtain ⟨pl1, pl2⟩ := part_len x
    refine ⟨_, rfl, ⟨_, rfl⟩, _, (":" : Str), rfl, rfl, rfl, le_line (by omega), fun p np => ?_⟩
    have s1 := same_of (o := .tup [V.str (Txt.partition x ":").1, V.str (Txt.partition x ":").2.1, V.str (Txt.partition x ":").2.2]) np
    refine ⟨p, _, rfl, SqT.of upd_same, rfl, _, _, rfl, _, _, rfl, _, _, rfl, rfl, ?_⟩
    refine ⟨_, rfl, _, rfl, by omega, ?_⟩
    refine ⟨_, rfl, _, rfl, by omega, ?_⟩
    dsimp only [gName, List.set]
    unfold lampF at q
    cases e1 : figS (Txt.partition x ":").1 with
    | none =>
      rw [e1] at q
      refine sq_yes (ans_or1 (isN_fig (o := none) rfl)) ?_
      exact st_ret val_c (q _ _ s1 rfl)
    | some a =>
      cases e2 : figS (Txt.partition x ":").2.2 with
      | none =>
        rw [e1, e2] at q
        refine sq_yes (ans_or (isN_fig (o := some a) rfl) (isN_fig (o := none) rfl)) ?_
        exact st_ret val_c (q _ _ s1 rfl)
      | some b =>
        rw [e1, e2] at q
        refine sq_no (ans_or (isN_fig (o := some a) rfl) (isN_fig (o := some b) rfl)) ?_
        refine ⟨_, rfl, _, rfl, le_line (by show 2 ≤ 1000; decide), fun t nt => ?_⟩
        exact q _ _ (s1.trans (same_of nt)) ⟨t, rfl, upd_same⟩
end
end Lamp
set_option Elab.async false
set_option linter.all false
set_option maxRecDepth 100000
set_option maxHeartbeats 1000000
namespace Lamp
open PySem PySem.Spec PyProof.Rows L2 LamX
open TL (tl tl_append ext_tl numL tl_ofString len_tl)
theorem cut1 (x : V) (xs : List V) : cutV (x :: xs) (some 1) none = xs := by
  have e : (some (1 : Int)) = some ((1 : Nat) : Int) := rfl
  rw [e, cut_hi]
  rfl
theorem cut4 (xs : List V) : cutV xs (some 4) none = xs.drop 4 := by
  have e : (some (4 : Int)) = some ((4 : Nat) : Int) := rfl
  rw [e, cut_hi]
theorem strs_dark (ws : List Str) : PyData.eqv (.list (ws.map PyData.str)) (.list [.str ("dark" : Str)]) = decide (ws = [("dark" : Str)]) := eqv_strs ws [("dark" : Str)]
section
variable {P : Program} {w : World} {K : PySem.W.Frag} {mg : Str → Option Value} {base : Heap}
theorem ok_readLamps {f : Addr} {fd : FuncData} (F : Fun K "read_lamps" "read_lamps" sReadLamps f fd) (R : Dr P w K mg base spReadLamp "read_lamp" ["word"] 2) (ml : mg "len" = none) (mt : mg "tuple" = none) : FnOk P w K mg base CX0 3 f fd ["words"] spReadLamps := by
  refine F.ok scReadLamps (fun vs H Q E h => ?_) (fun cdv A outer s H vs Q E hr h => ?_)
  · obtain ⟨q, ls, rfl, _⟩ := h
    rfl
  · obtain ⟨wl, ws, rfl, hw, hne, hlen, hwd, qn, q⟩ := h
    have hu := hr.units
    have hu65 := hr.in1.units
    refine ⟨_, pss_cons (ps_if (pt_cmpR (op_eqD hu) (pv 0) (pe_lst (pa_cons pe_str pa_nil)) (nomark _)) (pss_one (ps_ret (pe_tup pa_nil))) pss_nil)
      (pss_cons (ps_if (PW.pt (pw_or (pt_cmpR op_ne (pe_ix ix_list (pv 0) pe_int (fun _ _ => rfl)) pe_str (nomark _)) (pw_or1 (pt_cmpR op_eq (pe_callB call_len_seq (by rfl) ml PySem.boot_len (pa_cons (pv 0) pa_nil)) pe_int (nomark _))))) (pss_one (ps_ret pe_non)) pss_nil)
      (pss_cons (ps_setLc (i := 1) (own := [("word", 2)]) (g := gName 2) (tt := tYes) rfl scReadLamps.nd rfl rfl (sw_true rfl rfl rfl rfl) (pi_list (pe_slice (r := rSlL K) sl_list (pv 0) (po_some pe_int) po_none))
          (blkOk_by (own := [("word", 2)]) (N := ["words", "lamps", "word"]) (sc := defScope sReadLamps) (by decide +kernel)) (fun _ _ _ _ _ => pg_name (i := 2) scReadLamps.nd rfl (Or.inl rfl)) (fun _ _ _ _ _ => pts_nil)
          (fun _ _ _ _ _ => pe_dr R (Nat.le_refl _) hr rfl (pa_cons (pv 2) pa_nil)))
      (pss_cons (ps_if (pt_cmpR (op_inD (by exact hu65)) pe_non (pv 1) (by rfl)) (pss_one (ps_ret pe_non)) pss_nil)
      (pss_one (ps_ret (pe_callTy call_tuple_of (by rfl) mt (by decide +kernel) (pa_cons (pv 1) pa_nil))))))), ?_⟩
    refine ⟨_, rfl, le_line (by show 1 ≤ 1000; decide), fun p np => ?_⟩
    have s1 := same_of (o := .lst [V.str ("dark" : Str)]) np
    refine ⟨.list (ws.map PyData.str), .list [.str ("dark" : Str)], .lst (SqL.of (s1 _ _ hw)) (dp_strs _), .lst (SqL.of upd_same) (.cons (.str _) .nil), shaped_strs fun x hx => (hwd x hx).2, by decide +kernel, _, by rw [strs_dark], ?_⟩
    by_cases hdark : ws = [("dark" : Str)]
    · rw [decide_eq_true hdark]
      refine iteT ?_
      refine ⟨le_line (by show 0 ≤ 1000; decide), fun t nt => ?_⟩
      exact q [] (by unfold lampsF; rw [if_pos hdark]) t _ (s1.trans (same_of nt)) ⟨[], upd_same, .nil⟩
    · rw [decide_eq_false hdark]
      refine iteF ?_
      obtain ⟨w0, r, rfl⟩ : ∃ w0 r, ws = w0 :: r := by
        cases ws with
        | nil => exact absurd rfl hne
        | cons w0 r => exact ⟨w0, r, rfl⟩
      have el : lampsF (w0 :: r) = if w0 = ("lamps" : Str) ∧ r ≠ [] then allL r else none := by
        unfold lampsF
        rw [if_neg hdark]
      have hw1 := s1 _ _ hw
      have a0 : Val (tOp (rIxL K) (tVar 0) (tC (.int 0))) [some (.ref wl), none, none] (upd H p (.lst [V.str ("dark" : Str)])) (.str w0) := val_op (val_var rfl) val_c (lv_ix hw1 (L2.at_of (j := 0) rfl rfl))
      by_cases h0 : w0 = ("lamps" : Str)
      · have n1 := ans_ne (x := .str w0) (y := .str ("lamps" : Str)) (b := false) a0 val_c rfl (by rw [decide_eq_true (by rw [h0])]; rfl)
        by_cases hr0 : r = []
        · refine sq_yes (ans_or n1 (ans_eq (x := .int ((((w0 :: r).map V.str).length : Nat) : Int)) (y := .int 1) (lv_len (val_var rfl) (SqL.of hw1)) val_c rfl (decide_eq_true (by rw [hr0]; rfl)))) ?_
          exact st_ret val_c (qn (by rw [el, if_neg fun z => z.2 hr0]) _ s1)
        · refine sq_no (ans_or n1 (ans_eq (x := .int ((((w0 :: r).map V.str).length : Nat) : Int)) (y := .int 1) (lv_len (val_var rfl) (SqL.of hw1)) val_c rfl (decide_eq_false fun z => ?_))) ?_
          · have z := V.int.inj z
            rw [List.length_map, List.length_cons] at z
            exact hr0 (List.length_eq_zero_iff.mp (by omega))
          rw [if_pos ⟨h0, hr0⟩] at el
          have ew : (w0 :: r).map V.str = V.str w0 :: r.map V.str := rfl
          rw [ew] at hw1
          refine ⟨_, rfl, 1, rfl, wl, _, rfl, SqL.of hw1, fun c nc => ⟨c, rfl, ⟨_, SqL.of upd_same⟩, fun D hD => ?_⟩⟩
          rw [cut1] at *
          have s2 := s1.trans (same_of (o := .lst (r.map V.str)) nc)
          have hc : (upd (upd H p (.lst [V.str ("dark" : Str)])) c (.lst (r.map V.str))) c = some (.lst (r.map V.str)) := upd_same
          revert hD hc s2
          generalize (upd (upd H p (.lst [V.str ("dark" : Str)])) c (.lst (r.map V.str))) = Hb
          intro hD s2 hc
          have hrl : r.length ≤ 900 := by rw [List.length_cons] at hlen; omega
          refine lc_list (K := K) (a := c) (xs := r.map V.str) (fun i H' => Same Hb H' ∧ ∃ vs : List V, H' D = some (.lst vs) ∧ Paired (fun v o => LV H' v o ∧ v ≠ .ref D) vs ((r.take i).map lampF))
            ⟨same_of hD, [], upd_same, by rw [List.take_zero]; exact .nil⟩ (fun i H' _ z => SqL.of (z.1 _ _ hc)) (fun i x H' hi z => ?_) (fun H' z => ?_)
          · obtain ⟨sb, vs, hlD, hpa⟩ := z
            rw [List.getElem?_map] at hi
            cases eq : r[i]? with
            | none => rw [eq] at hi; cases hi
            | some ww =>
              rw [eq] at hi
              have ex : x = V.str ww := (Option.some.inj hi).symm
              subst ex
              have hww := hwd ww (List.mem_cons_of_mem _ (List.mem_of_getElem? eq))
              refine ⟨rfl, ?_⟩
              refine ⟨_, rfl, ww, rfl, hww.1, fun v H2 s3 hv => ?_⟩
              have lD2 := s3 _ _ hlD
              have vD : v ≠ .ref D := fun e => by
                cases ol : lampF ww with
                | none =>
                  rw [ol] at hv
                  have hv : v = .non := hv
                  rw [e] at hv
                  cases hv
                | some qq =>
                  rw [ol] at hv
                  obtain ⟨a, ea, ha⟩ := hv
                  rw [e] at ea
                  cases ea
                  rw [lD2] at ha
                  cases ha
              have keep : ∀ {v' : V} {o : Option (Int × Int)} {vs' : List V}, LV H2 v' o → v' ≠ .ref D → LV (upd H2 D (.lst vs')) v' o := fun {v' o vs'} h n => by
                cases o with
                | none => exact h
                | some qq =>
                  obtain ⟨a, ea, ha⟩ := h
                  refine ⟨a, ea, ?_⟩
                  rw [upd_ne (fun z => n (by rw [ea, z]))]
                  exact ha
              refine ⟨vs, lD2, ?_, fun b' o e => ?_, vs ++ [v], upd_same, ?_⟩
              · have hl1 := Paired.length hpa
                rw [List.length_map, List.length_take] at hl1
                exact small1000 (by omega)
              · have nb : b' ≠ D := fun z => by rw [z, hD] at e; cases e
                rw [upd_ne nb]
                exact s3 _ _ (sb _ _ e)
              · rw [List.take_add_one, eq]
                rw [List.map_append]
                exact paired_app (L2.Paired.mapP hpa fun v' o hz => ⟨keep (hz.1.same s3) hz.2, hz.2⟩) (.cons ⟨keep hv vD, vD⟩ .nil)
          · obtain ⟨sb, vs, hlD, hpa⟩ := z
            rw [List.length_map, List.take_length] at hpa
            have hpb : Paired (LV H') vs (r.map lampF) := L2.Paired.mapP hpa fun v o hz => hz.1
            refine ⟨_, rfl, .none, (r.map lampF).map lampD, .non, .lst (SqL.of hlD) (dp_lv hpb), by decide +kernel, shaped_lampD _, _, by rw [any_none], ?_⟩
            cases ea : allL r with
            | none =>
              rw [allL_none ea]
              refine iteT ?_
              exact st_ret val_c (qn (el.trans ea) _ (s2.trans sb))
            | some ls =>
              have em := allL_some ea
              have nn : (r.map lampF).any (·.isNone) = false := by
                rw [em, List.any_map]
                exact List.any_eq_false.mpr fun q _ => Bool.false_ne_true
              rw [nn]
              refine iteF ?_
              rw [em] at hpb
              obtain ⟨as, rfl, hps⟩ := lv_all hpb
              refine ⟨_, rfl, D, as.map V.ref, rfl, .inl ⟨SqL.of hlD, fun t nt => ?_⟩⟩
              have s4 := same_of (o := .tup (as.map V.ref)) nt
              exact q ls (el.trans ea) t _ ((s2.trans sb).trans s4) ⟨as, upd_same, L2.Paired.mapP hps fun a qq hz => s4 _ _ hz⟩
      · refine sq_yes (ans_or1 (ans_ne (x := .str w0) (y := .str ("lamps" : Str)) a0 val_c rfl (by rw [decide_eq_false (fun z => h0 (V.str.inj z))]; rfl))) ?_
        exact st_ret val_c (qn (by rw [el, if_neg fun z => h0 z.1]) _ s1)
theorem five {ws : List Str} (h : ¬ ws.length < 5) : ∃ a p b e x r, ws = a :: p :: b :: e :: x :: r := by
  match ws, h with
  | [], h => exact absurd (by simp) h
  | [_], h => exact absurd (by simp) h
  | [_, _], h => exact absurd (by simp) h
  | [_, _, _], h => exact absurd (by simp) h
  | [_, _, _, _], h => exact absurd (by simp) h
  | a :: p :: b :: e :: x :: r, _ => exact ⟨a, p, b, e, x, r, rfl⟩
theorem parts_short {ws : List Str} (h : ws.length < 5) : partsF ws = none := by
  match ws, h with
  | [], _ => rfl
  | [_], _ => rfl
  | [_, _], _ => rfl
  | [_, _, _], _ => rfl
  | [_, _, _, _], _ => rfl
  | _ :: _ :: _ :: _ :: _ :: _, h => simp at h; omega
theorem ok_readParts {f : Addr} {fd : FuncData} (F : Fun K "read_parts" "read_parts" sReadParts f fd) (R : Dr P w K mg base spReadInt "read_integer" ["word"] 1) (Ls : Dr P w K mg base spReadLamps "read_lamps" ["words"] 3) (ml : mg "len" = none) : FnOk P w K mg base CX0 4 f fd ["text"] spReadParts := by
  refine F.ok scReadParts (fun vs H Q E h => ?_) (fun cdv A outer s H vs Q E hr h => ?_)
  · obtain ⟨lv, fin, ls, rfl, _⟩ := h
    rfl
  · obtain ⟨x, L, W, rfl, hx, hL, hW, qn, q⟩ := h
    have hlx := hx.len
    refine ⟨_, pss_cons (ps_set (i := 1) scReadParts.nd rfl (.inl rfl) (pe_split (pv 0) pe_str))
      (pss_cons (ps_if (PW.pt (pw_or (pt_cmpR op_lt (pe_callB call_len_seq (by rfl) ml PySem.boot_len (pa_cons (pv 1) pa_nil)) pe_int (nomark _)) (pw_or (pt_cmpR op_ne (pe_ix ix_list (pv 1) pe_int (fun _ _ => rfl)) pe_str (nomark _)) (pw_or1 (pt_cmpR op_ne (pe_ix ix_list (pv 1) pe_int (fun _ _ => rfl)) pe_str (nomark _)))))) (pss_one (ps_ret pe_non)) pss_nil)
      (pss_cons (ps_set (i := 2) scReadParts.nd rfl (.inl rfl) (pe_dr R (by decide) hr rfl (pa_cons (pe_ix ix_list (pv 1) pe_int (fun _ _ => rfl)) pa_nil)))
      (pss_cons (ps_set (i := 3) scReadParts.nd rfl (.inl rfl) (pe_dr R (by decide) hr rfl (pa_cons (pe_ix ix_list (pv 1) pe_int (fun _ _ => rfl)) pa_nil)))
      (pss_cons (ps_set (i := 4) scReadParts.nd rfl (.inl rfl) (pe_dr Ls (Nat.le_refl _) hr rfl (pa_cons (pe_slice (r := rSlL K) sl_list (pv 1) (po_some pe_int) po_none) pa_nil)))
      (pss_cons (ps_if (PW.pt (pw_or (pt_cmpR op_isN1 (pv 2) pe_non (nomark _)) (pw_or (pt_cmpR op_isN1 (pv 3) pe_non (nomark _)) (pw_or1 (pt_cmpR op_isN1 (pv 4) pe_non (nomark _)))))) (pss_one (ps_ret pe_non)) pss_nil)
      (pss_one (ps_ret (pe_tup (pa_cons (pv 2) (pa_cons (pv 4) (pa_cons (pv 3) pa_nil))))))))))), ?_⟩
    refine ⟨_, rfl, ⟨_, rfl⟩, _, (" " : Str), rfl, rfl, rfl, ?_, ?_⟩
    · have : (1000 : Nat) ≤ sizeLine := by decide
      omega
    intro wl nwl
    have s1 := same_of (o := .lst ((spW x).map V.str)) nwl
    have h1 : (upd H wl (.lst ((spW x).map V.str))) wl = some (.lst ((spW x).map V.str)) := upd_same
    have hwd : ∀ y ∈ spW x, y.length ≤ 560 ∧ ∀ c ∈ tl y, c < 128 := fun y hy => ⟨Nat.le_trans (hx.word hy).1 hW, (hx.word hy).2⟩
    have hcnt := words_len x
    show tSeq _ _ _ _ (upd H wl (.lst ((spW x).map V.str)))
    revert s1 h1 hwd hcnt qn q
    generalize (upd H wl (.lst ((spW x).map V.str))) = H1
    generalize spW x = ws
    intro qn q s1 h1 hwd hcnt
    have hl0 : Val (tCB (fun xs H Q => ∃ p ys, xs = [.ref p] ∧ (SqL K H p ys ∨ SqT K H p ys) ∧ Q (.int ys.length) H) (tCons (tVar 1) tNil)) [some (.str x), some (.ref wl), none, none, none] H1 (.int (((ws.map V.str).length : Nat) : Int)) := lv_len (val_var rfl) (SqL.of h1)
    rw [List.length_map] at hl0
    by_cases h5 : ws.length < 5
    · refine sq_yes (ans_or1 (an_lt hl0 val_c (decide_eq_true (by omega)))) ?_
      exact st_ret val_c (qn (parts_short h5) _ s1)
    · have n5 := an_lt (b := false) (y := 5) hl0 val_c (decide_eq_false (by omega))
      obtain ⟨a, pw, b, ew, y, r, rfl⟩ := five h5
      have ep : partsF (a :: pw :: b :: ew :: y :: r) = if a = ("levels" : Str) ∧ b = ("end" : Str) then (match figS pw, figS ew, lampsF (y :: r) with
        | some p, some e, some ls => some (p, ls, e)
        | _, _, _ => none) else none := rfl
      have va : Val (tOp (rIxL K) (tVar 1) (tC (.int 0))) [some (.str x), some (.ref wl), none, none, none] H1 (.str a) := val_op (val_var rfl) val_c (lv_ix h1 (L2.at_of (j := 0) rfl rfl))
      have vb : Val (tOp (rIxL K) (tVar 1) (tC (.int 2))) [some (.str x), some (.ref wl), none, none, none] H1 (.str b) := val_op (val_var rfl) val_c (lv_ix h1 (L2.at_of (j := 2) rfl rfl))
      by_cases ha : a = ("levels" : Str)
      · have na := ans_ne (x := .str a) (y := .str ("levels" : Str)) (b := false) va val_c rfl (by rw [decide_eq_true (by rw [ha])]; rfl)
        by_cases hb : b = ("end" : Str)
        · rw [if_pos ⟨ha, hb⟩] at ep
          refine sq_no (ans_or n5 (ans_or na (ans_ne (x := .str b) (y := .str ("end" : Str)) (b := false) vb val_c rfl (by rw [decide_eq_true (by rw [hb])]; rfl)))) ?_
          refine ⟨_, rfl, wl, _, 1, .str pw, rfl, rfl, SqL.of h1, L2.at_of (j := 1) rfl rfl, pw, rfl, (hwd pw (by simp)).1, ?_⟩
          refine ⟨_, rfl, wl, _, 3, .str ew, rfl, rfl, SqL.of h1, L2.at_of (j := 3) rfl rfl, ew, rfl, (hwd ew (by simp)).1, ?_⟩
          refine ⟨_, rfl, 4, rfl, wl, _, rfl, SqL.of h1, fun c nc => ?_⟩
          rw [cut4]
          have s2 := s1.trans (same_of (o := .lst ((y :: r).map V.str)) nc)
          have hyr : ∀ z ∈ y :: r, z.length ≤ 560 ∧ ∀ c ∈ tl z, c < 128 := fun z hz => hwd z (by simp at hz ⊢; rcases hz with h | h <;> simp [h])
          refine ⟨c, y :: r, rfl, upd_same, by simp, by simp at hcnt ⊢; omega, hyr, fun en H2 s3 => ?_, fun ls es t H2 s3 ht => ?_⟩
          · dsimp only [gName, List.set]
            refine sq_yes ?_ (st_ret val_c (qn ?_ _ (s2.trans s3)))
            · cases e1 : figS pw with
              | none => exact ans_or1 (isN_fig (o := none) rfl)
              | some p =>
                cases e2 : figS ew with
                | none => exact ans_or (isN_fig (o := some p) rfl) (ans_or1 (isN_fig (o := none) rfl))
                | some e => exact ans_or (isN_fig (o := some p) rfl) (ans_or (isN_fig (o := some e) rfl) (ans_isN (x := .non) (val_var rfl) (decide_eq_true rfl)))
            · rw [ep, en]
              cases figS pw <;> cases figS ew <;> rfl
          · dsimp only [gName, List.set]
            cases e1 : figS pw with
            | none =>
              refine sq_yes (ans_or1 (isN_fig (o := none) rfl)) (st_ret val_c (qn ?_ _ (s2.trans s3)))
              rw [ep, e1]
            | some p =>
              cases e2 : figS ew with
              | none =>
                refine sq_yes (ans_or (isN_fig (o := some p) rfl) (ans_or1 (isN_fig (o := none) rfl))) (st_ret val_c (qn ?_ _ (s2.trans s3)))
                rw [ep, e1, e2]
              | some e =>
                refine sq_no (ans_or (isN_fig (o := some p) rfl) (ans_or (isN_fig (o := some e) rfl) (ans_isN (x := .ref t) (val_var rfl) (decide_eq_false fun z => by cases z)))) ?_
                refine ⟨_, rfl, _, rfl, _, rfl, le_line (by show 3 ≤ 1000; decide), fun l nl => ?_⟩
                have s4 := same_of (o := .tup [V.int p, V.ref t, V.int e]) nl
                obtain ⟨as, ht1, ht2⟩ := ht
                exact q p ls e (by rw [ep, e1, e2, es]) l t _ ((s2.trans s3).trans s4) upd_same ⟨as, s4 _ _ ht1, L2.Paired.mapP ht2 fun a qq hz => s4 _ _ hz⟩
        · refine sq_yes (ans_or n5 (ans_or na (ans_ne (x := .str b) (y := .str ("end" : Str)) vb val_c rfl (by rw [decide_eq_false (fun z => hb (V.str.inj z))]; rfl)))) ?_
          exact st_ret val_c (qn (by rw [ep, if_neg fun z => hb z.2]) _ s1)
      · refine sq_yes (ans_or n5 (ans_or1 (ans_ne (x := .str a) (y := .str ("levels" : Str)) va val_c rfl (by rw [decide_eq_false (fun z => ha (V.str.inj z))]; rfl)))) ?_
        exact st_ret val_c (qn (by rw [ep, if_neg fun z => ha z.1]) _ s1)
end
end Lamp
set_option Elab.async false
set_option linter.all false
set_option maxRecDepth 100000
set_option maxHeartbeats 1000000
namespace Lamp
open PySem PySem.Spec PyProof.Rows L2 LamX L2H
abbrev sRead : Stmt := inClass sRound 1
/-! what a text tells, and the class's reading of any value -/
def tsOf (ls : List (Int × Int)) : List T := ls.map fun q => .tup [.int q.1, .int q.2]
def judgeB (p : Int) (ls : List (Int × Int)) : Bool := decide (ls.length ≤ 400) && (List.range ls.length).all fun i => !badAt p (tsOf ls) i
theorem judgeB_iff {p : Int} {ls : List (Int × Int)} : judgeB p ls = true ↔ Judge p (tsOf ls) none := by
  unfold judgeB Judge tsOf
  rw [Bool.and_eq_true, decide_eq_true_eq, List.all_eq_true, List.length_map]
  refine ⟨fun h => ⟨h.1, fun i hi => ?_⟩, fun h => ⟨h.1, fun i hi => ?_⟩⟩
  · have := h.2 i (List.mem_range.mpr hi)
    simpa using this
  · rw [h.2 i (List.mem_range.mp hi)]
    rfl
def okR (r : Int × List (Int × Int) × Int) : Bool := levelsB (.int r.1) && judgeB r.1 r.2.1
def readW (ws : List Str) : Option (Int × List (Int × Int) × Int) := match partsF ws with
  | some r => if okR r = true then some r else none
  | none => none
theorem an_pairs2 {K : PySem.W.Frag} {H : Hp} : ∀ {as : List Addr} {ls : List (Int × Int)}, Paired (fun a (q : Int × Int) => H a = some (.tup [.int q.1, .int q.2])) as ls → AnAll K H (as.map V.ref) (tsOf ls)
  | _, _, .nil => .nil
  | _, _, .cons h t => .cons (.tup (SqT.of h) (.cons (.int _) (.cons (.int _) .nil))) (an_pairs2 t)
def strV : V → Bool
  | .str _ => true
  | _ => false
theorem isi_str {K : PySem.W.Frag} {H : Hp} {v : V} {t : T} (h : An K H v t) {Q : VK} (q : Q (.bl (strV v)) H) : rIsi K [v, .ty "str"] H Q := by
  cases h with
  | non => exact ⟨_, _, _, .type "str", false, rfl, .ty "str", .base .non, kit_ty (by decide +kernel), q⟩
  | bl b => exact ⟨_, _, _, .type "str", false, rfl, .ty "str", .base (.bl b), kit_ty (by decide +kernel), q⟩
  | int i => exact ⟨_, _, _, .type "str", false, rfl, .ty "str", .base (.int i), kit_ty (by decide +kernel), q⟩
  | str x => exact ⟨_, _, _, .type "str", true, rfl, .ty "str", .base (.str x), kit_ty (by decide +kernel), q⟩
  | tup h _ => exact ⟨_, _, _, .type "str", false, rfl, .ty "str", ty_tup h, kit_ty (by decide +kernel), q⟩
  | lst h => exact ⟨_, _, _, .type "str", false, rfl, .ty "str", ty_lst h, kit_ty (by decide +kernel), q⟩
  | dct h => exact ⟨_, _, _, .type "str", false, rfl, .ty "str", .base (.dK h), kit_ty (by decide +kernel), q⟩
theorem v_isS {K : PySem.W.Frag} {H : Hp} {σ : L2.St} {te : TE} {v : V} {t : T} (h : Val te σ H v) (a : An K H v t) : Val (tCB (rIsi K) (tCons te (tCons (tC (.ty "str")) tNil))) σ H (.bl (strV v)) := fun Q q => h _ (isi_str a q)
/-- at t: the pairs -/
def PairsAt (H : Hp) (t : Addr) (ls : List (Int × Int)) : Prop := ∃ as : List Addr, H t = some (.tup (as.map V.ref)) ∧ Paired (fun a (q : Int × Int) => H a = some (.tup [.int q.1, .int q.2])) as ls
theorem PairsAt.same {H H' : Hp} {t : Addr} {ls : List (Int × Int)} (h : PairsAt H t ls) (s : Same H H') : PairsAt H' t ls := by
  obtain ⟨as, h1, h2⟩ := h
  exact ⟨as, s _ _ h1, L2.Paired.mapP h2 fun a q hz => s _ _ hz⟩
/-- what becomes of a value that is read -/
def RdTo (C xT : Addr) (v : V) (H : Hp) (E : XK) (Q : VK) : Option (Int × List (Int × Int) × Int) → Prop
  | none => ∀ d H', Same H H' → H' d = some (exd d [("given", v)]) → E (.ref xT) (some d) H'
  | some (p, ls, e) => ∀ a t H', Same H H' → H a = none → RAt C H' a (.int p) (.ref t) (.int e) → PairsAt H' t ls → Q (.ref a) H'
def rRd (K : PySem.W.Frag) (C xT : Addr) (v : V) (H : Hp) (E : XK) (Q : VK) : Prop :=
  (∃ t, An K H v t ∧ strV v = false ∧ RdTo C xT v H E Q none) ∨ ∃ (s : Str) (L W : Nat), v = .str s ∧ Txt0 L W s ∧ L ≤ 800 ∧ W ≤ 560 ∧ RdTo C xT v H E Q (readW (spW s))
def spRd (K : PySem.W.Frag) (C xT : Addr) : Sp := fun vs H Q E => ∃ v, vs = [.ref C, v] ∧ rRd K C xT v H E Q
/-- cls(a, b, c) in a try -/
def tMkLX (K : PySem.W.Frag) (C xL xA xN : Addr) (W : WX) (i : Nat) (ta : TA) : TE := fun σ H Q => σ[i]? = some (some (.ref C)) ∧ ta σ H fun vs H1 => ∃ lv la en, vs = [lv, la, en] ∧ rMkX K C xL xA xN lv la en H1 (fun cls d H' => W cls d σ H') Q
section
variable {X : Cx} {C xL xA xN : Addr} {x : Str} {e : Expr} {es : List Expr} {ta : TA} {p pos : Pos} {i : Nat} {W : WX}
theorem pe_mkLX (Z : MkX X.prog X.w X.K X.mg X.base C xL xA xN) (hr : Room 5 X.A) (tk : L2N.Takes X W) (hN : X.N[i]? = some x) (hv : Vis X.env.scope x) (ha : PA X (e :: es) ta) (hdb : (x == ("__debug__" : Str)) = false := by decide) (hcd : (x == ("__classdict__" : Str)) = false := by decide)
    (he : starEach (e :: es) X.env = (false, eval e X.env) :: starEach es X.env := by rfl) (hpl : (backTo pos (starEach es X.env)).any (·.1) = false := by rfl) : PE X (.Call (.Name x p) (e :: es) [] pos) (tMkLX X.K C xL xA xN W i ta) := by
  obtain ⟨f, fd, M, F, b, _⟩ := Z.ex
  refine ⟨fun pins s σ H Q I h => ?_⟩
  obtain ⟨hs, h⟩ := h
  refine wpAny_Call_Name_kw (thn ((pe_var (pos := p) hN hv hdb hcd).run pins s σ H (fun v H1 => v = .ref C ∧ H1 = H) I ⟨.ref C, hs, rfl, rfl⟩) fun u s0 ⟨v, H0, I0, r0, q0⟩ => ?_)
  obtain ⟨rfl, rfl⟩ := q0
  cases r0
  refine PySem.W.callWith_K (h₀ := X.base) I.ok.mod.kin M.kp (thn (ha.run pos pins s0 σ _ _ I0 h) fun us s1 ⟨vs, H1, I1, r, lv, la, en, ev, q⟩ => ⟨I1.kIn, ?_⟩) he hpl
  subst ev
  exact run_makeAt M F hr b (L2N.passAt tk σ) I1 r fun y dx hy hd hne => mk_init q hy hd hne
end
/-- raise InvalidText(text) from None, in a suite -/
def tSuiteT (Y : Cx) (xT : Addr) (W : WX) : TS := fun _ σ H => tMkE xT "given" (tVar 1) σ H fun x H1 => ∃ (a C : Addr) (d : Option Addr), x = .ref a ∧ H1 a = some (exo a C d) ∧ Fr0 Y.H_0 a ∧ Raises Y (.ref C) ∧ W (.ref C) d σ (delH H1 a)
theorem pss_suite {Y : Cx} {a : Addr} {oe : Obj} {pn : List (Addr × Obj)} {xT : Addr} {W : WX} {p1 p2 p3 p4 p5 : Pos} {j : Nat} (hot : HotC (suiteX Y a ((a, oe) :: pn))) (tk : L2.Takes (suiteX Y a ((a, oe) :: pn)) W) (ZT : XH Y.prog Y.w Y.K Y.mg xT "InvalidText" "given") (hr : RoomH 2 (Y.A.mark (some (.ref a)))) (g : Gl Y "InvalidText") (hN : Y.N[1]? = some ("text" : Str)) (hv : Vis Y.env.scope "text") (ne : Y.ex = []) :
    PSs (suiteX Y a ((a, oe) :: pn)) [.Raise (some (.Call (.Name "InvalidText" p1) [.Name "text" p2] [] p3)) (some (.Constant .none j p4)) p5] (tSuiteT Y xT W) :=
  pss_one (ps_raiseHN (X := suiteX Y a ((a, oe) :: pn)) hot tk (pmk5_xo (X := suiteX Y a ((a, oe) :: pn)) ne (pe_xcH (X := suiteX Y a ((a, oe) :: pn)) ZT hr hot g (pv (X := suiteX Y a ((a, oe) :: pn)) 1 hN hv))))
section
variable {P : Program} {w : World} {K : PySem.W.Frag} {mg : Str → Option Value} {base : Heap} {C xL xA xN xT : Addr}
theorem scRead : FnScope ["cls", "text", "parts", "levels", "lamps", "end"] ["cls", "text"] (defScope sRead) := ⟨rfl, rfl, rfl, by decide +kernel, rfl, by decide +kernel, by decide +kernel⟩
theorem ok_rd {f : Addr} {fd : FuncData} (F : Fun K "read" "Round.read" sRead f fd) (M : MkX P w K mg base C xL xA xN) (Rp : Dr P w K mg base spReadParts "read_parts" ["text"] 4) (ZT : XH P w K mg xT "InvalidText" "given") (yT : PySem.W.typeIn K (.ref xT) = some (.type "type"))
    (mL : mg "InvalidLevels" = some (.ref xL)) (mA : mg "InvalidLamps" = some (.ref xA)) (eL : PySem.W.exmAny K (.ref xL) [.ref xL, .ref xA] = some true) (eA : PySem.W.exmAny K (.ref xA) [.ref xL, .ref xA] = some true) (mis : mg "isinstance" = none) (ms : mg "str" = none) :
    FnOk P w K mg base (L2.CX P w) 6 f fd ["cls", "text"] (spRd K C xT) := by
  refine F.okX scRead (fun vs H Q E h => ?_) (fun cdv A outer s H vs Q E hr h => ?_)
  · obtain ⟨v, rfl, _⟩ := h
    rfl
  · obtain ⟨v, rfl, h⟩ := h
    have hr2 : Room 2 _ := hr.mono (by decide)
    refine ⟨_, pss_cons (ps_if (pt_not (pt_val (pe_callB call_isi (by rfl) mis (by decide +kernel) (pa_cons (pv 1) (pa_cons (pe_bltn (v := .ty "str") (by rfl) ms (by decide +kernel) rfl) pa_nil))))) (pss_one (ps_raise rfl (takes_of rfl rfl rfl rfl) (pmk_xo rfl (pe_xc ZT.xc hr2 rfl (pv 1))))) pss_nil)
      (pss_cons (ps_set (i := 2) scRead.nd rfl (.inl rfl) (pe_dr Rp (by decide) hr rfl (pa_cons (pv 1) pa_nil)))
      (pss_cons (ps_if (pt_cmpR op_isN1 (pv 2) pe_non (nomark _)) (pss_one (ps_raise rfl (takes_of rfl rfl rfl rfl) (pmk_xo rfl (pe_xc ZT.xc hr2 rfl (pv 1))))) pss_nil)
      (pss_cons (ps_asg (pv 2) (pg_tup rfl (pgs_cons (pg_name (i := 3) scRead.nd rfl (.inl rfl)) (pgs_cons (pg_name (i := 4) scRead.nd rfl (.inl rfl)) (pgs_cons (pg_name (i := 5) scRead.nd rfl (.inl rfl)) pgs_nil)))))
      (pss_one (ps_try_tup2X (c1 := .ref xL) (c2 := .ref xA) (tb := fun W => tRet (tMkLX K C xL xA xN W 0 (tCons (tVar 3) (tCons (tVar 4) (tCons (tVar 5) tNil))))) rfl rfl ⟨rfl, rfl, .inl mL⟩ ⟨rfl, rfl, .inl mA⟩ (passesAt_of rfl) (takes_of rfl rfl rfl rfl)
        (fun W pn xe tk _ => pss_one (ps_ret (pe_mkLX M hr tk (i := 0) rfl (.inl rfl) (pa_cons (pv 3) (pa_cons (pv 4) (pa_cons (pv 5) pa_nil))))))
        (fun a oe cls d pn hz hf tk hot => pss_suite hot tk ZT (roomH_mark hr2 _) rfl rfl (.inl rfl) rfl)))))), ?_⟩
    rcases h with ⟨t, an, nos, bad⟩ | ⟨x, L, W, rfl, hx, hL, hW, q⟩
    · refine sq_yes (ans_not (b := false) (ans_val (by have z := v_isS (K := K) (te := tVar 1) (σ := [some (V.ref C), some v, none, none, none, none]) (val_var rfl) an; rw [nos] at z; exact z))) ?_
      exact raise_run (val_var rfl) (fun a na => fr0_none na) (xc_raises ZT.xc yT) fun d H' s1 hd => bad d H' s1 hd
    · refine sq_no (ans_not (b := true) (ans_val (v_isS (K := K) (te := tVar 1) (σ := [some (V.ref C), some (.str x), none, none, none, none]) (val_var rfl) (.str x)))) ?_
      unfold readW at q
      refine ⟨_, rfl, x, L, W, rfl, hx, hL, hW, fun en H1 s1 => ?_, fun p ls e es l t H1 s1 hl ht => ?_⟩
      · rw [en] at q
        dsimp only [gName, List.set]
        refine sq_yes (ans_isN (x := .non) (val_var rfl) rfl) ?_
        exact raise_run (val_var rfl) (fun a na => fr0_none (s1.free na)) (xc_raises ZT.xc yT) fun d H' s2 hd => q d H' (s1.trans s2) hd
      · rw [es] at q
        dsimp only [gName, List.set]
        refine sq_no (ans_isN (x := .ref l) (val_var rfl) rfl) ?_
        refine ⟨_, rfl, l, _, rfl, SqT.of hl, rfl, _, _, rfl, _, _, rfl, _, _, rfl, rfl, ?_⟩
        have q : RdTo C xT (.str x) H E Q (if okR (p, ls, e) = true then some (p, ls, e) else none) := q
        obtain ⟨as, ht1, ht2⟩ := ht
        refine ⟨rfl, _, rfl, _, rfl, _, rfl, .int p, .ref t, .int e, rfl, .int p, .tup (tsOf ls), .int e, .int _, .tup (SqT.of ht1) (an_pairs2 ht2), .int _, fun d hd => ?_⟩
        cases d with
        | lv =>
          intro dd H2 s2 hd2
          have nk : okR (p, ls, e) = false := by
            show (levelsB (.int p) && judgeB p ls) = false
            rw [show levelsB (.int p) = false from hd]
            rfl
          rw [if_neg (by rw [nk]; decide)] at q
          exact ⟨eL, fun a na => raise_run (val_var rfl) (fun b nb => fr0_none ((s1.trans s2).free nb)) (xc_raises ZT.xc yT) fun d3 H3 s3 h3 => q d3 H3 ((s1.trans s2).trans s3) h3⟩
        | la r =>
          cases r with
          | none => cases hd.2
          | some i =>
            intro dd H2 s2 hd2
            obtain ⟨h1, p', ts, e1, e2, hj⟩ := hd
            cases e1
            cases e2
            have nk : okR (p, ls, e) = false := by
              show (levelsB (.int p) && judgeB p ls) = false
              cases hb : judgeB p ls with
              | false => rw [Bool.and_false]
              | true => cases hj.one (judgeB_iff.mp hb)
            rw [if_neg (by rw [nk]; decide)] at q
            exact ⟨eA, fun a na => raise_run (val_var rfl) (fun b nb => fr0_none ((s1.trans s2).free nb)) (xc_raises ZT.xc yT) fun d3 H3 s3 h3 => q d3 H3 ((s1.trans s2).trans s3) h3⟩
        | nu =>
          obtain ⟨_, p', ts, e1, e2, hj, hw⟩ := hd
          cases hw
        | ok =>
          obtain ⟨h1, p', ts, e1, e2, hj, hw⟩ := hd
          cases e1
          cases e2
          have nk : okR (p, ls, e) = true := by
            show (levelsB (.int p) && judgeB p ls) = true
            rw [h1, judgeB_iff.mpr hj]
            rfl
          rw [if_pos nk] at q
          intro a H2 s2 na hr2
          exact q a t H2 (s1.trans s2) (s1.free na) hr2 (PairsAt.same (H := H1) ⟨as, ht1, ht2⟩ s2)
end
end Lamp
set_option Elab.async false
set_option linter.all false
set_option maxRecDepth 100000
set_option maxHeartbeats 1000000
namespace Lamp
open PySem PySem.Spec PyProof.Rows L2 LamX
open TL (tl tl_append ext_tl numL tl_ofString len_tl)
abbrev sFigure : Stmt := top 30
/-! the law's reading of a word -/
theorem tl_cut_from (z : Str) (k : Nat) : tl (cutS z (some (k : Int)) none) = (tl z).drop k := by
  unfold cutS
  rw [HT.sIx_nat, HT.sIx_none]
  show ((z.cps.toList.drop (min k z.length)).take (z.length - min k z.length)) = z.cps.toList.drop k
  have hz : z.length = z.cps.toList.length := (Array.length_toList ..).symm
  rw [hz]
  by_cases h : k ≤ z.cps.toList.length
  · rw [Nat.min_eq_left h, List.take_of_length_le (by rw [List.length_drop]; exact Nat.le_refl _)]
  · rw [Nat.min_eq_right (by omega), List.drop_of_length_le (by omega), List.drop_of_length_le (by omega)]
    simp
theorem tl_cut_to (z : Str) (k : Nat) : tl (cutS z none (some (k : Int))) = (tl z).take k := by
  unfold cutS
  rw [HT.sIx_nat, HT.sIx_none]
  show ((z.cps.toList.drop 0).take (min k z.length - 0)) = z.cps.toList.take k
  have hz : z.length = z.cps.toList.length := (Array.length_toList ..).symm
  rw [hz, List.drop_zero, Nat.sub_zero]
  by_cases h : k ≤ z.cps.toList.length
  · rw [Nat.min_eq_left h]
  · rw [Nat.min_eq_right (by omega), List.take_of_length_le (by omega), List.take_of_length_le (by omega)]
def restW (w : Str) : Str := if cutS w none (some 1) = ("-" : Str) then cutS w (some 1) none else w
theorem tl_rest (w : Str) : tl (restW w) = bareL (tl w) := by
  unfold restW
  have e1 : tl (cutS w none (some 1)) = (tl w).take 1 := tl_cut_to w 1
  have e2 : tl (cutS w (some 1) none) = (tl w).drop 1 := tl_cut_from w 1
  have hm : tl ("-" : Str) = [45] := rfl
  cases hw : tl w with
  | nil =>
    rw [hw] at e1
    rw [if_neg (fun z => by rw [z, hm] at e1; cases e1), hw]
    rfl
  | cons c r =>
    rw [hw] at e1 e2
    by_cases hc : c = 45
    · rw [if_pos (ext_tl (by rw [e1, hm, hc]; rfl)), e2, hc]
      rfl
    · rw [if_neg (fun z => by rw [z, hm] at e1; exact hc (List.cons.inj e1).1.symm), hw, bareL_cons hc]
def dig (c : Nat) : Bool := decide (c ∈ (("0123456789" : Str)).cps.toList)
theorem dig_iff {c : Nat} : dig c = (decide (48 ≤ c) && decide (c ≤ 57)) := by
  have e : (("0123456789" : Str)).cps.toList = [48, 49, 50, 51, 52, 53, 54, 55, 56, 57] := rfl
  unfold dig
  rw [e, ← Bool.decide_and]
  refine decide_eq_decide.mpr ⟨fun h => ?_, fun h => ?_⟩
  · simp at h
    omega
  · simp
    omega
def badS (w : Str) : List Str := ((bareL (tl w)).filter fun c => !dig c).map fun c => ⟨#[c]⟩
theorem okW_eq (w : Str) : okW w = (decide (restW w ≠ ("" : Str)) && decide (badS w = [])) := by
  have he : restW w = ("" : Str) ↔ bareL (tl w) = [] := by
    refine ⟨fun h => ?_, fun h => ext_tl ?_⟩
    · have := tl_rest w
      rw [h] at this
      exact this.symm
    · rw [tl_rest, h]
      rfl
  unfold okW digB badS
  rw [Bool.eq_iff_iff, Bool.and_eq_true, Bool.and_eq_true, decide_eq_true_eq, decide_eq_true_eq, List.map_eq_nil_iff, List.filter_eq_nil_iff, List.all_eq_true]
  refine and_congr ⟨fun h z => ?_, fun h => ?_⟩ ⟨fun h c hc => ?_, fun h c hc => ?_⟩
  · rw [he.mp z] at h
    cases h
  · cases hb : bareL (tl w) with
    | nil => exact absurd (he.mpr hb) h
    | cons _ _ => rfl
  · rw [dig_iff, h c hc]
    decide
  · have := h c hc
    rw [dig_iff] at this
    simpa using this
theorem ret_yes {tt : TT} {ta tb : TE} {D : Ends} {σ : L2.St} {H : Hp} (h : Ans tt σ H true) (k : tRet ta D σ H) : tRet (tIf tt ta tb) D σ H := h _ (iteT k)
theorem ret_no {tt : TT} {ta tb : TE} {D : Ends} {σ : L2.St} {H : Hp} (h : Ans tt σ H false) (k : tRet tb D σ H) : tRet (tIf tt ta tb) D σ H := h _ (iteF k)
def spFigure : Sp := fun vs H Q _ => ∃ w : Str, vs = [.str w] ∧ w.length ≤ 560 ∧ (∀ c ∈ tl w, c < 128) ∧ ∀ H', Same H H' → Q (figV (figS w)) H'
theorem bare_sub {c : Nat} {l : List Nat} (h : c ∈ bareL l) : c ∈ l := by
  unfold bareL at h
  split at h
  · exact List.mem_cons_of_mem _ h
  · exact h
theorem bare_len (l : List Nat) : (bareL l).length ≤ l.length := by
  unfold bareL
  split
  · rw [List.length_cons]; omega
  · exact Nat.le_refl _
section
variable {P : Program} {w : World} {K : PySem.W.Frag} {mg : Str → Option Value} {base : Heap}
theorem scFigure : FnScope ["_law_word", "_law_rest", "_law_sign"] ["_law_word"] (defScope sFigure) := ⟨rfl, rfl, rfl, by decide +kernel, rfl, by decide +kernel, by decide +kernel⟩
theorem ok_figure {f : Addr} {fd : FuncData} (F : Fun K "_law_figure" "_law_figure" sFigure f fd) (mi : mg "int" = none) (ms : mg "str" = none) : FnOk P w K mg base CX0 1 f fd ["_law_word"] spFigure := by
  refine F.ok scFigure (fun vs H Q E h => ?_) (fun cdv A outer s H vs Q E hr h => ?_)
  · obtain ⟨x, rfl, _⟩ := h
    rfl
  · obtain ⟨x, rfl, hl, hasc, q⟩ := h
    have hu := hr.units
    refine ⟨_, pss_cons (ps_set (i := 1) scFigure.nd rfl (.inl rfl) (pe_ifExp (pt_cmpR op_eq (pe_slice (r := rSlS) sl_str (pv 0) po_none (po_some pe_int)) pe_str (nomark _)) (pe_slice (r := rSlS) sl_str (pv 0) (po_some pe_int) po_none) (pv 0)))
      (pss_cons (ps_if (PW.pt (pw_or (pt_cmpR op_eq (pv 1) pe_str (nomark _)) (pw_or1 (pt_cmpR (op_neD hu) (pe_lc (own := [("_law_sign", 2)]) (g := gName 2) (tt := tTest (tOp rNotInS (tVar 2) (tC (.str "0123456789")))) rfl scFigure.nd (pi_str (pv 1))
          (blkOk_by (own := [("_law_sign", 2)]) (N := ["_law_word", "_law_rest", "_law_sign"]) (sc := defScope sFigure) (by decide +kernel)) (fun _ _ _ _ _ => pg_name (i := 2) scFigure.nd rfl (Or.inl rfl))
          (fun _ _ _ _ _ => pts_one (pt_cmpR op_notInS (pv 2) pe_str (by rfl))) (fun _ _ _ _ _ => pv 2)) (pe_lst pa_nil) (nomark _))))) (pss_one (ps_ret pe_non)) pss_nil)
      (pss_one (ps_ret (pe_ifExp (pt_cmpR op_eq (pe_callTy call_str_int (by rfl) ms (by decide +kernel) (pa_cons (pe_callTy call_int_str (by rfl) mi (by decide +kernel) (pa_cons (pv 0) pa_nil)) pa_nil)) (pv 0) (nomark _))
        (pe_callTy call_int_str (by rfl) mi (by decide +kernel) (pa_cons (pv 0) pa_nil)) pe_non)))), ?_⟩
    refine sq_set (v := .str (restW x)) (fun Q' q' => ?_) ?_
    · have c1 : Val (tSl rSlS (tVar 0) tNoPart (tPart (tC (V.int 1)))) [some (V.str x), none, none] H (.str (cutS x none (some 1))) := fun Q2 q2 => ⟨_, rfl, 1, rfl, x, rfl, le_line (by omega), q2⟩
      unfold restW at q'
      by_cases hm : cutS x none (some 1) = ("-" : Str)
      · rw [if_pos hm] at q'
        refine ans_eq (b := true) (x := .str (cutS x none (some 1))) (y := .str ("-" : Str)) c1 val_c rfl (decide_eq_true (by rw [hm])) _ (iteT ?_)
        exact ⟨_, rfl, 1, rfl, x, rfl, le_line (by omega), q'⟩
      · rw [if_neg hm] at q'
        refine ans_eq (b := false) (x := .str (cutS x none (some 1))) (y := .str ("-" : Str)) c1 val_c rfl (decide_eq_false fun z => hm (V.str.inj z)) _ (iteF ?_)
        exact ⟨_, rfl, q'⟩
    dsimp only [L2.start, List.map, List.length, List.replicate, List.append, List.set]
    have eo := okW_eq x
    by_cases he : restW x = ("" : Str)
    · rw [decide_eq_false (fun z => z he), Bool.false_and] at eo
      rw [fig_no eo] at q
      refine sq_yes (ans_or1 (ans_eq (x := .str (restW x)) (y := .str ("" : Str)) (val_var rfl) val_c rfl (decide_eq_true (by rw [he])))) ?_
      exact st_ret val_c (q _ (Same.refl H))
    · rw [decide_eq_true he, Bool.true_and] at eo
      refine ans_eq (b := false) (x := .str (restW x)) (y := .str ("" : Str)) (val_var rfl) val_c rfl (decide_eq_false fun z => he (V.str.inj z)) _ (iteF ?_)
      have hlen : (bareL (tl x)).length ≤ 560 := Nat.le_trans (bare_len _) (by rw [← len_tl]; exact hl)
      have hsz : (restW x).cps.size = (bareL (tl x)).length := by rw [← tl_rest, ← len_tl]; rfl
      refine ⟨_, rfl, _, rfl, fun D hD => ?_⟩
      refine lc_it walk_str (fun i H' => Same H H' ∧ H' D = some (.lst ((((bareL (tl x)).take i).filter fun c => !dig c).map fun c => V.str ⟨#[c]⟩))) ⟨same_of hD, by rw [List.take_zero]; exact upd_same⟩ (fun _ _ _ _ => trivial) (fun i v H1 H2 hi z y => ?_) (fun H1 z => ?_)
      · obtain ⟨s1, hl1⟩ := z
        obtain ⟨rfl, c, hc, rfl⟩ := y
        have hc' : (bareL (tl x))[i]? = some c := by rw [← tl_rest, ← hc]; exact Array.getElem?_toList
        refine ⟨rfl, ?_⟩
        have ht : (bareL (tl x)).take (i + 1) = (bareL (tl x)).take i ++ [c] := by rw [List.take_add_one, hc']; rfl
        refine ans_notIn (c := c) (w := "0123456789") (val_var rfl) val_c rfl _ ?_
        have few : ((((bareL (tl x)).take i).filter fun c => !dig c).map fun c => V.str ⟨#[c]⟩).length < sizeLine := by
          rw [List.length_map]
          have h1 := List.length_filter_le (fun c => !dig c) ((bareL (tl x)).take i)
          have h2 := List.length_take_le i (bareL (tl x))
          exact small1000 (by omega)
        cases hd : dig c with
        | true =>
          have hd' : decide (c ∈ (("0123456789" : Str)).cps.toList) = true := hd
          rw [hd']
          refine iteF ?_
          refine ⟨s1, ?_⟩
          rw [ht, List.filter_append, List.filter_cons_of_neg (by rw [hd]; decide), List.filter_nil, List.append_nil]
          exact hl1
        | false =>
          have hd' : decide (c ∈ (("0123456789" : Str)).cps.toList) = false := hd
          rw [hd']
          refine iteT ?_
          refine ⟨_, rfl, _, hl1, few, fun b o e => ?_, ?_⟩
          · rw [upd_ne (ne_of_none e hD)]
            exact s1 _ _ e
          · rw [ht, List.filter_append, List.filter_cons_of_pos (by rw [hd]; rfl), List.filter_nil, List.map_append]
            exact upd_same
      · obtain ⟨s1, hl1⟩ := z
        rw [hsz, List.take_length] at hl1
        refine ⟨le_line (by show 0 ≤ 1000; decide), fun l2 n2 => ?_⟩
        have s2 := same_of (o := .lst []) n2
        have eb : (badS x).map V.str = ((bareL (tl x)).filter fun c => !dig c).map fun c => V.str ⟨#[c]⟩ := by unfold badS; rw [List.map_map]; rfl
        rw [← eb] at hl1
        have asc : ∀ y ∈ badS x, ∀ c ∈ tl y, c < 128 := fun y hy c hc => by
          obtain ⟨d, hd, rfl⟩ := List.mem_map.mp hy
          have : c = d := by simpa using hc
          rw [this]
          exact hasc d (bare_sub (List.mem_filter.mp hd).1)
        refine ⟨.list ((badS x).map PyData.str), .list [], .lst (SqL.of (s2 _ _ hl1)) (dp_strs _), .lst (SqL.of upd_same) .nil, shaped_strs asc, by decide, okW x |> not, ?_, ?_⟩
        · have z : PyData.eqv (.list ((badS x).map PyData.str)) (.list []) = decide (badS x = []) := eqv_strs (badS x) []
          rw [z, eo]
        have s12 := s1.trans s2
        have qq := q _ s12
        cases ok : okW x with
        | false =>
          rw [fig_no ok] at qq
          refine iteT ?_
          exact st_ret val_c qq
        | true =>
          refine iteF ?_
          obtain ⟨n, hn, hb⟩ := okW_int ok hl
          rw [fig_yes ok hn] at qq
          dsimp only [tNext]
          by_cases e : nS n = x
          · rw [if_pos e] at qq
            refine ret_yes (ans_eq (x := .str (nS n)) (y := .str x) (fun Q' q' => ⟨_, rfl, x, n, rfl, hn, by omega, n, rfl, log_big hb, q'⟩) (val_var rfl) rfl (decide_eq_true (by rw [e]))) ?_
            exact ⟨_, rfl, x, n, rfl, hn, by omega, qq⟩
          · rw [if_neg e] at qq
            refine ret_no (ans_eq (x := .str (nS n)) (y := .str x) (fun Q' q' => ⟨_, rfl, x, n, rfl, hn, by omega, n, rfl, log_big hb, q'⟩) (val_var rfl) rfl (decide_eq_false fun z => e (V.str.inj z))) ?_
            exact qq
end
end Lamp
set_option Elab.async false
set_option linter.all false
set_option maxRecDepth 100000
set_option maxHeartbeats 1000000
namespace Lamp
open PySem PySem.Spec PyProof.Rows L2 LamX
open TL (tl tl_append ext_tl numL tl_ofString len_tl)
/-! the law's reading of a text: words -/
def colW (w : Str) : List (Option Int) := (Txt.split w ":").map figS
def ttW (w : Str) : T := .tup ((colW w).map figTT)
theorem fig_empty : figS Str.empty = none := fig_no rfl
theorem lamp_tt {w : Str} {q : Int × Int} (h : lampF w = some q) : ttW w = .tup [.int q.1, .int q.2] := by
  unfold lampF at h
  unfold ttW colW
  rcases colon_cases w with ⟨_, e, _⟩ | ⟨a, b, _, _, e, e2⟩
  · rw [e] at h
    dsimp only at h
    rw [fig_empty] at h
    split at h
    · rename_i z; cases z
    · cases h
  · rw [e] at h
    dsimp only at h
    split at h
    · rename_i x y h1 h2
      cases h
      have nb : 58 ∉ tl b := fun z => by
        have := fig_signs h2 58 z
        omega
      have eb : Txt.split b ":" = [b] := by
        rcases colon_cases b with ⟨_, _, e3⟩ | ⟨c, d, _, e3, _⟩
        · exact e3
        · exact absurd (by rw [e3]; simp) nb
      rw [e2, eb]
      show T.tup [figTT (figS a), figTT (figS b)] = _
      rw [h1, h2]
      rfl
    · cases h
theorem lamp_nt {w : Str} {p : Int} (h : lampF w = none) : lampOf p (ttW w) = none := by
  cases e : lampOf p (ttW w) with
  | none => rfl
  | some a =>
    exfalso
    obtain ⟨b, eb, _⟩ := lampOf_some e
    unfold ttW colW at eb
    have eb := T.tup.inj eb
    rcases colon_cases w with ⟨_, _, e2⟩ | ⟨x, y, _, _, e1, e2⟩
    · rw [e2] at eb
      cases (List.cons.inj eb).2
    · rw [e2] at eb
      have hd := List.cons.inj eb
      have t1 : figTT (figS x) = .int a := hd.1
      rcases colon_cases y with ⟨_, _, e3⟩ | ⟨c, d, _, _, _, e3⟩
      · rw [e3] at hd
        have t2 : figTT (figS y) = .int b := (List.cons.inj hd.2).1
        unfold lampF at h
        rw [e1] at h
        dsimp only at h
        cases h1 : figS x with
        | none => rw [h1] at t1; cases t1
        | some i =>
          cases h2 : figS y with
          | none => rw [h2] at t2; cases t2
          | some j =>
            rw [h1, h2] at h
            cases h
      · rw [e3] at hd
        have n : Txt.split d ":" = [] := by
          have := (List.cons.inj hd.2).2
          simpa using this
        rcases colon_cases d with ⟨_, _, e4⟩ | ⟨_, _, _, _, _, e4⟩ <;> rw [e4] at n <;> cases n
theorem allL_tt : ∀ {r : List Str} {ls : List (Int × Int)}, allL r = some ls → r.map ttW = tsOf ls
  | [], ls, h => by
    have h : some [] = some ls := h
    cases h
    rfl
  | w :: r, ls, h => by
    unfold allL at h
    split at h
    · rename_i q qs e1 e2
      cases h
      show ttW w :: r.map ttW = T.tup [.int q.1, .int q.2] :: tsOf qs
      rw [lamp_tt e1, allL_tt e2]
    · cases h
theorem allL_nt {r : List Str} {p : Int} (h : allL r = none) : ¬ Judge p (r.map ttW) none := fun ⟨_, hj⟩ => by
  have hn := allL_none h
  rw [List.any_map, List.any_eq_true] at hn
  obtain ⟨w, hw, hw2⟩ := hn
  have hw2 : (lampF w).isNone = true := hw2
  obtain ⟨i, hi, ei⟩ := List.getElem_of_mem hw
  have := hj i (by rw [List.length_map]; exact hi)
  unfold badAt at this
  rw [List.getElem?_map, List.getElem?_eq_getElem hi, ei] at this
  have e : lampOf p (ttW w) = none := lamp_nt (Option.isNone_iff_eq_none.mp hw2)
  have z : ((some w).map ttW).bind (lampOf p) = none := e
  rw [z] at this
  cases this
theorem lamp_nl {w : Str} (h : 10 ∈ tl w) : lampF w = none := by
  unfold lampF
  rcases colon_cases w with ⟨_, e, _⟩ | ⟨a, b, _, e1, e, _⟩
  · rw [e]
    dsimp only
    rw [fig_empty]
    cases figS w <;> rfl
  · rw [e]
    dsimp only
    rw [e1] at h
    rcases List.mem_append.mp h with h | h
    · rw [fig_bad h (by decide) (.inl (by decide))]
    · rcases List.mem_cons.mp h with h | h
      · cases h
      · rw [fig_bad h (by decide) (.inl (by decide))]
        cases figS a <;> rfl
theorem allL_nl : ∀ {r : List Str} {w : Str}, w ∈ r → lampF w = none → allL r = none
  | x :: r, w, h, e => by
    unfold allL
    rcases List.mem_cons.mp h with h | h
    · subst h
      rw [e]
    · rw [allL_nl h e]
      cases lampF x <;> rfl
theorem read_nl {s : Str} (h : 10 ∈ tl s) : readW (spW s) = none := by
  have hp : partsF (spW s) = none := by
    rcases words_mem h with z | ⟨w, hw, hc⟩
    · cases z
    · by_cases h5 : (spW s).length < 5
      · exact parts_short h5
      · obtain ⟨a, pw, b, ew, y, r, e⟩ := five h5
        rw [e] at hw ⊢
        show (if a = ("levels" : Str) ∧ b = ("end" : Str) then (match figS pw, figS ew, lampsF (y :: r) with
          | some p, some e, some ls => some (p, ls, e)
          | _, _, _ => none) else none) = none
        by_cases hab : a = ("levels" : Str) ∧ b = ("end" : Str)
        · rw [if_pos hab]
          have nw : ∀ z : Str, 10 ∉ tl z → w ≠ z := fun z n e => n (e ▸ hc)
          have w1 := nw ("levels" : Str) (by decide)
          have w2 := nw ("end" : Str) (by decide)
          have w3 := nw ("dark" : Str) (by decide)
          have w4 := nw ("lamps" : Str) (by decide)
          simp only [List.mem_cons] at hw
          rcases hw with hw | hw | hw | hw | hw | hw
          · exact absurd (hw.trans hab.1) w1
          · rw [← hw, fig_bad hc (by decide) (.inl (by decide))]
          · exact absurd (hw.trans hab.2) w2
          · rw [← hw, fig_bad hc (by decide) (.inl (by decide))]
            cases figS pw <;> rfl
          all_goals
            have nl : lampsF (y :: r) = none := by
              unfold lampsF
              have nd : ¬ (y :: r = [("dark" : Str)]) := fun z => by
                have z1 := (List.cons.inj z).1
                have z2 := (List.cons.inj z).2
                first
                  | exact w3 (hw.trans z1)
                  | (rw [z2] at hw; cases hw)
              rw [if_neg nd]
              by_cases hy : y = ("lamps" : Str) ∧ r ≠ []
              · show (if y = ("lamps" : Str) ∧ r ≠ [] then allL r else none) = none
                rw [if_pos hy]
                first
                  | exact absurd (hw.trans hy.1) w4
                  | exact allL_nl hw (lamp_nl hc)
              · show (if y = ("lamps" : Str) ∧ r ≠ [] then allL r else none) = none
                rw [if_neg hy]
            rw [nl]
            cases figS pw <;> cases figS ew <;> rfl
        · rw [if_neg hab]
  unfold readW
  rw [hp]
end Lamp
set_option Elab.async false
set_option linter.all false
set_option maxRecDepth 100000
set_option maxHeartbeats 1000000
namespace Lamp
open PySem PySem.Spec PyProof.Rows L2 LamX
open TL (tl tl_append ext_tl numL tl_ofString len_tl)
abbrev sLRead : Stmt := top 38
def spLRead (K : PySem.W.Frag) : Sp := fun vs H Q _ => ∃ (s : Str) (L W : Nat), vs = [.str s] ∧ Txt0 L W s ∧ L ≤ 800 ∧ W ≤ 560 ∧ (readW (spW s) = none → ∀ l H', Same H H' → H' l = some (.lst []) → Q (.ref l) H') ∧
  ∀ p ls e, readW (spW s) = some (p, ls, e) → ∀ l t H', Same H H' → H' l = some (.lst [.int p, .ref t, .int e]) → PairsAt H' t ls → Q (.ref l) H'
/-! the parts of a word with colons -/
theorem col_parts : ∀ (n : Nat) (w : Str), w.length ≤ n → (Txt.split w ":").length ≤ w.length + 1 ∧ ∀ x ∈ Txt.split w ":", x.length ≤ w.length ∧ ∀ c ∈ tl x, c ∈ tl w
  | n, w, hn => by
    rcases colon_cases w with ⟨_, _, e⟩ | ⟨a, b, _, e1, _, e⟩
    · rw [e]
      refine ⟨by simp, fun x hx => ?_⟩
      have : x = w := by simpa using hx
      subst this
      exact ⟨Nat.le_refl _, fun c hc => hc⟩
    · have el := congrArg List.length e1
      rw [List.length_append, List.length_cons, ← len_tl, ← len_tl, ← len_tl] at el
      cases n with
      | zero => omega
      | succ n =>
        obtain ⟨h1, h2⟩ := col_parts n b (by omega)
        rw [e]
        refine ⟨by rw [List.length_cons]; omega, fun x hx => ?_⟩
        rcases List.mem_cons.mp hx with hx | hx
        · subst hx
          exact ⟨by omega, fun c hc => by rw [e1]; exact List.mem_append_left _ hc⟩
        · obtain ⟨g1, g2⟩ := h2 x hx
          exact ⟨by omega, fun c hc => by rw [e1]; exact List.mem_append_right _ (List.mem_cons_of_mem _ (g2 c hc))⟩
theorem lamp_col {w : Str} {q : Int × Int} (h : lampF w = some q) : colW w = [some q.1, some q.2] := by
  have e := T.tup.inj (lamp_tt h)
  match hc : colW w, e with
  | [], e => cases e
  | [_], e => cases (List.cons.inj e).2
  | _ :: _ :: _ :: _, e => cases (List.cons.inj (List.cons.inj e).2).2
  | [u, v], e =>
    have e1 := (List.cons.inj e).1
    have e2 := (List.cons.inj (List.cons.inj e).2).1
    cases u with
    | none => cases e1
    | some i =>
      cases v with
      | none => cases e2
      | some j =>
        cases e1
        cases e2
        rfl
def figD : Option Int → PyData
  | none => .none
  | some n => .int n
def colD (w : Str) : PyData := .tuple ((colW w).map figD)
/-- what is kept of a word -/
def FV (H : Hp) (v : V) (w : Str) : Prop := ∃ a, v = .ref a ∧ H a = some (.tup ((colW w).map figV))
theorem FV.same {H H' : Hp} {v : V} {w : Str} (h : FV H v w) (s : ∀ a o, v = .ref a → H a = some o → H' a = some o) : FV H' v w := by
  obtain ⟨a, e, h⟩ := h
  exact ⟨a, e, s _ _ e h⟩
theorem dp_figs {K : PySem.W.Frag} {H : Hp} : ∀ (os : List (Option Int)), DpAll K H (os.map figV) (os.map figD)
  | [] => .nil
  | none :: r => .cons .non (dp_figs r)
  | some i :: r => .cons (.int i) (dp_figs r)
theorem an_figs {K : PySem.W.Frag} {H : Hp} : ∀ (os : List (Option Int)), AnAll K H (os.map figV) (os.map figTT)
  | [] => .nil
  | o :: r => .cons (an_fig o) (an_figs r)
theorem dp_fvs {K : PySem.W.Frag} {H : Hp} : ∀ {vs : List V} {ws : List Str}, Paired (FV H) vs ws → DpAll K H vs (ws.map colD)
  | _, _, .nil => .nil
  | _, _, .cons ⟨a, e, h⟩ t => by
    subst e
    exact .cons (.tup (SqT.of h) (dp_figs _)) (dp_fvs t)
theorem an_fvs {K : PySem.W.Frag} {H : Hp} : ∀ {vs : List V} {ws : List Str}, Paired (FV H) vs ws → AnAll K H vs (ws.map ttW)
  | _, _, .nil => .nil
  | _, _, .cons ⟨a, e, h⟩ t => by
    subst e
    exact .cons (.tup (SqT.of h) (an_figs _)) (an_fvs t)
theorem lay_figs : ∀ os : List (Option Int), PyData.canLayAll0 (os.map figD) = true ∧ PyData.depthAll (os.map figD) ≤ 0
  | [] => ⟨rfl, by decide⟩
  | none :: r => by
    obtain ⟨h1, h2⟩ := lay_figs r
    exact ⟨by show (true && PyData.canLayAll0 (r.map figD)) = true; rw [h1]; rfl, by show max 0 (PyData.depthAll (r.map figD)) ≤ 0; omega⟩
  | some i :: r => by
    obtain ⟨h1, h2⟩ := lay_figs r
    exact ⟨by show (true && PyData.canLayAll0 (r.map figD)) = true; rw [h1]; rfl, by show max 0 (PyData.depthAll (r.map figD)) ≤ 0; omega⟩
theorem lay_cols : ∀ ws : List Str, PyData.canLayAll0 (ws.map colD) = true ∧ PyData.depthAll (ws.map colD) ≤ 1
  | [] => ⟨rfl, by decide⟩
  | w :: r => by
    obtain ⟨h1, h2⟩ := lay_cols r
    obtain ⟨g1, g2⟩ := lay_figs (colW w)
    exact ⟨by show (PyData.canLayAll0 ((colW w).map figD) && PyData.canLayAll0 (r.map colD)) = true; rw [h1, g1]; rfl, by show max (PyData.depthAll ((colW w).map figD) + 1) (PyData.depthAll (r.map colD)) ≤ 1; omega⟩
theorem shaped_cols (ws : List Str) : SeqAt.shaped (.list (ws.map colD)) = true := by
  obtain ⟨h1, h2⟩ := lay_cols ws
  unfold SeqAt.shaped
  rw [Bool.and_eq_true]
  refine ⟨h1, decide_eq_true ?_⟩
  show PyData.depthAll (ws.map colD) + 1 ≤ 64
  omega
theorem eqv_nil : ∀ ws : List Str, PyData.eqv (.list (ws.map colD)) (.list []) = decide (ws = [])
  | [] => rfl
  | _ :: _ => rfl
theorem fvs_pairs {H : Hp} : ∀ {vs : List V} {r : List Str} {ls : List (Int × Int)}, Paired (FV H) vs r → r.map lampF = ls.map some → ∃ as : List Addr, vs = as.map V.ref ∧ Paired (fun a (q : Int × Int) => H a = some (.tup [.int q.1, .int q.2])) as ls
  | _, _, [], .nil, _ => ⟨[], rfl, .nil⟩
  | _, _, _ :: _, .nil, e => by cases e
  | _, _, [], .cons _ _, e => by cases e
  | _, _, q :: ls, .cons ⟨a, ea, h⟩ t, e => by
    obtain ⟨as, e2, h2⟩ := fvs_pairs t (List.cons.inj e).2
    rw [lamp_col (List.cons.inj e).1] at h
    exact ⟨a :: as, by rw [ea, e2]; rfl, .cons h h2⟩
theorem cut5 (xs : List V) : cutV xs (some 5) none = xs.drop 5 := by
  have e : (some (5 : Int)) = some ((5 : Nat) : Int) := rfl
  rw [e, cut_hi]
section
variable {P : Program} {w : World} {K : PySem.W.Frag} {mg : Str → Option Value} {base : Heap}
abbrev nmLRead : List Str := ["_law_said", "_law_rest", "_law_p", "_law_last", "_law_found", "_law_each", "_law_pair", "_law_part"]
theorem scLRead : FnScope nmLRead ["_law_said"] (defScope sLRead) := ⟨rfl, rfl, rfl, by decide +kernel, rfl, by decide +kernel, by decide +kernel⟩
theorem ok_lread {f : Addr} {fd : FuncData} (F : Fun K "_law_read" "_law_read" sLRead f fd) (Fg : Dr P w K mg base spFigure "_law_figure" ["_law_word"] 1) (Il : Dr P w K mg base (spIsLv K) "_law_is_levels" ["_law_value"] 2) (Wl : Dr P w K mg base (spWrongs K) "_law_wrong_lamps" ["_law_p", "_law_value"] 2)
    (ml : mg "len" = none) (mt : mg "tuple" = none) : FnOk P w K mg base CX0 3 f fd ["_law_said"] (spLRead K) := by
  refine F.ok scLRead (fun vs H Q E h => ?_) (fun cdv A outer s H vs Q E hr h => ?_)
  · obtain ⟨s, L, W, rfl, _⟩ := h
    rfl
  · obtain ⟨x, L, W, rfl, hx, hL, hW, qn, q⟩ := h
    have hlx := hx.len
    have hu := hr.units
    refine ⟨_, pss_cons (ps_set (i := 1) scLRead.nd rfl (.inl rfl) (pe_split (pv 0) pe_str))
      (pss_cons (ps_if (PW.pt (pw_or (pt_cmpR op_lt (pe_callB call_len_seq (by rfl) ml PySem.boot_len (pa_cons (pv 1) pa_nil)) pe_int (nomark _)) (pw_or (pt_cmpR op_ne (pe_ix ix_list (pv 1) pe_int (fun _ _ => rfl)) pe_str (nomark _)) (pw_or (pt_cmpR op_ne (pe_ix ix_list (pv 1) pe_int (fun _ _ => rfl)) pe_str (nomark _)) (pw_or1 (pt_cmpR op_inS pe_str (pv 0) (by rfl))))))) (pss_one (ps_ret (pe_lst pa_nil))) pss_nil)
      (pss_cons (ps_par (i := 2) (j := 3) rfl scLRead.nd rfl rfl (by decide) rfl rfl (pa_cons (pe_dr Fg (by decide) hr rfl (pa_cons (pe_ix ix_list (pv 1) pe_int (fun _ _ => rfl)) pa_nil)) (pa_cons (pe_dr Fg (by decide) hr rfl (pa_cons (pe_ix ix_list (pv 1) pe_int (fun _ _ => rfl)) pa_nil)) pa_nil)) (by rfl))
      (pss_cons (ps_if (PW.pt (pw_or (pt_not (pt_val (pe_dr Il (by decide) hr rfl (pa_cons (pv 2) pa_nil)))) (pw_or1 (pt_cmpR op_isN1 (pv 3) pe_non (nomark _))))) (pss_one (ps_ret (pe_lst pa_nil))) pss_nil)
      (pss_cons (ps_if (pt_cmpR (op_eqD hu) (pe_slice (r := rSlL K) sl_list (pv 1) (po_some pe_int) po_none) (pe_lst (pa_cons pe_str pa_nil)) (nomark _)) (pss_one (ps_ret (pe_lst (pa_cons (pv 2) (pa_cons (pe_tup pa_nil) (pa_cons (pv 3) pa_nil)))))) pss_nil)
      (pss_cons (ps_set (i := 4) scLRead.nd rfl (.inl rfl) (pe_lst pa_nil))
      (pss_cons (ps_for PassesOwn.never rfl (pi_list (pe_slice (r := rSlL K) sl_list (pv 1) (po_some pe_int) po_none)) (pg_name (i := 5) scLRead.nd rfl (.inl rfl))
        (pss_cons (ps_set (i := 6) scLRead.nd rfl (.inl rfl) (pe_split (pv 5) pe_str))
        (pss_one (ps_expr (pe_bm PySem.F.plainAttrs_list PySem.F.slot_list_append PySem.F.type_list_append mt_append (pv 4) (pa_cons (pe_callTy call_tuple_of (by rfl) mt (by decide +kernel) (pa_cons (pe_lc (own := [("_law_part", 7)]) (g := gName 7) (tt := tYes) rfl scLRead.nd (pi_list (pv 6))
          (blkOk_by (own := [("_law_part", 7)]) (N := nmLRead) (sc := defScope sLRead) (by decide +kernel)) (fun _ _ _ _ _ => pg_name (i := 7) scLRead.nd rfl (Or.inl rfl)) (fun _ _ _ _ _ => pts_nil)
          (fun _ _ _ _ _ => pe_dr Fg (by decide) hr rfl (pa_cons (pv 7) pa_nil))) pa_nil)) pa_nil))))))
      (pss_cons (ps_if (PW.pt (pw_or (pt_cmpR op_ne (pe_ix ix_list (pv 1) pe_int (fun _ _ => rfl)) pe_str (nomark _)) (pw_or (pt_cmpR (op_eqD hu) (pv 4) (pe_lst pa_nil) (nomark _)) (pw_or1 (pt_cmpR (op_neD hu) (pe_dr Wl (by decide) hr rfl (pa_cons (pv 2) (pa_cons (pe_callTy call_tuple_of (by rfl) mt (by decide +kernel) (pa_cons (pv 4) pa_nil)) pa_nil))) (pe_lst pa_nil) (nomark _)))))) (pss_one (ps_ret (pe_lst pa_nil))) pss_nil)
      (pss_one (ps_ret (pe_lst (pa_cons (pv 2) (pa_cons (pe_callTy call_tuple_of (by rfl) mt (by decide +kernel) (pa_cons (pv 4) pa_nil)) (pa_cons (pv 3) pa_nil))))))))))))), ?_⟩
    have nilR : ∀ {H2 : Hp} {σ : L2.St} {D : Ends}, D.rt = Q → Same H H2 → readW (spW x) = none → tRet (tLst tNil) D σ H2 := fun {H2 σ D} e s hn => by
      refine ⟨le_line (by show 0 ≤ 1000; decide), fun l nl => ?_⟩
      rw [e]
      exact qn hn l _ (s.trans (same_of nl)) upd_same
    refine ⟨_, rfl, ⟨_, rfl⟩, _, (" " : Str), rfl, rfl, rfl, ?_, ?_⟩
    · have : (1000 : Nat) ≤ sizeLine := by decide
      omega
    intro wl nwl
    have s1 := same_of (o := .lst ((spW x).map V.str)) nwl
    have h1 : (upd H wl (.lst ((spW x).map V.str))) wl = some (.lst ((spW x).map V.str)) := upd_same
    have hwd : ∀ y ∈ spW x, y.length ≤ 560 ∧ ∀ c ∈ tl y, c < 128 := fun y hy => ⟨Nat.le_trans (hx.word hy).1 hW, (hx.word hy).2⟩
    have hcnt := words_len x
    have hnl := read_nl (s := x)
    show tSeq _ _ _ _ (upd H wl (.lst ((spW x).map V.str)))
    revert s1 h1 hwd hcnt qn q nilR hnl
    generalize (upd H wl (.lst ((spW x).map V.str))) = H1
    generalize spW x = ws
    intro qn q nilR s1 h1 hwd hcnt hnl
    have hl0 : Val (tCB (fun xs H Q => ∃ p ys, xs = [.ref p] ∧ (SqL K H p ys ∨ SqT K H p ys) ∧ Q (.int ys.length) H) (tCons (tVar 1) tNil)) [some (.str x), some (.ref wl), none, none, none, none, none, none] H1 (.int (((ws.map V.str).length : Nat) : Int)) := lv_len (val_var rfl) (SqL.of h1)
    rw [List.length_map] at hl0
    have pn : partsF ws = none → readW ws = none := fun e => by unfold readW; rw [e]
    by_cases h5 : ws.length < 5
    · refine sq_yes (ans_or1 (an_lt hl0 val_c (decide_eq_true (by omega)))) ?_
      exact nilR rfl s1 (pn (parts_short h5))
    have n5 := an_lt (b := false) (y := 5) hl0 val_c (decide_eq_false (by omega))
    obtain ⟨a, pw, b, ew, y, r, rfl⟩ := five h5
    have ep : partsF (a :: pw :: b :: ew :: y :: r) = if a = ("levels" : Str) ∧ b = ("end" : Str) then (match figS pw, figS ew, lampsF (y :: r) with
      | some p, some e, some ls => some (p, ls, e)
      | _, _, _ => none) else none := rfl
    have va : Val (tOp (rIxL K) (tVar 1) (tC (.int 0))) [some (.str x), some (.ref wl), none, none, none, none, none, none] H1 (.str a) := val_op (val_var rfl) val_c (lv_ix h1 (L2.at_of (j := 0) rfl rfl))
    have vb : Val (tOp (rIxL K) (tVar 1) (tC (.int 2))) [some (.str x), some (.ref wl), none, none, none, none, none, none] H1 (.str b) := val_op (val_var rfl) val_c (lv_ix h1 (L2.at_of (j := 2) rfl rfl))
    by_cases ha : a = ("levels" : Str)
    case neg =>
      refine sq_yes (ans_or n5 (ans_or1 (ans_ne (x := .str a) (y := .str ("levels" : Str)) va val_c rfl (by rw [decide_eq_false (fun z => ha (V.str.inj z))]; rfl)))) ?_
      exact nilR rfl s1 (pn (by rw [ep, if_neg fun z => ha z.1]))
    have na := ans_ne (x := .str a) (y := .str ("levels" : Str)) (b := false) va val_c rfl (by rw [decide_eq_true (by rw [ha])]; rfl)
    by_cases hb : b = ("end" : Str)
    case neg =>
      refine sq_yes (ans_or n5 (ans_or na (ans_or1 (ans_ne (x := .str b) (y := .str ("end" : Str)) vb val_c rfl (by rw [decide_eq_false (fun z => hb (V.str.inj z))]; rfl))))) ?_
      exact nilR rfl s1 (pn (by rw [ep, if_neg fun z => hb z.2]))
    have nb := ans_ne (x := .str b) (y := .str ("end" : Str)) (b := false) vb val_c rfl (by rw [decide_eq_true (by rw [hb])]; rfl)
    by_cases hc : 10 ∈ tl x
    case pos =>
      refine sq_yes (ans_or n5 (ans_or na (ans_or nb (ans_in (c := 10) (w := x) val_c (val_var rfl) (decide_eq_true hc))))) ?_
      exact nilR rfl s1 (hnl hc)
    refine sq_no (ans_or n5 (ans_or na (ans_or nb (ans_in (c := 10) (w := x) val_c (val_var rfl) (decide_eq_false hc))))) ?_
    rw [if_pos ⟨ha, hb⟩] at ep
    refine ⟨_, rfl, wl, _, 1, .str pw, rfl, rfl, SqL.of h1, L2.at_of (j := 1) rfl rfl, pw, rfl, (hwd pw (by simp)).1, (hwd pw (by simp)).2, fun H2 s2 => ?_⟩
    have h2 := s2 _ _ h1
    refine ⟨_, rfl, wl, _, 3, .str ew, rfl, rfl, SqL.of h2, L2.at_of (j := 3) rfl rfl, ew, rfl, (hwd ew (by simp)).1, (hwd ew (by simp)).2, fun H3 s3 => ⟨_, _, rfl, ?_⟩⟩
    have s13 := (s1.trans s2).trans s3
    dsimp only [List.set]
    refine ⟨_, rfl, figV (figS pw), figTT (figS pw), rfl, an_fig _, fun H4 s4 => ⟨_, rfl, ?_⟩⟩
    have s14 := s13.trans s4
    cases el : levelsB (figTT (figS pw)) with
    | false =>
      refine iteT (iteT ?_)
      refine nilR rfl s14 ?_
      unfold readW
      rw [ep]
      cases e1 : figS pw with
      | none => rfl
      | some p =>
        rw [e1] at el
        have el : levelsB (.int p) = false := el
        cases figS ew with
        | none => rfl
        | some e =>
          cases lampsF (y :: r) with
          | none => rfl
          | some ls =>
            show (if (levelsB (.int p) && judgeB p ls) = true then _ else none) = none
            rw [el]
            rfl
    | true =>
      refine iteF ?_
      cases e1 : figS pw with
      | none => rw [e1] at el; cases el
      | some p =>
        rw [e1] at el ep
        have el : levelsB (.int p) = true := el
        cases e2 : figS ew with
        | none =>
          rw [e2] at ep
          refine (isN_fig (o := none) rfl) _ (iteT ?_)
          exact nilR rfl s14 (pn ep)
        | some e =>
          rw [e2] at ep
          refine (isN_fig (o := some e) rfl) _ (iteF ?_)
          have h4 := s4 _ _ (s3 _ _ h2)
          dsimp only [tNext]
          refine ⟨_, rfl, 4, rfl, wl, _, rfl, SqL.of h4, fun c nc => ⟨le_line (by show 1 ≤ 1000; decide), fun d nd => ?_⟩⟩
          rw [cut4] at nd ⊢
          have sc := same_of (o := .lst (((a :: pw :: b :: ew :: y :: r).map V.str).drop 4)) nc
          have sd := same_of (o := .lst [V.str ("dark" : Str)]) nd
          have hyr : ∀ z ∈ y :: r, z.length ≤ 560 ∧ ∀ c ∈ tl z, c < 128 := fun z hz => hwd z (by simp at hz ⊢; rcases hz with h | h <;> simp [h])
          refine ⟨.list ((y :: r).map PyData.str), .list [.str ("dark" : Str)], .lst (SqL.of (sd _ _ upd_same)) (dp_strs (y :: r)), .lst (SqL.of upd_same) (.cons (.str _) .nil), shaped_strs fun z hz => (hyr z hz).2, by decide +kernel, _, by rw [strs_dark], ?_⟩
          have s5 := (s14.trans sc).trans sd
          by_cases hdark : y :: r = [("dark" : Str)]
          · rw [decide_eq_true hdark]
            refine iteT ?_
            have er : readW (a :: pw :: b :: ew :: y :: r) = some (p, [], e) := by
              unfold readW
              rw [ep]
              have : lampsF (y :: r) = some [] := by unfold lampsF; rw [if_pos hdark]
              rw [this]
              show (if (levelsB (.int p) && judgeB p []) = true then _ else none) = _
              rw [el]
              rfl
            refine ⟨_, rfl, le_line (by show 0 ≤ 1000; decide), fun t nt => ⟨_, rfl, le_line (by show 3 ≤ 1000; decide), fun l nl => ?_⟩⟩
            have st := same_of (o := .tup []) nt
            have sl := same_of (o := .lst [V.int p, V.ref t, V.int e]) nl
            exact q p [] e er l t _ ((s5.trans st).trans sl) upd_same ⟨[], sl _ _ upd_same, .nil⟩
          · rw [decide_eq_false hdark]
            refine iteF ?_
            have elam : lampsF (y :: r) = if y = ("lamps" : Str) ∧ r ≠ [] then allL r else none := by
              unfold lampsF
              rw [if_neg hdark]
            have h5 := sd _ _ (sc _ _ h4)
            revert h5 s5
            generalize (upd (upd H4 c (.lst (((a :: pw :: b :: ew :: y :: r).map V.str).drop 4))) d (.lst [V.str ("dark" : Str)])) = H5
            intro s5 h5
            dsimp only [tNext]
            refine ⟨le_line (by show 0 ≤ 1000; decide), fun fl nf => ?_⟩
            dsimp only [gName, List.set]
            have sf := same_of (o := .lst []) nf
            have hf6 : (upd H5 fl (.lst [])) fl = some (.lst []) := upd_same
            have h6 := sf _ _ h5
            have s6 := s5.trans sf
            have nfH : H fl = none := s5.free nf
            have wlfl : wl ≠ fl := fun z => by rw [z, nf] at h5; cases h5
            revert hf6 h6 s6
            generalize (upd H5 fl (.lst [])) = H6
            intro hf6 h6 s6
            refine ⟨_, rfl, 5, rfl, wl, _, rfl, SqL.of h6, fun k nk => ?_⟩
            rw [cut5]
            have sk := same_of (o := .lst (((a :: pw :: b :: ew :: y :: r).map V.str).drop 5)) nk
            have hk : (upd H6 k (.lst (((a :: pw :: b :: ew :: y :: r).map V.str).drop 5))) k = some (.lst (r.map V.str)) := upd_same
            have h7 := sk _ _ h6
            have hf7 := sk _ _ hf6
            have kfl : k ≠ fl := fun z => by rw [z, hf6] at nk; cases nk
            have s7 := s6.trans sk
            revert hk h7 hf7 s7
            generalize (upd H6 k (.lst (((a :: pw :: b :: ew :: y :: r).map V.str).drop 5))) = H7
            intro hk h7 hf7 s7
            have hrl : r.length ≤ 796 := by
              simp only [List.length_cons] at hcnt
              omega
            refine ⟨k, rfl, ⟨_, SqL.of hk⟩, for_list (K := K) (a := k) (xs := r.map V.str) (fun i σ H' => ∃ u5 u6, σ = [some (.str x), some (.ref wl), some (.int p), some (.int e), some (.ref fl), u5, u6, none] ∧ But fl H7 H' ∧ Same H H' ∧ ∃ vs : List V, H' fl = some (.lst vs) ∧ Paired (fun v w => FV H' v w ∧ v ≠ .ref fl) vs (r.take i))
              ⟨_, _, rfl, But.refl _ _, s7, [], hf7, by rw [List.take_zero]; exact .nil⟩ (fun i σ H' _ z => ?_) (fun i v σ H' hi z => ?_) (fun σ H' z => ?_)⟩
            · obtain ⟨_, _, _, bt, _⟩ := z
              exact SqL.of (bt _ _ kfl hk)
            · obtain ⟨u5, u6, rfl, bt, s8, vs, hfl, hpa⟩ := z
              rw [List.getElem?_map] at hi
              cases eq : r[i]? with
              | none => rw [eq] at hi; cases hi
              | some ww =>
                rw [eq] at hi
                cases (Option.some.inj hi)
                have hww := hyr ww (List.mem_cons_of_mem _ (List.mem_of_getElem? eq))
                obtain ⟨cp1, cp2⟩ := col_parts _ ww (Nat.le_refl _)
                refine ⟨_, rfl, ⟨_, rfl⟩, _, (":" : Str), rfl, rfl, rfl, ?_, ?_⟩
                · have : (1000 : Nat) ≤ sizeLine := by decide
                  omega
                intro pl npl
                dsimp only [gName, List.set]
                have sp := same_of (o := .lst ((Txt.split ww ":").map V.str)) npl
                have hpl : (upd H' pl (.lst ((Txt.split ww ":").map V.str))) pl = some (.lst ((Txt.split ww ":").map V.str)) := upd_same
                show tDrop _ _ _ (upd H' pl (.lst ((Txt.split ww ":").map V.str)))
                revert sp hpl
                generalize (upd H' pl (.lst ((Txt.split ww ":").map V.str))) = H8
                intro sp hpl
                have hfl8 := sp _ _ hfl
                refine ⟨_, rfl, .inl ⟨rfl, _, SqL.of hfl8⟩, ?_⟩
                refine ⟨_, rfl, pl, rfl, ⟨_, SqL.of hpl⟩, fun D hD => ?_⟩
                refine lc_list (K := K) (a := pl) (xs := (Txt.split ww ":").map V.str) (fun j H9 => Same H8 H9 ∧ H9 D = some (.lst (((((Txt.split ww ":").take j).map figS).map figV))))
                  ⟨same_of hD, by rw [List.take_zero]; exact upd_same⟩ (fun j H9 _ z => SqL.of (z.1 _ _ hpl)) (fun j u H9 hj z => ?_) (fun H9 z => ?_)
                · obtain ⟨s9, hD9⟩ := z
                  rw [List.getElem?_map] at hj
                  cases eqj : (Txt.split ww ":")[j]? with
                  | none => rw [eqj] at hj; cases hj
                  | some pt =>
                    rw [eqj] at hj
                    cases (Option.some.inj hj)
                    obtain ⟨g1, g2⟩ := cp2 pt (List.mem_of_getElem? eqj)
                    refine ⟨rfl, ?_⟩
                    refine ⟨_, rfl, pt, rfl, by omega, fun c hc => hww.2 c (g2 c hc), fun HA sA => ?_⟩
                    refine ⟨_, sA _ _ hD9, ?_, fun b' o' e' => ?_, ?_⟩
                    · rw [List.length_map, List.length_map]
                      have := List.length_take_le j (Txt.split ww ":")
                      have h1000 : (1000 : Nat) ≤ sizeLine := by decide
                      have := List.length_take_le' j (Txt.split ww ":")
                      exact small1000 (by omega)
                    · rw [upd_ne (ne_of_none e' hD)]
                      exact sA _ _ (s9 _ _ e')
                    · rw [List.take_add_one, eqj, List.map_append, List.map_append]
                      exact upd_same
                · obtain ⟨s9, hD9⟩ := z
                  rw [List.length_map, List.take_length] at hD9
                  refine ⟨D, _, rfl, .inl ⟨SqL.of hD9, fun t nt => ?_⟩⟩
                  have st := same_of (o := .tup (((Txt.split ww ":").map figS).map figV)) nt
                  have sAll := (sp.trans s9).trans st
                  have hflT := st _ _ (s9 _ _ hfl8)
                  have nt0 : H' t = none := (sp.trans s9).free nt
                  have tfl : t ≠ fl := fun z => by rw [z, hfl] at nt0; cases nt0
                  have lvs := Paired.length hpa
                  rw [List.length_take] at lvs
                  refine ⟨fl, vs, _, rfl, rfl, hflT, small1000 (by omega), ?_⟩
                  have keep : ∀ {v' : V} {w' : Str} {vs' : List V}, FV H' v' w' → v' ≠ .ref fl → FV (upd (upd H9 t (.tup (((Txt.split ww ":").map figS).map figV))) fl (.lst vs')) v' w' := fun {v' w' vs'} h n => h.same fun a' o' e' h' => by
                    rw [upd_ne (fun z => n (by rw [e', z]))]
                    exact sAll _ _ h'
                  refine ⟨_, _, rfl, fun b' o' n' e' => ?_, fun b' o' e' => ?_, vs ++ [.ref t], upd_same, ?_⟩
                  · rw [upd_ne n']
                    exact sAll _ _ (bt _ _ n' e')
                  · rw [upd_ne (ne_of_none e' nfH)]
                    exact sAll _ _ (s8 _ _ e')
                  · rw [List.take_add_one, eq]
                    refine paired_app (L2.Paired.mapP hpa fun v' o hz => ⟨keep hz.1 hz.2, hz.2⟩) (.cons ⟨⟨t, rfl, ?_⟩, fun z => tfl (by cases z; rfl)⟩ .nil)
                    rw [upd_ne tfl]
                    exact upd_same
            · obtain ⟨u5, u6, rfl, bt, s8, vs, hfl, hpa⟩ := z
              rw [List.length_map, List.take_length] at hpa
              have hpb : Paired (FV H') vs r := L2.Paired.mapP hpa fun v o hz => hz.1
              have lvs := Paired.length hpb
              have h8 := bt _ _ wlfl h7
              have bad : ∀ {H2 : Hp} {σ : L2.St} {D : Ends}, D.rt = Q → Same H' H2 → (∀ ls, lampsF (y :: r) = some ls → judgeB p ls = false) → tRet (tLst tNil) D σ H2 := fun {H2 σ D} e s hn => by
                refine nilR e (s8.trans s) ?_
                unfold readW
                rw [ep]
                cases el2 : lampsF (y :: r) with
                | none => rfl
                | some ls =>
                  show (if (levelsB (.int p) && judgeB p ls) = true then _ else none) = none
                  rw [hn ls el2, Bool.and_false]
                  rfl
              by_cases hy : y = ("lamps" : Str)
              case neg =>
                refine sq_yes (ans_or1 (ans_ne (x := .str y) (y := .str ("lamps" : Str)) (val_op (val_var rfl) val_c (lv_ix h8 (L2.at_of (j := 4) rfl rfl))) val_c rfl (by rw [decide_eq_false (fun z => hy (V.str.inj z))]; rfl))) ?_
                exact bad rfl (Same.refl H') fun ls e => by rw [elam, if_neg fun z => hy z.1] at e; cases e
              refine (ans_ne (b := false) (x := .str y) (y := .str ("lamps" : Str)) (val_op (val_var rfl) val_c (lv_ix h8 (L2.at_of (j := 4) rfl rfl))) val_c rfl (by rw [decide_eq_true (by rw [hy])]; rfl)) _ (iteF ?_)
              refine ⟨_, rfl, le_line (by show 0 ≤ 1000; decide), fun d2 nd2 => ?_⟩
              have sd2 := same_of (o := .lst []) nd2
              refine ⟨.list (r.map colD), .list [], .lst (SqL.of (sd2 _ _ hfl)) (dp_fvs (L2.Paired.mapP hpb fun v w hz => hz.same fun a' o' _ h => sd2 _ _ h)), .lst (SqL.of upd_same) .nil, shaped_cols r, by decide, _, by rw [eqv_nil], ?_⟩
              by_cases hr0 : r = []
              · rw [decide_eq_true hr0]
                refine iteT (iteT ?_)
                exact bad rfl sd2 fun ls e => by rw [elam, if_neg fun z => z.2 hr0] at e; cases e
              rw [decide_eq_false hr0]
              refine iteF ?_
              rw [if_pos ⟨hy, hr0⟩] at elam
              refine ⟨_, rfl, _, rfl, fl, vs, rfl, .inl ⟨SqL.of (sd2 _ _ hfl), fun t nt => ?_⟩⟩
              have st := same_of (o := .tup vs) nt
              have s2t := sd2.trans st
              refine ⟨p, .ref t, .tup (r.map ttW), rfl, .tup (SqT.of upd_same) (an_fvs (L2.Paired.mapP hpb fun v w hz => hz.same fun a' o' _ h => s2t _ _ h)), fun h => (by cases h), fun ts' et => ?_⟩
              cases et
              refine ⟨by rw [List.length_map]; omega, fun j hj l HA sA hl => ⟨le_line (by show 0 ≤ 1000; decide), fun l2 nl2 => ?_⟩⟩
              have sl2 := same_of (o := .lst []) nl2
              have sA2 := (s2t.trans sA).trans sl2
              cases j with
              | some i =>
                refine ⟨.list [.int (i : Int)], .list [], .lst (SqL.of (sl2 _ _ hl)) (.cons (.int _) .nil), .lst (SqL.of upd_same) .nil, rfl, by decide, true, rfl, ?_⟩
                refine iteT ?_
                refine bad rfl sA2 fun ls e => ?_
                rw [elam] at e
                cases hb : judgeB p ls with
                | false => rfl
                | true =>
                  have := judgeB_iff.mp hb
                  rw [← allL_tt e] at this
                  cases this.one hj
              | none =>
                refine ⟨.list [], .list [], .lst (SqL.of (sl2 _ _ hl)) .nil, .lst (SqL.of upd_same) .nil, by decide, by decide, false, rfl, ?_⟩
                refine iteF ?_
                cases ea : allL r with
                | none => exact absurd hj (allL_nt ea)
                | some ls =>
                  rw [ea] at elam
                  have hjb : judgeB p ls = true := judgeB_iff.mpr (by rw [← allL_tt ea]; exact hj)
                  have er : readW (a :: pw :: b :: ew :: y :: r) = some (p, ls, e) := by
                    unfold readW
                    rw [ep, elam]
                    show (if (levelsB (.int p) && judgeB p ls) = true then _ else none) = _
                    rw [el, hjb]
                    rfl
                  dsimp only [tNext]
                  refine ⟨_, rfl, _, rfl, fl, vs, rfl, .inl ⟨SqL.of (sA2 _ _ hfl), fun t2 nt2 => ⟨_, rfl, le_line (by show 3 ≤ 1000; decide), fun l3 nl3 => ?_⟩⟩⟩
                  have s3a := same_of (o := .tup vs) nt2
                  have s3b := same_of (o := .lst [V.int p, V.ref t2, V.int e]) nl3
                  have sB := (sA2.trans s3a).trans s3b
                  obtain ⟨as, eas, hps⟩ := fvs_pairs (L2.Paired.mapP hpb fun v w hz => hz.same fun a' o' _ h => sB _ _ h) (allL_some ea)
                  refine q p ls e er l3 t2 _ (s8.trans sB) upd_same ⟨as, ?_, hps⟩
                  rw [← eas]
                  exact s3b _ _ upd_same
end
end Lamp
set_option Elab.async false
set_option linter.all false
set_option maxRecDepth 100000
set_option maxHeartbeats 1000000
namespace Lamp
open PySem PySem.Spec PyProof.Rows L2
open TL (tl tl_append ext_tl numL tl_ofString len_tl)
abbrev sSheet : Stmt := top 34
theorem fits {i : Int} (h1 : -big ≤ i) (h2 : i ≤ big) : i.natAbs < 10 ^ 40 := by
  have hb : big = 1000000000000000000000000000000000000000 := by decide
  rw [hb] at h1 h2
  omega
theorem fits_log {i : Int} (h : i.natAbs < 10 ^ 40) : i.natAbs.log2 < 1920 := Nat.lt_trans (PySem.Flt.log2_lt_of (k := 133) (by decide) (Nat.lt_of_lt_of_le h (by decide))) (by decide)
theorem tl_sheet (lv : Int) (ls : List (Int × Int)) (fin : Int) : tl (sheetS lv ls fin) = TL.joinL [32] ((wordsS lv ls fin).map tl) := by
  unfold sheetS
  rw [TL.join_eq, TL.tl_join]
  rfl
theorem tl_levels : tl ("levels " : Str) = tl ("levels" : Str) ++ [32] := rfl
theorem tl_end : tl (" end " : Str) = [32] ++ (tl ("end" : Str) ++ [32]) := rfl
theorem tl_darks : tl (" dark" : Str) = [32] ++ tl ("dark" : Str) := rfl
theorem tl_lampss : tl (" lamps " : Str) = [32] ++ (tl ("lamps" : Str) ++ [32]) := rfl
theorem tl_lamps : tl ("lamps " : Str) = tl ("lamps" : Str) ++ [32] := rfl
theorem tl_space : tl (" " : Str) = [32] := rfl
theorem tl_none : tl Str.empty = [] := rfl
theorem sheet_dark (lv fin : Int) : Str.empty ++ ("levels " : Str) ++ nS lv ++ (" end " : Str) ++ nS fin ++ (" dark" : Str) = sheetS lv [] fin := by
  refine ext_tl ?_
  rw [tl_sheet]
  simp only [tl_append, tl_levels, tl_end, tl_darks, tl_none, List.nil_append, List.append_assoc]
  rfl
theorem sheet_lamps (lv fin : Int) (l : Int × Int) (r : List (Int × Int)) : Str.empty ++ ("levels " : Str) ++ nS lv ++ (" end " : Str) ++ nS fin ++ (" lamps " : Str) ++ Txt.join (" " : Str) ((l :: r).map lampS) = sheetS lv (l :: r) fin := by
  refine ext_tl ?_
  rw [tl_sheet]
  simp only [tl_append, tl_levels, tl_end, tl_lampss, tl_none, List.nil_append, List.append_assoc, TL.join_eq, TL.tl_join, tl_space]
  rfl
theorem empty_app (x : Str) : Str.empty ++ x = x := ext_tl (by rw [tl_append]; rfl)
theorem len_app (x y : Str) : (x ++ y).length = x.length + y.length := by
  rw [len_tl, tl_append, List.length_append, ← len_tl, ← len_tl]
theorem lampsum : ∀ {ls : List (Int × Int)}, (∀ q ∈ ls, q.1.natAbs < 10 ^ 40 ∧ q.2.natAbs < 10 ^ 40) → ((ls.map lampS).map (·.length)).sum ≤ 83 * ls.length
  | [], _ => Nat.zero_le _
  | q :: r, h => by
    have h1 := h q (List.mem_cons_self ..)
    have h2 := lampS_len h1.1 h1.2
    have h3 := lampsum (ls := r) fun p hp => h p (List.mem_cons_of_mem _ hp)
    rw [List.map_cons, List.map_cons, List.sum_cons, List.length_cons]
    omega
theorem joinlen : ∀ (ps : List (List Nat)), (TL.joinL [32] ps).length ≤ (ps.map (·.length)).sum + ps.length
  | [] => Nat.le_refl _
  | [p] => by show p.length ≤ _; simp
  | p :: q :: r => by
    have h := joinlen (q :: r)
    show (p ++ ([32] ++ TL.joinL [32] (q :: r))).length ≤ _
    rw [List.length_append, List.length_append, List.map_cons, List.sum_cons, List.length_cons (a := p)]
    have e : ([32] : List Nat).length = 1 := rfl
    rw [e]
    omega
theorem joined_len {ls : List (Int × Int)} (h : ∀ q ∈ ls, q.1.natAbs < 10 ^ 40 ∧ q.2.natAbs < 10 ^ 40) : (Txt.join (" " : Str) (ls.map lampS)).length ≤ 84 * ls.length := by
  rw [len_tl, TL.join_eq, TL.tl_join, tl_space]
  have h1 := joinlen ((ls.map lampS).map tl)
  have h2 := lampsum h
  have h3 : (((ls.map lampS).map tl).map (·.length)).sum = ((ls.map lampS).map (·.length)).sum := by
    rw [List.map_map]
    congr 1
  rw [h3] at h1
  simp only [List.length_map] at h1
  omega
theorem sheet_len {lv : Int} {ls : List (Int × Int)} {fin : Int} (h0 : lv.natAbs < 10 ^ 40) (h1 : fin.natAbs < 10 ^ 40) (h : ∀ q ∈ ls, q.1.natAbs < 10 ^ 40 ∧ q.2.natAbs < 10 ^ 40) : (sheetS lv ls fin).length ≤ 110 + 84 * ls.length := by
  have e1 := nS_len h0
  have e2 := nS_len h1
  cases ls with
  | nil =>
    rw [← sheet_dark]
    simp only [len_app]
    have c1 : (Str.empty).length = 0 := rfl
    have c2 : ("levels " : Str).length = 7 := rfl
    have c3 : (" end " : Str).length = 5 := rfl
    have c4 : (" dark" : Str).length = 5 := rfl
    omega
  | cons l r =>
    rw [← sheet_lamps]
    have e3 := joined_len h
    simp only [len_app]
    have c1 : (Str.empty).length = 0 := rfl
    have c2 : ("levels " : Str).length = 7 := rfl
    have c3 : (" end " : Str).length = 5 := rfl
    have c4 : (" lamps " : Str).length = 7 := rfl
    omega
/-- parts whose text is short -/
structure Fit (lv : Int) (ls : List (Int × Int)) (fin : Int) : Prop where
  lv : lv.natAbs < 10 ^ 40
  fin : fin.natAbs < 10 ^ 40
  few : ls.length ≤ 10
  all : ∀ q ∈ ls, q.1.natAbs < 10 ^ 40 ∧ q.2.natAbs < 10 ^ 40
def Asc (x : Str) : Prop := ∀ c ∈ tl x, c < 128
theorem asc_nS (i : Int) : Asc (nS i) := fun c hc => by
  rcases nS_sign hc with e | e <;> omega
theorem asc_app {x y : Str} (h1 : Asc x) (h2 : Asc y) : Asc (x ++ y) := fun c hc => by
  rw [tl_append] at hc
  rcases List.mem_append.mp hc with h | h
  · exact h1 c h
  · exact h2 c h
theorem asc_lampS (q : Int × Int) : Asc (lampS q) := asc_app (asc_app (asc_nS _) (by intro c hc; revert c; decide)) (asc_nS _)
theorem asc_tailWs {ls : List (Int × Int)} : ∀ x ∈ tailWs ls, Asc x := fun x hx => by
  cases ls with
  | nil =>
    rw [List.mem_singleton.mp (show x ∈ [("dark" : Str)] from hx)]
    intro c hc; revert c; decide
  | cons l r =>
    rcases List.mem_cons.mp hx with h | h
    · rw [h]
      intro c hc; revert c; decide
    · obtain ⟨q, _, rfl⟩ := List.mem_map.mp h
      exact asc_lampS q
theorem asc_words {lv : Int} {ls : List (Int × Int)} {fin : Int} : ∀ x ∈ wordsS lv ls fin, Asc x := fun x hx => by
  unfold wordsS at hx
  rcases List.mem_append.mp hx with h | h
  · simp only [List.mem_cons, List.not_mem_nil, or_false] at h
    rcases h with rfl | rfl | rfl | rfl
    · intro c hc; revert c; decide
    · exact asc_nS _
    · intro c hc; revert c; decide
    · exact asc_nS _
  · exact asc_tailWs x h
def prD (q : Int × Int) : PyData := .tuple [.int q.1, .int q.2]
theorem lay_pairs : ∀ (ls : List (Int × Int)), PyData.canLayAll0 (ls.map prD) = true ∧ PyData.depthAll (ls.map prD) ≤ 1
  | [] => ⟨rfl, Nat.zero_le _⟩
  | q :: r => by
    obtain ⟨h1, h2⟩ := lay_pairs r
    refine ⟨?_, ?_⟩
    · show (PyData.canLay0 (prD q) && PyData.canLayAll0 (r.map prD)) = true
      rw [h1, Bool.and_true]
      rfl
    · show max (PyData.depth (prD q)) (PyData.depthAll (r.map prD)) ≤ 1
      have e : PyData.depth (prD q) = 1 := rfl
      rw [e]
      omega
theorem shaped_pairs (ls : List (Int × Int)) : SeqAt.shaped (.list (ls.map prD)) = true ∧ SeqAt.shaped (.tuple (ls.map prD)) = true := by
  obtain ⟨h1, h2⟩ := lay_pairs ls
  unfold SeqAt.shaped
  rw [Bool.and_eq_true, Bool.and_eq_true]
  refine ⟨⟨h1, decide_eq_true ?_⟩, ⟨h1, decide_eq_true ?_⟩⟩
  · show PyData.depthAll (ls.map prD) + 1 ≤ 64
    omega
  · show PyData.depthAll (ls.map prD) + 1 ≤ 64
    omega
theorem dp_pairs {K : PySem.W.Frag} {H : Hp} : ∀ {as : List Addr} {ls : List (Int × Int)}, Paired (fun a (q : Int × Int) => H a = some (.tup [.int q.1, .int q.2])) as ls → DpAll K H (as.map V.ref) (ls.map prD)
  | _, _, .nil => .nil
  | _, _, .cons h t => .cons (.tup (SqT.of h) (.cons (.int _) (.cons (.int _) .nil))) (dp_pairs t)
theorem dp_pic {K : PySem.W.Frag} {H : Hp} {t : Addr} {ls : List (Int × Int)} (h : PicAt K H t ls) : Dp K H (.ref t) (.tuple (ls.map prD)) := by
  obtain ⟨as, h1, h2⟩ := h
  exact .tup (SqT.of h1) (dp_pairs h2)
theorem pair_get {K : PySem.W.Frag} {H : Hp} {t : Addr} {ls : List (Int × Int)} (h : PicAt K H t ls) : ∃ as : List Addr, H t = some (.tup (as.map V.ref)) ∧ as.length = ls.length ∧ ∀ (i : Nat) (a : Addr) (q : Int × Int), as[i]? = some a → ls[i]? = some q → H a = some (.tup [.int q.1, .int q.2]) := by
  obtain ⟨as, h1, h2⟩ := h
  refine ⟨as, h1, Paired.length h2, fun i a q ha hq => ?_⟩
  obtain ⟨q', hq', e⟩ := paired_get h2 ha
  rw [hq] at hq'
  cases hq'
  exact e
theorem sheet_dark2 (lv fin : Int) : ("levels " : Str) ++ nS lv ++ (" end " : Str) ++ nS fin ++ (" " : Str) ++ ("dark" : Str) = sheetS lv [] fin := by
  refine ext_tl ?_
  rw [tl_sheet]
  simp only [tl_append, tl_levels, tl_end, tl_space, List.nil_append, List.append_assoc]
  rfl
theorem sheet_lamps2 (lv fin : Int) (l : Int × Int) (r : List (Int × Int)) : ("levels " : Str) ++ nS lv ++ (" end " : Str) ++ nS fin ++ (" " : Str) ++ (("lamps " : Str) ++ Txt.join (" " : Str) ((l :: r).map lampS)) = sheetS lv (l :: r) fin := by
  refine ext_tl ?_
  rw [tl_sheet]
  simp only [tl_append, tl_levels, tl_end, tl_lamps, tl_space, List.nil_append, List.append_assoc, TL.join_eq, TL.tl_join]
  rfl
def rAddS : R2 := fun x y H Q => ∃ i j, x = .str i ∧ y = .str j ∧ i.length + j.length ≤ sizeLine ∧ Q (.str (i ++ j)) H
theorem op_addS {X : Cx} : OpR X (binaryOp .Add) rAddS := op_add_str
theorem v_cat {ta tb : TE} {σ : L2.St} {H : Hp} {x y : Str} (h1 : Val ta σ H (.str x)) (h2 : Val tb σ H (.str y)) (hl : x.length + y.length ≤ sizeLine) : Val (tOp rAddS ta tb) σ H (.str (x ++ y)) := val_op h1 h2 fun Q q => ⟨x, y, rfl, rfl, hl, q⟩
theorem v_str {ta : TE} {σ : L2.St} {H : Hp} {i : Int} (h : Val ta σ H (.int i)) (hi : i.natAbs < 10 ^ 40) : Val (tCB (fun xs H Q => ∃ i, xs = [.int i] ∧ i.natAbs.log2 < 1920 ∧ Q (.str (toString i)) H) (tCons ta tNil)) σ H (.str (nS i)) := fun Q q => h _ ⟨i, rfl, fits_log hi, q⟩
theorem Parts.Ok.fit {r : Parts} (h : r.Ok) : Fit r.lv r.ls r.fin := by
  have hb : (7 : Int) ≤ big := by decide
  have hn : -big ≤ 1 := by decide
  refine ⟨fits (by rcases h.lv with e | e | e | e <;> omega) (by rcases h.lv with e | e | e | e <;> omega), fits h.lo h.hi, Nat.le_trans h.pic.few (by decide), fun q hq => ⟨fits (h.pic.pl q hq).1 (h.pic.pl q hq).2, ?_⟩⟩
  have z := h.pic.lv q hq
  exact fits (by omega) (by rcases h.lv with e | e | e | e <;> omega)
def spSheet (K : PySem.W.Frag) : Sp := fun vs H Q _ => ∃ (l t : Addr) (r : Parts), vs = [.ref l] ∧ PartsAt K H l t r ∧ r.Ok ∧ ∀ H', Same H H' → Q (.str (sheetS r.lv r.ls r.fin)) H'
section
variable {P : Program} {w : World} {K : PySem.W.Frag} {mg : Str → Option Value} {base : Heap} {C : Addr}
theorem scSheet : FnScope ["_law_parts_here", "_law_p", "_law_lamps_here", "_law_last", "_law_tail", "_law_at", "_law_level"] ["_law_parts_here"] (defScope sSheet) := ⟨rfl, rfl, rfl, by decide +kernel, rfl, by decide +kernel, by decide +kernel⟩
theorem ok_sheet {f : Addr} {fd : FuncData} (F : Fun K "_law_sheet" "_law_sheet" sSheet f fd) (ms : mg "str" = none) : FnOk P w K mg base CX0 1 f fd ["_law_parts_here"] (spSheet K) := by
  refine F.ok scSheet (fun vs H Q E h => ?_) (fun cdv A outer s H vs Q E hr h => ?_)
  · obtain ⟨l, t, r, rfl, _⟩ := h
    rfl
  · obtain ⟨l, t, ⟨lv, ls, fin⟩, rfl, ⟨hl, hp⟩, hok, q⟩ := h
    have hu := hr.units
    have hf : Fit lv ls fin := hok.fit
    have few : ls.length ≤ 5 := hok.pic.few
    replace hp : PicAt K H t ls := hp
    replace hl : H l = some (.lst [.int lv, .ref t, .int fin]) := hl
    replace q : ∀ H', Same H H' → Q (.str (sheetS lv ls fin)) H' := q
    obtain ⟨as, ht, hlen, hat⟩ := pair_get hp
    have e1 := nS_len hf.lv
    have e2 := nS_len hf.fin
    have c1 : ("levels " : Str).length = 7 := rfl
    have c2 : (" end " : Str).length = 5 := rfl
    have c3 : ("dark" : Str).length = 4 := rfl
    have c4 : ("lamps " : Str).length = 6 := rfl
    have c5 : (":" : Str).length = 1 := rfl
    have c6 : (" " : Str).length = 1 := rfl
    refine ⟨_, pss_cons (ps_asg (pv 0) (pg_unl rfl (pgs_cons (pg_name (i := 1) scSheet.nd rfl (.inl rfl)) (pgs_cons (pg_name (i := 2) scSheet.nd rfl (.inl rfl)) (pgs_cons (pg_name (i := 3) scSheet.nd rfl (.inl rfl)) pgs_nil)))))
      (pss_cons (ps_set (i := 4) scSheet.nd rfl (.inl rfl) pe_str)
      (pss_cons (ps_if (pt_cmpR (op_neD hu) (pv 2) (pe_tup pa_nil) (nomark _))
        (pss_one (ps_set (i := 4) scSheet.nd rfl (.inl rfl) (pe_op op_addS pe_str (pe_join pe_str (pe_lc (own := [("_law_at", 5), ("_law_level", 6)]) (g := gTup K 2 (gCons (gName 5) (gCons (gName 6) gNil))) (tt := tYes) rfl scSheet.nd (pi_tup (pv 2))
          (blkOk_by (own := [("_law_at", 5), ("_law_level", 6)]) (N := ["_law_parts_here", "_law_p", "_law_lamps_here", "_law_last", "_law_tail", "_law_at", "_law_level"]) (sc := defScope sSheet) (by decide +kernel))
          (fun _ _ _ _ _ => pg_tup rfl (pgs_cons (pg_name (i := 5) scSheet.nd rfl (Or.inl rfl)) (pgs_cons (pg_name (i := 6) scSheet.nd rfl (Or.inl rfl)) pgs_nil))) (fun _ _ _ _ _ => pts_nil)
          (fun _ _ _ _ _ => pe_op op_addS (pe_op op_addS (pe_callTy call_str_int (by rfl) ms (by decide +kernel) (pa_cons (pv 5) pa_nil)) pe_str) (pe_callTy call_str_int (by rfl) ms (by decide +kernel) (pa_cons (pv 6) pa_nil)))))))) pss_nil)
      (pss_one (ps_ret (pe_op op_addS (pe_op op_addS (pe_op op_addS (pe_op op_addS (pe_op op_addS pe_str (pe_callTy call_str_int (by rfl) ms (by decide +kernel) (pa_cons (pv 1) pa_nil))) pe_str) (pe_callTy call_str_int (by rfl) ms (by decide +kernel) (pa_cons (pv 3) pa_nil))) pe_str) (pv 4)))))), ?_⟩
    refine ⟨_, rfl, l, _, rfl, SqL.of hl, rfl, _, _, rfl, _, _, rfl, _, _, rfl, rfl, ?_⟩
    refine sq_set (v := .str ("dark" : Str)) val_c ?_
    cases ls with
    | nil =>
      have ea : as = [] := List.length_eq_zero_iff.mp hlen
      subst ea
      refine ⟨_, rfl, le_line (by show 0 ≤ 1000; decide), fun p np => ?_⟩
      have s1 := same_of (o := .tup []) np
      refine ⟨.tuple [], .tuple [], .tup (SqT.of (s1 _ _ ht)) .nil, .tup (SqT.of upd_same) .nil, by decide +kernel, by decide +kernel, false, rfl, ?_⟩
      refine iteF ?_
      dsimp only [tNext]
      refine st_ret (v := .str (sheetS lv [] fin)) ?hv ?hq
      case hq => exact q _ s1
      rw [← sheet_dark2]
      refine v_cat (v_cat (v_cat (v_cat (v_cat val_c (v_str (val_var rfl) hf.lv) ?_) val_c ?_) (v_str (val_var rfl) hf.fin) ?_) val_c ?_) (val_var rfl) ?_
      all_goals
        first | exact le_line (by omega) | (simp only [len_app]; exact le_line (by omega))
    | cons q0 r0 =>
      refine ⟨_, rfl, le_line (by show 0 ≤ 1000; decide), fun p np => ?_⟩
      have s1 := same_of (o := .tup []) np
      refine ⟨.tuple ((q0 :: r0).map prD), .tuple [], dp_pic (PicAt.same (H := H) hp s1), .tup (SqT.of upd_same) .nil, (shaped_pairs (q0 :: r0)).2, by decide +kernel, true, rfl, ?_⟩
      refine iteT ?_
      have ht1 := s1 _ _ ht
      have hat1 : ∀ (i : Nat) (a : Addr) (q : Int × Int), as[i]? = some a → (q0 :: r0)[i]? = some q → (upd H p (.tup [])) a = some (.tup [.int q.1, .int q.2]) := fun i a q h1 h2 => s1 _ _ (hat i a q h1 h2)
      revert s1 ht1 hat1
      generalize (upd H p (.tup [])) = H1
      intro s1 ht1 hat1
      refine ⟨⟨_, rfl⟩, _, rfl, t, rfl, ⟨_, SqT.of ht1⟩, fun D hD => ?_⟩
      refine lc_tup (K := K) (a := t) (xs := as.map V.ref) (fun i H' => Same H1 H' ∧ H' D = some (.lst ((((q0 :: r0).take i).map lampS).map V.str))) ⟨same_of hD, upd_same⟩ (fun i H' _ z => SqT.of (z.1 _ _ ht1)) (fun i x H' hi z => ?_) (fun H' z => ?_)
      · obtain ⟨sb, hl'⟩ := z
        rw [List.getElem?_map] at hi
        cases ea : as[i]? with
        | none => rw [ea] at hi; cases hi
        | some a =>
          rw [ea] at hi
          have ex : x = V.ref a := (Option.some.inj hi).symm
          subst ex
          have li : i < (q0 :: r0).length := by
            rw [← hlen]
            exact (List.getElem?_eq_some_iff.mp ea).1
          have eq := List.getElem?_eq_getElem li
          have ha := sb _ _ (hat1 i a _ ea eq)
          have fq := hf.all _ (List.getElem_mem li)
          have f1 := nS_len fq.1
          have f2 := nS_len fq.2
          refine ⟨a, _, rfl, SqT.of ha, rfl, _, _, rfl, _, _, rfl, rfl, rfl, ?_⟩
          refine v_cat (v_cat (v_str (val_var rfl) fq.1) val_c (le_line (by omega))) (v_str (val_var rfl) fq.2) (by simp only [len_app]; exact le_line (by omega)) _ ?_
          refine ⟨_, hl', ?_, fun b o e => ?_, ?_⟩
          · rw [List.length_map, List.length_map, List.length_take]
            exact small1000 (by omega)
          · have nb : b ≠ D := fun z => by rw [z, hD] at e; cases e
            rw [upd_ne nb]
            exact sb _ _ e
          · rw [upd_same, List.take_add_one, eq, List.map_append, List.map_append]
            rfl
      · obtain ⟨sb, hl'⟩ := z
        rw [List.length_map, hlen, List.take_length] at hl'
        have jl := joined_len hf.all
        have fl : (q0 :: r0).length ≤ 5 := few
        refine ⟨_, D, (q0 :: r0).map lampS, rfl, rfl, .inl (SqL.of hl'), ?_, ?_⟩
        · have h1 := lampsum hf.all
          have h2 : (" " : Str).length = 1 := rfl
          rw [h2]
          simp only [List.length_map]
          omega
        · refine ⟨_, _, rfl, rfl, le_line (by omega), ?_⟩
          dsimp only [gName]
          refine st_ret (v := .str (sheetS lv (q0 :: r0) fin)) ?hv2 ?hq2
          case hq2 => exact q _ (s1.trans sb)
          rw [← sheet_lamps2]
          refine v_cat (v_cat (v_cat (v_cat (v_cat val_c (v_str (val_var rfl) hf.lv) ?_) val_c ?_) (v_str (val_var rfl) hf.fin) ?_) val_c ?_) (val_var rfl) ?_
          all_goals
            first | exact le_line (by omega) | (simp only [len_app]; exact le_line (by omega))
end
/-! how long it is, and its words -/
theorem lv_len1 {i : Int} (h : i = 1 ∨ i = 2 ∨ i = 3 ∨ i = 4 ∨ i = 5 ∨ i = 6 ∨ i = 7) : (nS i).length ≤ 1 := by
  rcases h with rfl | rfl | rfl | rfl | rfl | rfl | rfl <;> decide
theorem Parts.Ok.lamp {r : Parts} (h : r.Ok) {q : Int × Int} (hq : q ∈ r.ls) : (lampS q).length ≤ 43 := by
  have z := h.pic.lv q hq
  have h1 := nS_len (fits (h.pic.pl q hq).1 (h.pic.pl q hq).2)
  have h2 := lv_len1 (i := q.2) (by rcases h.lv with e | e | e | e <;> omega)
  unfold lampS
  rw [len_app, len_app]
  have h3 : (":" : Str).length = 1 := rfl
  omega
theorem wsum_lamps : ∀ {ls : List (Int × Int)}, (∀ q ∈ ls, (lampS q).length ≤ 43) → wsum ((ls.map lampS).map tl) ≤ 44 * ls.length
  | [], _ => Nat.zero_le _
  | q :: r, h => by
    have h1 := h q (List.mem_cons_self ..)
    have h2 := wsum_lamps (ls := r) fun p hp => h p (List.mem_cons_of_mem _ hp)
    show (tl (lampS q)).length + 1 + wsum ((r.map lampS).map tl) ≤ 44 * (r.length + 1)
    rw [len_tl] at h1
    omega
theorem Parts.Ok.txt {r : Parts} (h : r.Ok) : Txt0 300 44 (sheetS r.lv r.ls r.fin) := by
  have l1 := lv_len1 (i := r.lv) (by rcases h.lv with e | e | e | e <;> omega)
  have l2 := nS_len h.fit.fin
  have few := h.pic.few
  refine txt_join (fun w hw => ⟨?_, asc_words w hw⟩) ?_
  · unfold wordsS at hw
    rcases List.mem_append.mp hw with hw | hw
    · simp only [List.mem_cons, List.not_mem_nil, or_false] at hw
      rcases hw with rfl | rfl | rfl | rfl
      · decide
      · omega
      · decide
      · omega
    · unfold tailWs at hw
      split at hw
      · simp only [List.mem_cons, List.not_mem_nil, or_false] at hw
        subst hw
        decide
      · rename_i l rr el
        rcases List.mem_cons.mp hw with hw | hw
        · subst hw
          decide
        · skip
          obtain ⟨q, hq, rfl⟩ := List.mem_map.mp hw
          have := h.lamp (q := q) (by rw [el]; exact hq)
          omega
  · unfold wordsS
    rw [List.map_append, wsum_app]
    have e1 : wsum (([("levels" : Str), nS r.lv, ("end" : Str), nS r.fin]).map tl) = 6 + 1 + ((tl (nS r.lv)).length + 1 + (3 + 1 + ((tl (nS r.fin)).length + 1 + 0))) := rfl
    rw [e1, ← len_tl, ← len_tl]
    have e2 : wsum ((tailWs r.ls).map tl) ≤ 6 + 44 * 5 := by
      unfold tailWs
      split
      · decide
      · rename_i l rr el
        have := wsum_lamps (ls := l :: rr) fun q hq => h.lamp (q := q) (by rw [el]; exact hq)
        rw [el] at few
        show 5 + 1 + wsum (((l :: rr).map lampS).map tl) ≤ _
        omega
    omega
end Lamp
set_option Elab.async false
set_option linter.all false
set_option maxRecDepth 100000
set_option maxHeartbeats 1000000
namespace Lamp
open PySem PySem.Spec PyProof.Rows L2 LamX
open TL (tl tl_append ext_tl numL tl_ofString len_tl)
abbrev sBentS : Stmt := top 39
/-! lists of words, made where the heap grows -/
def GL (te : TE) (σ : L2.St) (H0 : Hp) (xs : List V) : Prop := ∀ H, Same H0 H → ∀ Q : VK, (∀ l H', Same H H' → H l = none → H' l = some (.lst xs) → Q (.ref l) H') → te σ H Q
def IV (te : TE) (σ : L2.St) (k : Int) : Prop := ∀ H, Val te σ H (.int k)
section
variable {K : PySem.W.Frag} {σ : L2.St} {H0 : Hp} {i : Nat} {rl : Addr} {xs ys : List V} {ta tb : TE}
theorem gl_to {k : Nat} (h : σ[i]? = some (some (.ref rl))) (hl : H0 rl = some (.lst xs)) (hk : IV ta σ (k : Int)) : GL (tSl (rSlL K) (tVar i) tNoPart (tPart ta)) σ H0 (xs.take k) := fun H s Q q =>
  ⟨_, h, hk H _ ⟨_, rfl, rl, xs, rfl, SqL.of (s _ _ hl), fun c nc => by rw [cut_to]; exact q c _ (same_of nc) nc upd_same⟩⟩
theorem gl_from {k : Nat} (h : σ[i]? = some (some (.ref rl))) (hl : H0 rl = some (.lst xs)) (hk : IV ta σ (k : Int)) : GL (tSl (rSlL K) (tVar i) (tPart ta) tNoPart) σ H0 (xs.drop k) := fun H s Q q =>
  ⟨_, h, hk H _ ⟨_, rfl, rl, xs, rfl, SqL.of (s _ _ hl), fun c nc => by rw [cut_hi]; exact q c _ (same_of nc) nc upd_same⟩⟩
theorem cut_mid (xs : List V) (k : Nat) : cutV xs (some (k : Int)) (some ((k + 1 : Nat) : Int)) = (xs.drop k).take 1 := by
  unfold cutV
  rw [HT.sIx_nat, HT.sIx_nat]
  by_cases h : k < xs.length
  · rw [Nat.min_eq_left (by omega), Nat.min_eq_left (by omega)]
    congr 1
    omega
  · rw [Nat.min_eq_right (by omega), Nat.min_eq_right (by omega), List.drop_of_length_le (by omega), List.drop_of_length_le (by omega)]
    simp
theorem gl_mid {k : Nat} (h : σ[i]? = some (some (.ref rl))) (hl : H0 rl = some (.lst xs)) (hk : IV ta σ (k : Int)) (hk2 : IV tb σ ((k + 1 : Nat) : Int)) : GL (tSl (rSlL K) (tVar i) (tPart ta) (tPart tb)) σ H0 ((xs.drop k).take 1) := fun H s Q q =>
  ⟨_, h, hk H _ ⟨_, rfl, hk2 H _ ⟨_, rfl, rl, xs, rfl, SqL.of (s _ _ hl), fun c nc => by rw [cut_mid]; exact q c _ (same_of nc) nc upd_same⟩⟩⟩
theorem gl_one {z : V} (h : σ[i]? = some (some z)) : GL (tLst (tCons (tVar i) tNil)) σ H0 [z] := fun H s Q q =>
  ⟨_, h, by show 1 ≤ sizeLine; decide, fun l nl => q l _ (same_of nl) nl upd_same⟩
theorem gl_cat (h1 : GL ta σ H0 xs) (h2 : GL tb σ H0 ys) (hl : xs.length + ys.length ≤ sizeLine) : GL (tOp rCat ta tb) σ H0 (xs ++ ys) := fun H s Q q => by
  refine h1 H s _ fun l1 H1 s1 _ e1 => h2 H1 (s.trans s1) _ fun l2 H2 s2 _ e2 => ?_
  exact ⟨l1, l2, xs, ys, rfl, rfl, s2 _ _ e1, e2, hl, fun r nr => q r _ ((s1.trans s2).trans (same_of nr)) ((s1.trans s2).free nr) upd_same⟩
end
theorem Txt0.mono {L L' W W' : Nat} {s : Str} (h : Txt0 L W s) (h1 : L ≤ L') (h2 : W ≤ W') : Txt0 L' W' s := ⟨h.asc, Nat.le_trans h.len h1, h.run.mono h2⟩
theorem bend_signs {L W : Nat} {x : Str} (h : Txt0 L W x) {z : Str} {c : Nat} (hz : tl z = [c]) (hc : c < 128) (k : Nat) :
    Txt0 (L + W + 8) (2 * W + 1) (cutS x none (some (k : Int)) ++ z ++ cutS x (some (k : Int)) none) ∧ Txt0 (L + W + 8) (2 * W + 1) (cutS x none (some (k : Int)) ++ cutS x (some ((k + 1 : Nat) : Int)) none) ∧
    Txt0 (L + W + 8) (2 * W + 1) (cutS x none (some (k : Int)) ++ z ++ cutS x (some ((k + 1 : Nat) : Int)) none) := by
  have hc' : ∀ d ∈ [c], d < 128 := fun d hd => by rw [List.mem_singleton.mp hd]; exact hc
  have e1 : tl x = (tl x).take k ++ [] ++ (tl x).drop k := by rw [List.append_nil, List.take_append_drop]
  have e2 : tl x = (tl x).take k ++ ((tl x).drop k).take 1 ++ (tl x).drop (k + 1) := by
    have z : (tl x).drop (k + 1) = ((tl x).drop k).drop 1 := by rw [List.drop_drop]
    rw [z, List.append_assoc, List.take_append_drop, List.take_append_drop]
  refine ⟨(txt_mid h e1 (m := [c]) (Nat.le_refl _) hc' ?_).mono (by omega) (by omega), (txt_mid h e2 (m := []) (by simp) (fun _ z => nomatch z) ?_).mono (by omega) (by omega), (txt_mid h e2 (m := [c]) (Nat.le_refl _) hc' ?_).mono (by omega) (by omega)⟩
  · rw [tl_append, tl_append, tl_cut_to, tl_cut_from, hz]
  · rw [tl_append, tl_cut_to, tl_cut_from, List.append_nil]
  · rw [tl_append, tl_append, tl_cut_to, tl_cut_from, hz]
theorem wsum_split (ws : List Str) (k : Nat) : wsum ((ws.take k).map tl) + wsum ((ws.drop k).map tl) = wsum (ws.map tl) := by
  rw [← wsum_app, ← List.map_append, List.take_append_drop]
theorem bend_words {L W : Nat} {x : Str} (h : Txt0 L W x) (hW : 6 ≤ W) {l : List Str} (hm : ∀ w ∈ l, w ∈ spW x ∨ (w.length ≤ 6 ∧ ∀ c ∈ tl w, c < 128)) (hs : wsum (l.map tl) ≤ L + W + 8) : Txt0 (L + W + 8) (2 * W + 1) (Txt.join " " l) ∧ wsum (l.map tl) ≤ L + W + 8 := by
  refine ⟨txt_join (fun w hw => ?_) hs, hs⟩
  rcases hm w hw with z | z
  · have := h.word z
    exact ⟨by omega, this.2⟩
  · exact ⟨by omega, z.2⟩
theorem wsum_one {L W : Nat} {x : Str} (h : Txt0 L W x) (k : Nat) : wsum ((((spW x).drop k).take 1).map tl) ≤ W + 1 := by
  cases e : (spW x).drop k with
  | nil => exact Nat.zero_le _
  | cons w r =>
    have hw : w ∈ spW x := List.mem_of_mem_drop (by rw [e]; exact List.mem_cons_self ..)
    have := (h.word hw).1
    show (tl w).length + 1 + 0 ≤ W + 1
    rw [← len_tl]
    omega
/-- the four ways to bend the words -/
def bentW (ws : List Str) (a b : Nat) (z : Str) : List (List Str) := [ws.take a ++ ws.drop (a + 1), ws.take a ++ [z] ++ ws.drop (a + 1), ws.take (a + 1) ++ ws.drop a, ws.take b ++ (ws.drop a).take 1 ++ ws.drop b]
theorem bent_ok {L W : Nat} {x : Str} (h : Txt0 L W x) (hW : 6 ≤ W) {z : Str} (hz : z.length ≤ 6) (az : ∀ c ∈ tl z, c < 128) (a b : Nat) : ∀ l ∈ bentW (spW x) a b z, Txt0 (L + W + 8) (2 * W + 1) (Txt.join " " l) ∧ wsum (l.map tl) ≤ L + W + 8 := by
  have hsum : wsum ((spW x).map tl) ≤ L + 1 := by rw [words_sum]; have := h.len; omega
  have t1 := wsum_split (spW x) a
  have t2 := wsum_split (spW x) b
  have t3 := wsum_split (spW x) (a + 1)
  have o1 := wsum_one h a
  have d1 : wsum (((spW x).drop (a + 1)).map tl) ≤ wsum (((spW x).drop a).map tl) := by
    have e := wsum_split ((spW x).drop a) 1
    rw [List.drop_drop] at e
    omega
  have k1 : wsum (((spW x).take (a + 1)).map tl) ≤ wsum (((spW x).take a).map tl) + (W + 1) := by
    rw [List.take_add, List.map_append, wsum_app]
    omega
  have inT : ∀ {k : Nat} {w : Str}, w ∈ (spW x).take k → w ∈ spW x := fun hw => List.mem_of_mem_take hw
  have inD : ∀ {k : Nat} {w : Str}, w ∈ (spW x).drop k → w ∈ spW x := fun hw => List.mem_of_mem_drop hw
  have zl : wsum (([z] : List Str).map tl) ≤ 7 := by
    show (tl z).length + 1 + 0 ≤ 7
    rw [← len_tl]
    omega
  intro l hl
  simp only [bentW, List.mem_cons, List.not_mem_nil, or_false] at hl
  rcases hl with rfl | rfl | rfl | rfl
  · refine bend_words h hW (fun w hw => ?_) ?_
    · rcases List.mem_append.mp hw with hw | hw
      · exact .inl (inT hw)
      · exact .inl (inD hw)
    · rw [List.map_append, wsum_app]; omega
  · refine bend_words h hW (fun w hw => ?_) ?_
    · rcases List.mem_append.mp hw with hw | hw
      · rcases List.mem_append.mp hw with hw | hw
        · exact .inl (inT hw)
        · rw [List.mem_singleton.mp hw]; exact .inr ⟨hz, az⟩
      · exact .inl (inD hw)
    · rw [List.map_append, wsum_app, List.map_append, wsum_app]; omega
  · refine bend_words h hW (fun w hw => ?_) ?_
    · rcases List.mem_append.mp hw with hw | hw
      · exact .inl (inT hw)
      · exact .inl (inD hw)
    · rw [List.map_append, wsum_app]; omega
  · refine bend_words h hW (fun w hw => ?_) ?_
    · rcases List.mem_append.mp hw with hw | hw
      · rcases List.mem_append.mp hw with hw | hw
        · exact .inl (inT hw)
        · exact .inl (inD (List.mem_of_mem_take hw))
      · exact .inl (inD hw)
    · rw [List.map_append, wsum_app, List.map_append, wsum_app]; omega
theorem ret_pick {K : PySem.W.Frag} {ta : TA} {ti : TE} {σ : L2.St} {H : Hp} {vs : List V} {v : V} {j : Nat} {D : Ends} (h : VA ta σ H vs) (hl : vs.length ≤ 100) (hi : ∀ H', Val ti σ H' (.int (j : Int))) (hv : vs[j]? = some v) (q : ∀ H', Same H H' → D.rt v H') : tRet (tOp (rIxL K) (tLst ta) ti) D σ H :=
  h _ ⟨le_line (by omega), fun l nl => hi _ _ ⟨l, _, (j : Int), v, rfl, rfl, SqL.of upd_same, L2.at_of (j := j) rfl hv, q _ (same_of nl)⟩⟩
abbrev tTo : TE := tSl rSlS (tVar 1) tNoPart (tPart (tVar 3))
abbrev tFrom : TE := tSl rSlS (tVar 1) (tPart (tVar 3)) tNoPart
abbrev tFrom1 : TE := tSl rSlS (tVar 1) (tPart (tOp (rI0 fun i j => .int (i + j)) (tVar 3) (tC (.int 1)))) tNoPart
abbrev tBent3 : TA := tCons (tOp rAddS (tOp rAddS tTo (tVar 4)) tFrom) (tCons (tOp rAddS tTo tFrom1) (tCons (tOp rAddS (tOp rAddS tTo (tVar 4)) tFrom1) tNil))
theorem va_bent3 {σ : L2.St} {H : Hp} {x z : Str} {k : Nat} (h1 : σ[1]? = some (some (.str x))) (h3 : σ[3]? = some (some (.int (k : Int)))) (h4 : σ[4]? = some (some (.str z))) (hx : x.length ≤ 800) (hz : z.length = 1) :
    VA tBent3 σ H [.str (cutS x none (some (k : Int)) ++ z ++ cutS x (some (k : Int)) none), .str (cutS x none (some (k : Int)) ++ cutS x (some ((k + 1 : Nat) : Int)) none), .str (cutS x none (some (k : Int)) ++ z ++ cutS x (some ((k + 1 : Nat) : Int)) none)] := by
  have hl : (3000 : Nat) ≤ sizeLine := by decide
  have ct := cutS_length x none (some (k : Int))
  have cf := cutS_length x (some (k : Int)) none
  have cg := cutS_length x (some ((k + 1 : Nat) : Int)) none
  have l1 := len_app (cutS x none (some (k : Int))) z
  have vT : Val tTo σ H (.str (cutS x none (some (k : Int)))) := fun Q2 q2 => ⟨_, h1, _, h3, _, rfl, x, rfl, by omega, q2⟩
  have vF : Val tFrom σ H (.str (cutS x (some (k : Int)) none)) := fun Q2 q2 => ⟨_, h1, _, h3, _, rfl, x, rfl, by omega, q2⟩
  have vG : Val tFrom1 σ H (.str (cutS x (some ((k + 1 : Nat) : Int)) none)) := fun Q2 q2 => ⟨_, h1, _, h3, _, _, rfl, rfl, _, rfl, x, rfl, by omega, q2⟩
  exact va_cons (v_cat (v_cat vT (val_var h4) (by omega)) vF (by omega)) (va_cons (v_cat vT vG (by omega)) (va_cons (v_cat (v_cat vT (val_var h4) (by omega)) vG (by omega)) va_nil))
theorem sq_gl3 {ta tb tc : TE} {σ : L2.St} {H0 : Hp} {xs1 xs2 xs3 : List V} {i : Nat} {t2 : TS} {D : Ends} (h1 : GL ta σ H0 xs1) (h2 : GL tb σ H0 xs2) (h3 : GL tc σ H0 xs3)
    (k : ∀ l l1 l2 l3 H', Same H0 H' → H0 l = none → H' l = some (.lst [.ref l1, .ref l2, .ref l3]) → H' l1 = some (.lst xs1) → H' l2 = some (.lst xs2) → H' l3 = some (.lst xs3) → l1 ≠ l → l2 ≠ l → l3 ≠ l → t2 D (σ.set i (some (.ref l))) H') :
    tSeq (tAsg (tLst (tCons ta (tCons tb (tCons tc tNil)))) (gName i)) t2 D σ H0 := by
  refine h1 H0 (Same.refl _) _ fun l1 H1 s1 _ e1 => h2 H1 s1 _ fun l2 H2 s2 _ e2 => h3 H2 (s1.trans s2) _ fun l3 H3 s3 _ e3 => ⟨le_line (by show 3 ≤ 1000; decide), fun l nl => ?_⟩
  have sl := same_of (o := .lst [V.ref l1, V.ref l2, V.ref l3]) nl
  have f1 := s3 _ _ (s2 _ _ e1)
  have f2 := s3 _ _ e2
  exact k l l1 l2 l3 _ (((s1.trans s2).trans s3).trans sl) (((s1.trans s2).trans s3).free nl) upd_same (sl _ _ f1) (sl _ _ f2) (sl _ _ e3) (fun z => by rw [z, nl] at f1; cases f1) (fun z => by rw [z, nl] at f2; cases f2) (fun z => by rw [z, nl] at e3; cases e3)
theorem sum_wsum : ∀ ws : List Str, (ws.map (·.length)).sum + ws.length = wsum (ws.map tl)
  | [] => rfl
  | w :: r => by
    have := sum_wsum r
    show (w.length + (r.map (·.length)).sum) + (r.length + 1) = (tl w).length + 1 + wsum (r.map tl)
    rw [len_tl]
    omega
def spBentS : Sp := fun vs H Q _ => ∃ (p : Addr) (s : Str) (L W : Nat), vs = [.ref p, .str s] ∧ Pail H p ∧ Txt0 L W s ∧ L ≤ 700 ∧ W ≤ 400 ∧ 6 ≤ W ∧ ∀ s' H', Txt0 (L + W + 8) (2 * W + 1) s' → Pail H' p → But p H H' → Q (.str s') H'
section
variable {P : Program} {w : World} {K : PySem.W.Frag} {mg : Str → Option Value} {base : Heap}
abbrev nmBentS : List Str := ["_law_pail", "_law_said", "_law_chance", "_law_at", "_law_sign", "_law_rest", "_law_to", "_law_other", "_law_more"]
theorem scBentS : FnScope nmBentS ["_law_pail", "_law_said"] (defScope sBentS) := ⟨rfl, rfl, rfl, by decide +kernel, rfl, by decide +kernel, by decide +kernel⟩
theorem ok_bentS {f : Addr} {fd : FuncData} (F : Fun K "_law_bent_said" "_law_bent_said" sBentS f fd) (Cs : Dr P w K mg base spCast "_law_cast" ["_law_pail", "_law_many"] 1) (Aw : Dr P w K mg base spAny "_law_any_of" ["_law_pail", "_law_some"] 2) (ml : mg "len" = none) :
    FnOk P w K mg base CX0 3 f fd ["_law_pail", "_law_said"] spBentS := by
  refine F.ok scBentS (fun vs H Q E h => ?_) (fun cdv A outer s H vs Q E hr h => ?_)
  · obtain ⟨p, s, L, W, rfl, _⟩ := h
    rfl
  · obtain ⟨p, x, L, W, rfl, hp, hx, hL, hW, hW2, q⟩ := h
    have hlx := hx.len
    refine ⟨_, pss_cons (ps_par (i := 2) (j := 3) rfl scBentS.nd rfl rfl (by decide) rfl rfl (pa_cons (pe_dr Cs (by decide) hr rfl (pa_cons (pv 0) (pa_cons pe_int pa_nil))) (pa_cons (pe_dr Cs (by decide) hr rfl (pa_cons (pv 0) (pa_cons (pe_op op_add (pe_callB call_len_str (by rfl) ml PySem.boot_len (pa_cons (pv 1) pa_nil)) pe_int) pa_nil))) pa_nil)) (by rfl))
      (pss_cons (ps_set (i := 4) scBentS.nd rfl (.inl rfl) (pe_dr Aw (by decide) hr rfl (pa_cons (pv 0) (pa_cons (pe_lst (pa_cons pe_str (pa_cons pe_str (pa_cons pe_str (pa_cons pe_str (pa_cons pe_str (pa_cons pe_str (pa_cons pe_str (pa_cons pe_str (pa_cons pe_str (pa_cons pe_str (pa_cons pe_str pa_nil)))))))))))) pa_nil))))
      (pss_cons (ps_if (pt_cmpR op_lt (pv 2) pe_int (nomark _)) (pss_one (ps_ret (pe_ix ix_list (pe_lst (pa_cons (pe_op op_addS (pe_op op_addS (pe_slice (r := rSlS) sl_str (pv 1) po_none (po_some (pv 3))) (pv 4)) (pe_slice (r := rSlS) sl_str (pv 1) (po_some (pv 3)) po_none))
          (pa_cons (pe_op op_addS (pe_slice (r := rSlS) sl_str (pv 1) po_none (po_some (pv 3))) (pe_slice (r := rSlS) sl_str (pv 1) (po_some (pe_op op_add (pv 3) pe_int)) po_none))
          (pa_cons (pe_op op_addS (pe_op op_addS (pe_slice (r := rSlS) sl_str (pv 1) po_none (po_some (pv 3))) (pv 4)) (pe_slice (r := rSlS) sl_str (pv 1) (po_some (pe_op op_add (pv 3) pe_int)) po_none)) pa_nil)))) (pv 2) (fun _ _ => rfl)))) pss_nil)
      (pss_cons (ps_set (i := 5) scBentS.nd rfl (.inl rfl) (pe_split (pv 1) pe_str))
      (pss_cons (ps_par (i := 3) (j := 6) rfl scBentS.nd rfl rfl (by decide) rfl rfl (pa_cons (pe_dr Cs (by decide) hr rfl (pa_cons (pv 0) (pa_cons (pe_callB call_len_seq (by rfl) ml PySem.boot_len (pa_cons (pv 5) pa_nil)) pa_nil))) (pa_cons (pe_dr Cs (by decide) hr rfl (pa_cons (pv 0) (pa_cons (pe_callB call_len_seq (by rfl) ml PySem.boot_len (pa_cons (pv 5) pa_nil)) pa_nil))) pa_nil)) (by rfl))
      (pss_cons (ps_set (i := 7) scBentS.nd rfl (.inl rfl) (pe_dr Aw (by decide) hr rfl (pa_cons (pv 0) (pa_cons (pe_lst (pa_cons pe_str (pa_cons pe_str (pa_cons pe_str (pa_cons pe_str (pa_cons pe_str (pa_cons pe_str (pa_cons pe_str (pa_cons pe_str (pa_cons pe_str (pa_cons pe_str (pa_cons pe_str (pa_cons pe_str (pa_cons pe_str pa_nil)))))))))))))) pa_nil))))
      (pss_cons (ps_set (i := 8) scBentS.nd rfl (.inl rfl) (pe_lst (pa_cons (pe_op op_cat (pe_slice (r := rSlL K) sl_list (pv 5) po_none (po_some (pv 3))) (pe_slice (r := rSlL K) sl_list (pv 5) (po_some (pe_op op_add (pv 3) pe_int)) po_none))
          (pa_cons (pe_op op_cat (pe_op op_cat (pe_slice (r := rSlL K) sl_list (pv 5) po_none (po_some (pv 3))) (pe_lst (pa_cons (pv 7) pa_nil))) (pe_slice (r := rSlL K) sl_list (pv 5) (po_some (pe_op op_add (pv 3) pe_int)) po_none))
          (pa_cons (pe_op op_cat (pe_slice (r := rSlL K) sl_list (pv 5) po_none (po_some (pe_op op_add (pv 3) pe_int))) (pe_slice (r := rSlL K) sl_list (pv 5) (po_some (pv 3)) po_none)) pa_nil)))))
      (pss_cons (ps_expr (pe_bm PySem.F.plainAttrs_list PySem.F.slot_list_append PySem.F.type_list_append mt_append (pv 8) (pa_cons (pe_op op_cat (pe_op op_cat (pe_slice (r := rSlL K) sl_list (pv 5) po_none (po_some (pv 6))) (pe_slice (r := rSlL K) sl_list (pv 5) (po_some (pv 3)) (po_some (pe_op op_add (pv 3) pe_int)))) (pe_slice (r := rSlL K) sl_list (pv 5) (po_some (pv 6)) po_none)) pa_nil)))
      (pss_one (ps_ret (pe_join pe_str (pe_ix ix_list (pv 8) (pe_op op_sub (pv 2) pe_int) (fun _ _ => rfl)))))))))))), ?_⟩
    refine ⟨_, rfl, p, 7, rfl, by decide, by decide, hp, fun ch H1 c0 c1 hp1 bt1 => ?_⟩
    refine ⟨_, rfl, _, rfl, x, rfl, le_line (by omega), _, _, rfl, rfl, p, _, rfl, by omega, by omega, hp1, fun at_ H2 a0 a1 hp2 bt2 => ⟨_, _, rfl, ?_⟩⟩
    dsimp only [L2.start, List.map, List.length, List.replicate, List.append, List.set]
    obtain ⟨k, rfl⟩ : ∃ k : Nat, at_ = (k : Int) := ⟨at_.toNat, by omega⟩
    refine ⟨_, rfl, le_line (by show 11 ≤ 1000; decide), fun l1 n1 => ⟨p, l1, _, rfl, hp2.ne n1, upd_same, by decide, by decide, hp2.same (same_of n1), fun v H3 hv hp3 bt3 => ?_⟩⟩
    have bt03 : But p H H3 := (bt1.trans bt2).trans ((But.of (same_of n1)).trans bt3)
    have sg : ∃ (z : Str) (c : Nat), v = .str z ∧ tl z = [c] ∧ c < 128 := by
      simp only [List.mem_cons, List.not_mem_nil, or_false] at hv
      rcases hv with rfl | rfl | rfl | rfl | rfl | rfl | rfl | rfl | rfl | rfl | rfl <;> exact ⟨_, _, rfl, rfl, by decide⟩
    obtain ⟨z, c, rfl, hz, hc⟩ := sg
    dsimp only [gName, List.set]
    obtain ⟨b1, b2, b3⟩ := bend_signs hx hz hc k
    have zlen : z.length = 1 := by rw [len_tl, hz]; rfl
    by_cases h3 : ch < 3
    · refine sq_yes (an_lt (val_var rfl) val_c (decide_eq_true h3)) ?_
      have va := va_bent3 (σ := [some (V.ref p), some (.str x), some (.int ch), some (.int (k : Int)), some (.str z), none, none, none, none]) (H := H3) rfl rfl rfl (by omega) zlen
      have hc3 : ch = ((0 : Nat) : Int) ∨ ch = ((1 : Nat) : Int) ∨ ch = ((2 : Nat) : Int) := by omega
      rcases hc3 with rfl | rfl | rfl
      · exact ret_pick va (by show 3 ≤ 100; decide) (fun _ => val_var rfl) rfl fun H' sl => q _ _ b1 (hp3.same sl) (bt03.trans (But.of sl))
      · exact ret_pick va (by show 3 ≤ 100; decide) (fun _ => val_var rfl) rfl fun H' sl => q _ _ b2 (hp3.same sl) (bt03.trans (But.of sl))
      · exact ret_pick va (by show 3 ≤ 100; decide) (fun _ => val_var rfl) rfl fun H' sl => q _ _ b3 (hp3.same sl) (bt03.trans (But.of sl))
    refine sq_no (an_lt (val_var rfl) val_c (decide_eq_false h3)) ?_
    clear b1 b2 b3
    refine ⟨_, rfl, ⟨_, rfl⟩, _, (" " : Str), rfl, rfl, rfl, ?_, ?_⟩
    · have : (1000 : Nat) ≤ sizeLine := by decide
      omega
    intro wl nwl
    have sw := same_of (o := .lst ((spW x).map V.str)) nwl
    have hwl : (upd H3 wl (.lst ((spW x).map V.str))) wl = some (.lst ((spW x).map V.str)) := upd_same
    have hp4 := hp3.same sw
    have bt04 := bt03.trans (But.of sw)
    have wlp : wl ≠ p := hp3.ne nwl
    have hcnt := words_len x
    have hpos := words_pos x
    show tSeq _ _ _ _ (upd H3 wl (.lst ((spW x).map V.str)))
    revert hwl hp4 bt04
    generalize (upd H3 wl (.lst ((spW x).map V.str))) = H4
    intro hwl hp4 bt04
    refine ⟨_, rfl, _, rfl, wl, _, rfl, .inl (SqL.of hwl), p, _, rfl, by rw [List.length_map]; omega, by rw [List.length_map]; omega, hp4, fun i1 H5 i10 i11 hp5 bt5 => ?_⟩
    have hwl5 := bt5 _ _ wlp hwl
    refine ⟨_, rfl, _, rfl, wl, _, rfl, .inl (SqL.of hwl5), p, _, rfl, by rw [List.length_map]; omega, by rw [List.length_map]; omega, hp5, fun i2 H6 i20 i21 hp6 bt6 => ⟨_, _, rfl, ?_⟩⟩
    have hwl6 := bt6 _ _ wlp hwl5
    dsimp only [gName, List.set]
    obtain ⟨a, rfl⟩ : ∃ a : Nat, i1 = (a : Int) := ⟨i1.toNat, by omega⟩
    obtain ⟨b, rfl⟩ : ∃ b : Nat, i2 = (b : Int) := ⟨i2.toNat, by omega⟩
    refine ⟨_, rfl, le_line (by show 13 ≤ 1000; decide), fun l2 n2 => ⟨p, l2, _, rfl, hp6.ne n2, upd_same, by decide, by decide, hp6.same (same_of n2), fun v H7 hv hp7 bt7 => ?_⟩⟩
    have bt67 : But p H6 H7 := (But.of (same_of n2)).trans bt7
    have hwl7 := bt67 _ _ wlp hwl6
    have bt07 : But p H H7 := ((bt04.trans bt5).trans bt6).trans bt67
    have ot : ∃ y : Str, v = .str y ∧ y.length ≤ 6 ∧ ∀ c ∈ tl y, c < 128 := by
      simp only [List.mem_cons, List.not_mem_nil, or_false] at hv
      rcases hv with rfl | rfl | rfl | rfl | rfl | rfl | rfl | rfl | rfl | rfl | rfl | rfl | rfl <;> exact ⟨_, rfl, by decide, by decide⟩
    obtain ⟨y, rfl, hy, ay⟩ := ot
    dsimp only [gName, List.set]
    have good := bent_ok hx hW2 hy ay a b
    have hws : (spW x).length ≤ 701 := by omega
    have h2k : (3000 : Nat) ≤ sizeLine := by decide
    have iv3 : IV (tVar 3) [some (V.ref p), some (.str x), some (.int ch), some (.int (a : Int)), some (.str z), some (.ref wl), some (.int (b : Int)), some (.str y), none] (a : Int) := fun _ => val_var rfl
    have iv31 : IV (tOp (rI0 fun i j => .int (i + j)) (tVar 3) (tC (.int 1))) [some (V.ref p), some (.str x), some (.int ch), some (.int (a : Int)), some (.str z), some (.ref wl), some (.int (b : Int)), some (.str y), none] ((a + 1 : Nat) : Int) := fun _ Q2 q2 => ⟨_, rfl, _, _, rfl, rfl, q2⟩
    have gT := gl_to (K := K) (σ := [some (V.ref p), some (.str x), some (.int ch), some (.int (a : Int)), some (.str z), some (.ref wl), some (.int (b : Int)), some (.str y), none]) (i := 5) rfl hwl7 iv3
    have gF := gl_from (K := K) (σ := [some (V.ref p), some (.str x), some (.int ch), some (.int (a : Int)), some (.str z), some (.ref wl), some (.int (b : Int)), some (.str y), none]) (i := 5) rfl hwl7 iv3
    have gT1 := gl_to (K := K) (σ := [some (V.ref p), some (.str x), some (.int ch), some (.int (a : Int)), some (.str z), some (.ref wl), some (.int (b : Int)), some (.str y), none]) (i := 5) rfl hwl7 iv31
    have gF1 := gl_from (K := K) (σ := [some (V.ref p), some (.str x), some (.int ch), some (.int (a : Int)), some (.str z), some (.ref wl), some (.int (b : Int)), some (.str y), none]) (i := 5) rfl hwl7 iv31
    have gO := gl_one (σ := [some (V.ref p), some (.str x), some (.int ch), some (.int (a : Int)), some (.str z), some (.ref wl), some (.int (b : Int)), some (.str y), none]) (H0 := H7) (i := 7) (z := .str y) rfl
    have lT := fun n => List.length_take_le n ((spW x).map V.str)
    have lL : ((spW x).map V.str).length ≤ 701 := by rw [List.length_map]; exact hws
    refine sq_gl3 (gl_cat gT gF1 ?_) (gl_cat (gl_cat gT gO ?_) gF1 ?_) (gl_cat gT1 gF ?_) fun l l1 l2' l3 H8 s8 nl hl e1 e2 e3 n1' n2' n3' => ?_
    · simp only [List.length_take, List.length_drop]; omega
    · simp only [List.length_take, List.length_drop, List.length_cons, List.length_nil]; omega
    · simp only [List.length_take, List.length_drop, List.length_append, List.length_cons, List.length_nil]; omega
    · simp only [List.length_take, List.length_drop]; omega
    have hwl8 := s8 _ _ hwl7
    have iw6 : IV (tVar 6) [some (V.ref p), some (.str x), some (.int ch), some (.int (a : Int)), some (.str z), some (.ref wl), some (.int (b : Int)), some (.str y), some (.ref l)] (b : Int) := fun _ => val_var rfl
    have iw3 : IV (tVar 3) [some (V.ref p), some (.str x), some (.int ch), some (.int (a : Int)), some (.str z), some (.ref wl), some (.int (b : Int)), some (.str y), some (.ref l)] (a : Int) := fun _ => val_var rfl
    have iw31 : IV (tOp (rI0 fun i j => .int (i + j)) (tVar 3) (tC (.int 1))) [some (V.ref p), some (.str x), some (.int ch), some (.int (a : Int)), some (.str z), some (.ref wl), some (.int (b : Int)), some (.str y), some (.ref l)] ((a + 1 : Nat) : Int) := fun _ Q2 q2 => ⟨_, rfl, _, _, rfl, rfl, q2⟩
    have kT := gl_to (K := K) (σ := [some (V.ref p), some (.str x), some (.int ch), some (.int (a : Int)), some (.str z), some (.ref wl), some (.int (b : Int)), some (.str y), some (.ref l)]) (i := 5) rfl hwl8 iw6
    have kM := gl_mid (K := K) (σ := [some (V.ref p), some (.str x), some (.int ch), some (.int (a : Int)), some (.str z), some (.ref wl), some (.int (b : Int)), some (.str y), some (.ref l)]) (i := 5) rfl hwl8 iw3 iw31
    have kF := gl_from (K := K) (σ := [some (V.ref p), some (.str x), some (.int ch), some (.int (a : Int)), some (.str z), some (.ref wl), some (.int (b : Int)), some (.str y), some (.ref l)]) (i := 5) rfl hwl8 iw6
    refine ⟨_, rfl, .inl ⟨rfl, _, SqL.of hl⟩, (gl_cat (gl_cat kT kM ?_) kF ?_) H8 (Same.refl _) _ fun l4 H9 s9 n4 e4 => ?_⟩
    · simp only [List.length_take, List.length_drop]; omega
    · simp only [List.length_take, List.length_drop, List.length_append]; omega
    have hl9 := s9 _ _ hl
    refine ⟨l, _, _, rfl, rfl, hl9, (by show 3 < sizeLine; decide), ?_⟩
    have l4l : l4 ≠ l := fun z => by rw [z, hl] at n4; cases n4
    have gl : (upd H9 l (.lst ([V.ref l1, V.ref l2', V.ref l3] ++ [V.ref l4]))) l = some (.lst [V.ref l1, V.ref l2', V.ref l3, V.ref l4]) := upd_same
    have g1 : (upd H9 l (.lst ([V.ref l1, V.ref l2', V.ref l3] ++ [V.ref l4]))) l1 = some (.lst (((spW x).take a ++ (spW x).drop (a + 1)).map V.str)) := by
      rw [upd_ne n1', s9 _ _ e1, List.map_append, List.map_take, List.map_drop]
    have g2 : (upd H9 l (.lst ([V.ref l1, V.ref l2', V.ref l3] ++ [V.ref l4]))) l2' = some (.lst (((spW x).take a ++ [y] ++ (spW x).drop (a + 1)).map V.str)) := by
      rw [upd_ne n2', s9 _ _ e2, List.map_append, List.map_append, List.map_take, List.map_drop]
      rfl
    have g3 : (upd H9 l (.lst ([V.ref l1, V.ref l2', V.ref l3] ++ [V.ref l4]))) l3 = some (.lst (((spW x).take (a + 1) ++ (spW x).drop a).map V.str)) := by
      rw [upd_ne n3', s9 _ _ e3, List.map_append, List.map_take, List.map_drop]
    have g4 : (upd H9 l (.lst ([V.ref l1, V.ref l2', V.ref l3] ++ [V.ref l4]))) l4 = some (.lst (((spW x).take b ++ ((spW x).drop a).take 1 ++ (spW x).drop b).map V.str)) := by
      rw [upd_ne l4l, e4, List.map_append, List.map_append, List.map_take, List.map_take, List.map_drop, List.map_drop]
    have hpZ : Pail (upd H9 l (.lst ([V.ref l1, V.ref l2', V.ref l3] ++ [V.ref l4]))) p := by
      obtain ⟨u1, u2, u3, hu, r⟩ := (hp7.same s8).same s9
      exact ⟨u1, u2, u3, by rw [upd_ne (fun z => by rw [← z] at hl9; obtain ⟨w1, w2, w3, hw, _⟩ := hp7.same (s8.trans s9); rw [hl9] at hw; cases hw)]; exact hu, r⟩
    have btZ : But p H (upd H9 l (.lst ([V.ref l1, V.ref l2', V.ref l3] ++ [V.ref l4]))) := fun b' o n e => by
      have e7 := bt07 b' o n e
      rw [upd_ne (ne_of_none e7 nl)]
      exact s9 _ _ (s8 _ _ e7)
    revert gl g1 g2 g3 g4 hpZ btZ
    generalize (upd H9 l (.lst ([V.ref l1, V.ref l2', V.ref l3] ++ [V.ref l4]))) = HZ
    intro gl g1 g2 g3 g4 hpZ btZ
    have all : ∃ (j : Nat) (li : Addr) (ws : List Str), ch = ((j + 3 : Nat) : Int) ∧ [V.ref l1, V.ref l2', V.ref l3, V.ref l4][j]? = some (.ref li) ∧ HZ li = some (.lst (ws.map V.str)) ∧ ws ∈ bentW (spW x) a b y := by
      have hch : ch = ((0 + 3 : Nat) : Int) ∨ ch = ((1 + 3 : Nat) : Int) ∨ ch = ((2 + 3 : Nat) : Int) ∨ ch = ((3 + 3 : Nat) : Int) := by omega
      rcases hch with e | e | e | e
      · exact ⟨0, l1, _, e, rfl, g1, .head _⟩
      · exact ⟨1, l2', _, e, rfl, g2, .tail _ (.head _)⟩
      · exact ⟨2, l3, _, e, rfl, g3, .tail _ (.tail _ (.head _))⟩
      · exact ⟨3, l4, _, e, rfl, g4, .tail _ (.tail _ (.tail _ (.head _)))⟩
    obtain ⟨j, li, ws, ej, hj, hli, hw⟩ := all
    obtain ⟨tx, hs⟩ := good ws hw
    have ei : ch - 3 = (j : Int) := by omega
    refine ⟨⟨_, rfl⟩, _, rfl, _, rfl, _, _, rfl, rfl, l, _, (j : Int), .ref li, rfl, congrArg V.int ei, SqL.of gl, L2.at_of (j := j) rfl hj, (" " : Str), li, ws, rfl, rfl, .inl (SqL.of hli), ?_, q _ _ tx hpZ btZ⟩
    have e1 : (" " : Str).length = 1 := rfl
    have := sum_wsum ws
    rw [e1]
    omega
end
end Lamp
set_option Elab.async false
set_option linter.all false
set_option maxRecDepth 100000
set_option maxHeartbeats 1000000
namespace Lamp
open PySem PySem.Spec PyProof.Rows L2 LamX
abbrev sThing : Stmt := top 35
section
variable {P : Program} {w : World} {K : PySem.W.Frag} {mg : Str → Option Value} {base : Heap}
/-! the things -/
def things : List PyData := [.none, .bool true, .bool false, .int 0, .int 1, .int (-1), .int 2, .int 4, .int (-(10 ^ (39 : Int).toNat)), .str "", .str "a", .str "levels 2 end 0 dark", .tuple [], .tuple [.int 0], .tuple [.int 0, .int 1], .str "A"] ++
  [.list [], .list [.int 1], .dict [], .dict [(.str "a", .int 1)], .tuple [.tuple [.int 0, .int 1]], .tuple [.tuple [.int 1, .int 1], .tuple [.int 0, .int 1]], .tuple [.str "step", .int 1], .tuple [.none], .str "abcdefghi", .str "+>", .int 11]
theorem things_ok : things.all okD = true := by decide +kernel
def spThing (K : PySem.W.Frag) : Sp := fun vs H Q _ => ∃ (p : Addr), vs = [.ref p] ∧ Pail H p ∧ ∀ (v : V) (d : PyData) H', Dq K (delH H' p) v d → d ∈ things → Pail H' p → But p H H' → Q v H'
theorem sq_lstQ {ta : TA} {ds : List PyData} {t2 : TS} {D : Ends} {σ : L2.St} {H : Hp} {i : Nat} {p : Addr} (h : EvQs K p ta ds) (hp : Pail H p) (hl : ds.length ≤ 100)
    (k : ∀ l vs H', H' l = some (.lst vs) → l ≠ p → Same H H' → Paired (Dq K (delH H' p)) vs ds → t2 D (σ.set i (some (.ref l))) H') : tSeq (tAsg (tLst ta) (gName i)) t2 D σ H := h σ H hp _ fun vs H1 s1 d1 => by
  have hlen := Paired.length d1
  refine ⟨Nat.le_of_lt (small1000 (by omega)), fun r hr => ?_⟩
  have s2 : Same H1 (upd H1 r (.lst vs)) := same_of hr
  exact k r vs _ upd_same ((hp.same s1).ne hr) (s1.trans s2) (paired_same (But.of s2).del d1)
theorem sq_catQ {ta : TA} {ds ds0 : List PyData} {vs0 : List V} {t2 : TS} {D : Ends} {σ : L2.St} {H : Hp} {i : Nat} {p l0 : Addr} (hx : σ[i]? = some (some (.ref l0))) (h0 : H l0 = some (.lst vs0)) (ne0 : l0 ≠ p) (d0 : Paired (Dq K (delH H p)) vs0 ds0) (h : EvQs K p ta ds) (hp : Pail H p) (hl : ds.length ≤ 100) (hl0 : ds0.length ≤ 100)
    (k : ∀ l vs H', H' l = some (.lst vs) → l ≠ p → Same H H' → Paired (Dq K (delH H' p)) vs (ds0 ++ ds) → t2 D (σ.set i (some (.ref l))) H') : tSeq (tAsg (tOp rCat (tVar i) (tLst ta)) (gName i)) t2 D σ H := by
  refine ⟨_, hx, h σ H hp _ fun vs H1 s1 d1 => ?_⟩
  have hlen := Paired.length d1
  have hlen0 := Paired.length d0
  refine ⟨Nat.le_of_lt (small1000 (by omega)), fun r hr => ?_⟩
  have s2 : Same H1 (upd H1 r (.lst vs)) := same_of hr
  refine ⟨l0, r, vs0, vs, rfl, rfl, s2 _ _ (s1 _ _ h0), upd_same, Nat.le_of_lt (small1000 (by omega)), fun r2 hr2 => ?_⟩
  have s3 : Same (upd H1 r (.lst vs)) (upd (upd H1 r (.lst vs)) r2 (.lst (vs0 ++ vs))) := same_of hr2
  exact k r2 _ _ upd_same (((hp.same s1).same s2).ne hr2) ((s1.trans s2).trans s3) (paired_app (paired_same (But.of ((s1.trans s2).trans s3)).del d0) (paired_same (But.of (s2.trans s3)).del d1))
theorem scThing : FnScope ["_law_pail", "_law_menu"] ["_law_pail"] (defScope sThing) := ⟨rfl, rfl, rfl, by decide +kernel, rfl, by decide +kernel, by decide +kernel⟩
local macro_rules | `(tactic| walk_at "pe") => `(tactic| first
  | exact pe_non
  | exact pe_bl
  | exact pe_int
  | exact pe_str
  | (refine' pe_un un_neg ?ha; (case ha => walk_at "pe"))
  | (refine' pe_op op_pow ?ha ?hb; (case ha => walk_at "pe"); (case hb => walk_at "pe"))
  | (refine' pe_tup ?ha; (case ha => walk_at "pa"))
  | (refine' pe_lst ?ha; (case ha => walk_at "pa"))
  | exact pe_dnewK
  | exact pe_disp (pps_cons pe_str pe_int pps_nil) (by rfl) (by rfl) (fun z => by cases z) (by decide))
local macro_rules | `(tactic| walk_at "pa") => `(tactic| first
  | exact pa_nil
  | (refine' pa_cons ?ha ?hb; (case ha => walk_at "pe"); (case hb => walk_at "pa")))
local macro_rules | `(tactic| walk_at "evp") => `(tactic| first
  | exact evp_non
  | exact evp_bl
  | exact evp_int
  | exact evp_str
  | (refine' evp_neg ?ha; (case ha => walk_at "evp"))
  | exact evp_pow ⟨by decide, by decide, by decide⟩
  | (refine' evp_tup ?ha ?hb; (case ha => walk_at "evps"); (case hb => decide))
  | (refine' evp_lst ?ha ?hb; (case ha => walk_at "evps"); (case hb => decide)))
local macro_rules | `(tactic| walk_at "evps") => `(tactic| first
  | exact evps_nil
  | (refine' evps_cons ?ha ?hb; (case ha => walk_at "evp"); (case hb => walk_at "evps")))
local macro_rules | `(tactic| walk_at "evqs") => `(tactic| first
  | exact evqs_nil
  | (refine' evqs_cons ?ha ?hb; (case ha => first | exact evq_d0 | exact evq_d1 | (refine' evq_of ?hc; (case hc => walk_at "evp"))); (case hb => walk_at "evqs")))
theorem ok_thing {f fA : Addr} {fd fdA : FuncData} {k : Nat} (F : Fun K "_law_thing" "_law_thing" sThing f fd) (G : FnOk P w K mg base CX0 k fA fdA ["_law_pail", "_law_some"] spAny) (bA : Binds K fdA ["_law_pail", "_law_some"] []) (mA : mg "_law_any_of" = some (.ref fA)) (kA : PySem.W.keepIn K (.ref fA) = true) :
    FnOk P w K mg base CX0 (k + 1) f fd ["_law_pail"] (spThing K) := by
  refine F.ok scThing (fun vs H Q E h => ?_) (fun cdv A outer s H vs Q E hr h => ?_)
  · obtain ⟨p, rfl, _⟩ := h
    rfl
  · obtain ⟨p, rfl, hp, q⟩ := h
    refine ⟨_, pss_cons (ps_set (i := 1) scThing.nd rfl (.inl rfl) (pe_lst (by walk_at "pa")))
      (pss_cons (ps_set (i := 1) scThing.nd rfl (.inl rfl) (pe_op op_cat (pv 1) (pe_lst (by walk_at "pa"))))
      (pss_one (ps_ret (pe_call G hr rfl mA kA bA .nil pass0 (pa_cons (pv 0) (pa_cons (pv 1) pa_nil)))))), ?_⟩
    refine sq_lstQ (K := K) (ds := things.take 16) (by walk_at "evqs") hp (by decide) fun l0 vs0 H0 hl0 ne0 s0 d0 => ?_
    refine sq_catQ (K := K) (ds := things.drop 16) (l0 := l0) rfl hl0 ne0 d0 (by walk_at "evqs") (hp.same s0) (by decide) (by decide) fun l1 vs1 H1 hl1 ne1 s1 d1 => ?_
    have hlen : vs1.length = 27 := by rw [Paired.length d1]; decide
    refine ⟨_, rfl, _, rfl, p, l1, vs1, rfl, ne1, hl1, by omega, by omega, (hp.same s0).same s1, fun v H2 hv hp2 bt => ?_⟩
    obtain ⟨d, hd, hdq⟩ := paired_mem d1 hv
    exact q v d H2 (dq_same bt.del hdq) (by rw [← List.take_append_drop 16 things]; exact hd) hp2 ((But.of (s0.trans s1)).trans bt)
theorem things_okD {d : PyData} (h : d ∈ things) : okD d = true := by
  have hall := things_ok
  rw [List.all_eq_true] at hall
  exact hall d h
end
end Lamp
set_option Elab.async false
set_option linter.all false
set_option maxRecDepth 100000
set_option maxHeartbeats 2000000
namespace Lamp
open PySem PySem.Spec PyProof.Rows L2 LamX
open TL (tl tl_append ext_tl numL tl_ofString len_tl)
/-! what repr shows of a text has plain signs -/
theorem reprChar_asc : ∀ c, c < 128 → (Builtin.Str.reprChar 34 c).all (fun d => decide (d < 128)) = true ∧ (Builtin.Str.reprChar 39 c).all (fun d => decide (d < 128)) = true := by decide +kernel
theorem fold_asc {q : Nat} (hq : ∀ c, c < 128 → ∀ d ∈ Builtin.Str.reprChar q c, d < 128) : ∀ (l : List Nat) (acc : Array Nat), (∀ c ∈ l, c < 128) → (∀ d ∈ acc.toList, d < 128) → ∀ d ∈ (l.foldl (fun out c => out ++ (Builtin.Str.reprChar q c).toArray) acc).toList, d < 128
  | [], acc, _, ha => ha
  | c :: r, acc, h, ha => by
    refine fold_asc hq r _ (fun d hd => h d (List.mem_cons_of_mem _ hd)) fun d hd => ?_
    rw [Array.toList_append] at hd
    rcases List.mem_append.mp hd with hd | hd
    · exact ha d hd
    · exact hq c (h c (List.mem_cons_self ..)) d (by simpa using hd)
theorem repr_asc {x : Str} (h : ∀ c ∈ tl x, c < 128) : ∀ c ∈ (PyData.shown (.str x)).cps.toList, c < 128 := by
  have hq : reprQuote x = 34 ∨ reprQuote x = 39 := by
    unfold reprQuote
    split
    · exact .inl rfl
    · exact .inr rfl
  have hc : ∀ c, c < 128 → ∀ d ∈ Builtin.Str.reprChar (reprQuote x) c, d < 128 := fun c hc d hd => by
    obtain ⟨h1, h2⟩ := reprChar_asc c hc
    rw [List.all_eq_true] at h1 h2
    rcases hq with e | e <;> rw [e] at hd
    · exact of_decide_eq_true (h1 d hd)
    · exact of_decide_eq_true (h2 d hd)
  intro c hm
  have hm : c ∈ ((x.cps.foldl (fun out c => out ++ (Builtin.Str.reprChar (reprQuote x) c).toArray) #[reprQuote x]).push (reprQuote x)).toList := hm
  rw [Array.toList_push, ← Array.foldl_toList] at hm
  have ql : reprQuote x < 128 := by rcases hq with e | e <;> rw [e] <;> decide
  rcases List.mem_append.mp hm with hm | hm
  · refine fold_asc hc x.cps.toList #[reprQuote x] h (fun d hd => ?_) c hm
    have e : d = reprQuote x := by simpa using hd
    rw [e]
    exact ql
  · rw [List.mem_singleton.mp hm]
    exact ql
/-- a value whose repr fits, and its signs -/
def okT (d : PyData) : Bool := okD d && (decide (d.shown.length ≤ 8000) && d.shown.cps.toList.all fun c => decide (c < 128))
theorem okT_of {d : PyData} (h : okT d = true) : okD d = true ∧ d.shown.length ≤ 8000 ∧ ∀ c ∈ d.shown.cps.toList, c < 128 := by
  unfold okT at h
  rw [Bool.and_eq_true, Bool.and_eq_true, decide_eq_true_eq, List.all_eq_true] at h
  exact ⟨h.1, h.2.1, fun c hc => of_decide_eq_true (h.2.2 c hc)⟩
theorem okT_str {L W : Nat} {s : Str} (h : Txt0 L W s) (hL : L ≤ 700) : okT (.str s) = true := by
  have h1 : ∀ c ∈ s.cps.toList, c < 128 := h.asc
  have hlen := h.len
  have hl : (PyData.shown (.str s)).length ≤ 10 * s.length + 2 := PySem.StrLaws.reprText_len s fun c hc => by have := h1 c hc; omega
  have hsz : (8000 : Nat) ≤ sizeLine := by decide
  unfold okT okD
  simp only [Bool.and_eq_true, decide_eq_true_eq, List.all_eq_true]
  exact ⟨⟨⟨rfl, by show 0 ≤ 60; decide⟩, by omega⟩, by omega, fun c hc => repr_asc h1 c hc⟩
theorem things_okT : things.all okT = true := by decide +kernel
theorem things_T {d : PyData} (h : d ∈ things) : okT d = true := by
  have hall := things_okT
  rw [List.all_eq_true] at hall
  exact hall d h
def txtB : PyData → Bool
  | .str s => decide (s.length ≤ 44) && s.cps.toList.all fun c => decide (c < 128)
  | _ => true
theorem txtB_ok {s : Str} (h : txtB (.str s) = true) : Txt0 300 44 s := by
  have h : (decide (s.length ≤ 44) && s.cps.toList.all fun c => decide (c < 128)) = true := h
  rw [Bool.and_eq_true, decide_eq_true_eq, List.all_eq_true] at h
  refine ⟨fun c hc => of_decide_eq_true (h.2 c hc), by omega, (runs_short (l := tl s)).mono ?_⟩
  rw [← len_tl]
  exact h.1
theorem things_txt {s : Str} (h : PyData.str s ∈ things) : Txt0 300 44 s := by
  have hall : things.all txtB = true := by decide +kernel
  rw [List.all_eq_true] at hall
  exact txtB_ok (hall _ h)
/-! errors and rounds told -/
def errD (n s : Str) : PyData := .list [.str n, .str s]
def backD (p e : Int) (ls : List (Int × Int)) : PyData := .list [.str "back", .list [.int p, .tuple (ls.map prD), .int e]]
theorem lit_of {x : Str} (h : ∀ c ∈ x.cps.toList, c < 128) : (x.cps.toList.all fun c => decide (c < 16 ^ 8)) = true := by
  rw [List.all_eq_true]
  intro c hc
  have : c < 128 := h c hc
  exact decide_eq_true (by omega)
theorem err_ok {n s : Str} (hn : n.length ≤ 20) (an : ∀ c ∈ n.cps.toList, c < 128) (hs : s.length ≤ 8000) (as : ∀ c ∈ s.cps.toList, c < 128) : (errD n s).showable = true ∧ (errD n s).depth ≤ 60 ∧ (errD n s).shown.length ≤ sizeLine := by
  refine ⟨rfl, by show max 0 (max 0 0) + 1 ≤ 60; omega, ?_⟩
  have hl : PyData.leavesShort 41 (errD n s) = true := by
    show ((n.cps.toList.all fun c => decide (c < 16 ^ 8)) && ((s.cps.toList.all fun c => decide (c < 16 ^ 8)) && true)) = true
    rw [lit_of an, lit_of as]
    rfl
  have z := PyData.shown_le 41 (by decide) _ hl
  have e : (errD n s).weight = n.length + 1 + (s.length + 1 + 0) := rfl
  have hl : (1000000 : Nat) ≤ sizeLine := by decide
  have : (41 + 2) * (errD n s).weight ≤ 43 * 9000 := Nat.mul_le_mul (Nat.le_refl _) (by omega)
  omega
theorem err_shaped {n s : Str} (hn : ∀ c ∈ n.cps.toList, c < 128) (hs : ∀ c ∈ s.cps.toList, c < 128) : SeqAt.shaped (errD n s) = true := by
  show ((PyData.strOk n && (PyData.strOk s && true)) && decide (max 0 (max 0 0) + 1 ≤ 64)) = true
  rw [str_ok hn, str_ok hs]
  rfl
theorem err_eqv (n s : Str) : PyData.eqv (errD n s) (errD n s) = true := by
  show ((n == n) && ((s == s) && true)) = true
  rw [beq_self_eq_true, beq_self_eq_true]
  rfl
/-- an integer that a word tells is not too great -/
theorem fig_bound {w : Str} {n : Int} (h : figS w = some n) (hl : w.length ≤ 560) : n.natAbs < 10 ^ w.length ∧ (nS n).length = w.length ∧ 0 < w.length := by
  have ok := fig_ok h
  have ew := fig_some h
  obtain ⟨h1, h2⟩ := digB_all ok
  have nn : ∀ m, intText? w = some m → m = n := fun m e => by
    have z := fig_yes ok e
    rw [h] at z
    split at z
    · exact (Option.some.inj z).symm
    · cases z
  have base : n.natAbs < 10 ^ w.length ∧ 0 < w.length := by
    cases e : tl w with
    | nil => rw [e] at h1; exact absurd rfl h1
    | cons c r =>
      have hlen : w.length = r.length + 1 := by rw [len_tl, e, List.length_cons]
      refine ⟨?_, by omega⟩
      rw [hlen] at hl ⊢
      by_cases hc : c = 45
      · subst hc
        rw [e] at h1 h2
        have z := PySem.intText_neg (x := w) (cs := r) e h2 h1 (by rw [len_tl, e, List.length_cons]; omega)
        rw [← nn _ z]
        have := digitsVal_lt r h2
        have : (10 : Nat) ^ r.length ≤ 10 ^ (r.length + 1) := Nat.pow_le_pow_right (by decide) (by omega)
        omega
      · rw [e, bareL_cons hc] at h1 h2
        have z := PySem.intText_digits (x := w) (by rw [show w.cps.toList = _ from e]; exact h2) (by rw [show w.cps.toList = _ from e]; exact h1) (by rw [len_tl, e, List.length_cons]; omega)
        rw [← nn _ z]
        rw [show w.cps.toList = _ from e]
        have := digitsVal_lt (c :: r) h2
        rw [List.length_cons] at this
        omega
  exact ⟨base.1, by rw [← ew], base.2⟩
theorem fig_wt {w : Str} {n : Int} (h : figS w = some n) (hl : w.length ≤ 560) : PyData.weight (.int n) ≤ 4 * w.length ∧ n.natAbs.log2 < 1920 := by
  obtain ⟨h1, _, h3⟩ := fig_bound h hl
  have e : (10 : Nat) ^ w.length ≤ 2 ^ (4 * w.length) := by
    rw [Nat.pow_mul]
    exact Nat.pow_le_pow_left (by decide) _
  have hlog : n.natAbs.log2 < 4 * w.length := PySem.Flt.log2_lt_of (by omega) (Nat.lt_of_lt_of_le h1 e)
  refine ⟨?_, log_big (Nat.lt_of_lt_of_le h1 (Nat.pow_le_pow_right (by decide) hl))⟩
  unfold PyData.weight
  split <;> omega
theorem part_len1 (w : Str) : (Txt.partition w ":").1.length ≤ w.length ∧ (Txt.partition w ":").2.2.length ≤ w.length := part_len w
theorem lamp_wt {w : Str} {q : Int × Int} (h : lampF w = some q) (hl : w.length ≤ 400) : PyData.weight (.int q.1) ≤ 4 * w.length ∧ PyData.weight (.int q.2) ≤ 4 * w.length ∧ q.1.natAbs.log2 < 1920 ∧ q.2.natAbs.log2 < 1920 ∧ (nS q.1).length ≤ 400 ∧ (nS q.2).length ≤ 400 := by
  obtain ⟨p1, p2⟩ := part_len w
  unfold lampF at h
  split at h
  · rename_i a b e1 e2
    cases h
    obtain ⟨a1, a2⟩ := fig_wt e1 (by omega)
    obtain ⟨b1, b2⟩ := fig_wt e2 (by omega)
    obtain ⟨_, c1, _⟩ := fig_bound e1 (by omega)
    obtain ⟨_, c2, _⟩ := fig_bound e2 (by omega)
    exact ⟨by show PyData.weight (.int a) ≤ _; omega, by show PyData.weight (.int b) ≤ _; omega, a2, b2, by show (nS a).length ≤ 400; omega, by show (nS b).length ≤ 400; omega⟩
  · cases h
theorem lamps_facts : ∀ {r : List Str} {ls : List (Int × Int)}, r.map lampF = ls.map some → (∀ w ∈ r, w.length ≤ 400) → PyData.leavesShortAll 400 (ls.map prD) = true ∧ PyData.weightAll (ls.map prD) ≤ 8 * wsum (r.map tl) ∧ PyData.showableAll (ls.map prD) = true ∧ PyData.depthAll (ls.map prD) ≤ 1
  | [], [], _, _ => ⟨rfl, Nat.zero_le _, rfl, by decide⟩
  | [], _ :: _, e, _ => by cases e
  | _ :: _, [], e, _ => by cases e
  | w :: r, q :: ls, e, h => by
    obtain ⟨h1, h2, h3, h4⟩ := lamps_facts (List.cons.inj e).2 fun x hx => h x (List.mem_cons_of_mem _ hx)
    have hw := h w (List.mem_cons_self ..)
    obtain ⟨a1, a2, b1, b2, c1, c2⟩ := lamp_wt (List.cons.inj e).1 hw
    refine ⟨?_, ?_, ?_, ?_⟩
    · show ((decide ((nS q.1).length ≤ 400) && (decide ((nS q.2).length ≤ 400) && true)) && PyData.leavesShortAll 400 (ls.map prD)) = true
      rw [h1, decide_eq_true c1, decide_eq_true c2]
      rfl
    · show (PyData.weight (.int q.1) + 1 + (PyData.weight (.int q.2) + 1 + 0)) + 1 + PyData.weightAll (ls.map prD) ≤ 8 * ((tl w).length + 1 + wsum (r.map tl))
      rw [← len_tl]
      omega
    · show ((decide (q.1.natAbs.log2 < 1920) && (decide (q.2.natAbs.log2 < 1920) && true)) && PyData.showableAll (ls.map prD)) = true
      rw [h3, decide_eq_true b1, decide_eq_true b2]
      rfl
    · show max (max 0 (max 0 0) + 1) (PyData.depthAll (ls.map prD)) ≤ 1
      omega
theorem parts_lamps {ws : List Str} {p e : Int} {ls : List (Int × Int)} (h : partsF ws = some (p, ls, e)) : ∃ a pw b ew y r, ws = a :: pw :: b :: ew :: y :: r ∧ figS pw = some p ∧ figS ew = some e ∧ (ls = [] ∨ r.map lampF = ls.map some) := by
  by_cases h5 : ws.length < 5
  · rw [parts_short h5] at h; cases h
  obtain ⟨a, pw, b, ew, y, r, rfl⟩ := five h5
  have ep : partsF (a :: pw :: b :: ew :: y :: r) = if a = ("levels" : Str) ∧ b = ("end" : Str) then (match figS pw, figS ew, lampsF (y :: r) with
    | some p, some e, some ls => some (p, ls, e)
    | _, _, _ => none) else none := rfl
  rw [ep] at h
  split at h
  · split at h
    · rename_i p' e' ls' e1 e2 e3
      cases h
      refine ⟨a, pw, b, ew, y, r, rfl, e1, e2, ?_⟩
      unfold lampsF at e3
      split at e3
      · cases e3
        exact .inl rfl
      · split at e3
        · rename_i w r' hr
          split at e3
          · exact .inr (allL_some (by rw [← (List.cons.inj hr).2] at e3; exact e3))
          · cases e3
        · cases e3
    · cases h
  · cases h
theorem back_ok {L W : Nat} {s : Str} (hs : Txt0 L W s) (hL : L ≤ 700) (hW : W ≤ 400) {p e : Int} {ls : List (Int × Int)} (h : readW (spW s) = some (p, ls, e)) : (backD p e ls).showable = true ∧ (backD p e ls).depth ≤ 60 ∧ (backD p e ls).shown.length ≤ sizeLine := by
  have hp : partsF (spW s) = some (p, ls, e) := by
    unfold readW at h
    split at h
    · rename_i r er
      split at h
      · rw [er, Option.some.inj h]
      · cases h
    · cases h
  obtain ⟨a, pw, b, ew, y, r, ews, f1, f2, hl⟩ := parts_lamps hp
  have hw : ∀ w ∈ spW s, w.length ≤ 400 := fun w hw => Nat.le_trans (hs.word hw).1 hW
  have hsum := words_sum s
  have hlen := hs.len
  have w1 := hw pw (by rw [ews]; simp)
  have w2 := hw ew (by rw [ews]; simp)
  obtain ⟨p1, p2⟩ := fig_wt f1 (by omega)
  obtain ⟨e1, e2⟩ := fig_wt f2 (by omega)
  obtain ⟨_, p3, _⟩ := fig_bound f1 (by omega)
  obtain ⟨_, e3, _⟩ := fig_bound f2 (by omega)
  have lf : PyData.leavesShortAll 400 (ls.map prD) = true ∧ PyData.weightAll (ls.map prD) ≤ 8 * wsum (r.map tl) ∧ PyData.showableAll (ls.map prD) = true ∧ PyData.depthAll (ls.map prD) ≤ 1 := by
    rcases hl with rfl | hl
    · exact ⟨rfl, Nat.zero_le _, rfl, by decide⟩
    · exact lamps_facts hl fun w hm => hw w (by rw [ews]; simp [hm])
  obtain ⟨h1, h2, h3, h4⟩ := lf
  have hr : wsum (r.map tl) ≤ s.length + 1 := by
    rw [ews] at hsum
    have : wsum ((a :: pw :: b :: ew :: y :: r).map tl) = (tl a).length + 1 + ((tl pw).length + 1 + ((tl b).length + 1 + ((tl ew).length + 1 + ((tl y).length + 1 + wsum (r.map tl))))) := rfl
    omega
  refine ⟨?_, ?_, ?_⟩
  · show (true && ((decide (p.natAbs.log2 < 1920) && (PyData.showableAll (ls.map prD) && (decide (e.natAbs.log2 < 1920) && true))) && true)) = true
    rw [h3, decide_eq_true p2, decide_eq_true e2]
    rfl
  · show max 0 (max (max 0 (max (PyData.depthAll (ls.map prD) + 1) (max 0 0)) + 1) 0) + 1 ≤ 60
    omega
  · have one : PyData.leavesShort 400 (backD p e ls) = true := by
      show ((("back" : Str).cps.toList.all fun c => decide (c < 16 ^ 8)) && ((decide ((nS p).length ≤ 400) && (PyData.leavesShortAll 400 (ls.map prD) && (decide ((nS e).length ≤ 400) && true))) && true)) = true
      rw [h1, decide_eq_true (by rw [p3]; omega), decide_eq_true (by rw [e3]; omega)]
      decide
    have z := PyData.shown_le 400 (by decide) _ one
    have wt : PyData.weight (.tuple (ls.map prD)) = PyData.weightAll (ls.map prD) := rfl
    have eb : (backD p e ls).weight = ("back" : Str).length + 1 + ((PyData.weight (.int p) + 1 + (PyData.weight (.tuple (ls.map prD)) + 1 + (PyData.weight (.int e) + 1 + 0))) + 1 + 0) := rfl
    have lb : ("back" : Str).length = 4 := rfl
    have : (400 + 2) * (backD p e ls).weight ≤ 402 * 10000 := Nat.mul_le_mul (Nat.le_refl _) (by omega)
    have hl : (402 * 10000 + 100 : Nat) ≤ sizeLine := by decide
    omega
end Lamp
set_option Elab.async false
set_option linter.all false
set_option maxRecDepth 100000
set_option maxHeartbeats 1000000
namespace Lamp
open PySem PySem.Spec PyProof.Rows L2 LamX
abbrev sSort : Stmt := top 40
/-! the sorting of errors -/
structure KdT (K : PySem.W.Frag) (cA cB cC xT : Addr) : Prop where
  T : ∃ (B newId initId : String) (tail : List Value), EC K xT B newId initId tail
  kg : PySem.W.findIn K (.ref xT) "given" = some none
  k1 : PySem.W.kitOne K (.ref xT) (.ref cA) = some true
  k2 : PySem.W.kitOne K (.ref xT) (.ref cB) = some false
  k3 : PySem.W.kitOne K (.ref xT) (.ref cC) = some false
  k4 : PySem.W.kitOne K (.ref xT) (.type "ValueError") = some true
  k5 : PySem.W.kitOne K (.ref xT) (.type "LookupError") = some false
  k6 : PySem.W.kitOne K (.ref xT) (.type "ArithmeticError") = some false
  kT : PySem.W.kitOne K (.ref xT) (.ref xT) = some true
structure NmT (mg : Str → Option Value) (cA cB cC xT : Addr) : Prop where
  mA : mg "WrongValue" = some (.ref cA)
  mB : mg "WrongName" = some (.ref cB)
  mC : mg "NotPossible" = some (.ref cC)
  mx : mg "InvalidText" = some (.ref xT)
  n1 : mg "ValueError" = none
  n2 : mg "LookupError" = none
  n3 : mg "ArithmeticError" = none
def spSort (K : PySem.W.Frag) (xT : Addr) : SpP := fun a D dd vs H Q _ => vs = [.ref a] ∧ D = xT ∧ ∃ (y : V) (d : PyData), H dd = some (exd dd [("given", y)]) ∧ Dq K H y d ∧ okD d = true ∧ ∀ l H', Same H H' → H l = none → H' l = some (.lst [.str "InvalidText", .str d.shown]) → Q (.ref l) H'
def flD : PyData := .list ([true, false, false].map PyData.bool)
theorem fl_ok : SeqAt.shaped flD = true ∧ PyData.eqv flD flD = true := by decide +kernel
theorem fl_cnt : (([true, false, false].map PyData.bool).countP fun z => PyData.eqv z (.bool true)) = 1 := by decide +kernel
theorem sq_lstVn {ta : TA} {σ : L2.St} {H : Hp} {vs : List V} {t2 : TS} {D : Ends} {i : Nat} (h : VA ta σ H vs) (hl : vs.length ≤ 100) (k : ∀ l H', H l = none → H' l = some (.lst vs) → Same H H' → t2 D (σ.set i (some (.ref l))) H') : tSeq (tAsg (tLst ta) (gName i)) t2 D σ H :=
  h _ ⟨Nat.le_of_lt (small1000 (by omega)), fun r hr => k r _ hr upd_same (same_of hr)⟩
section
variable {P : Program} {w : World} {K : PySem.W.Frag} {mg : Str → Option Value} {base : Heap} {cA cB cC xT : Addr}
theorem scSort : FnScope ["_law_e", "_law_bases", "_law_plain", "_law_found"] ["_law_e"] (defScope sSort) := ⟨rfl, rfl, rfl, by decide +kernel, rfl, by decide +kernel, by decide +kernel⟩
theorem ok_sort {f : Addr} {fd : FuncData} (F : Fun K "_law_sort" "_law_sort" sSort f fd) (G : ClsG K) (N : NmT mg cA cB cC xT) (DD : KdT K cA cB cC xT)
    (mis : mg "isinstance" = none) (mp : mg "repr" = none) (ml : mg "len" = none) : FnP P w K mg base 2 f fd ["_law_e"] (spSort K xT) := by
  refine okP F scSort (fun a D dd vs H Q E h => ?_) (fun cdv A outer s H vs Q p D dd hgd hr Z h => ?_)
  · obtain ⟨rfl, _⟩ := h
    rfl
  · obtain ⟨rfl, rfl, y, d, hd, hq, kd, q⟩ := h
    have hu : (A.deeper (envOfC "_law_sort" (defScope sSort) s.heap.objs.size f cdv)).units + 64 < cLine := by have := hr.un; omega
    have hp : p ∈ (L2H.cxH CX0 P w K mg base ["_law_e", "_law_bases", "_law_plain", "_law_found"] "_law_sort" (defScope sSort) f cdv A outer s H E0 p).nox.pn := List.mem_cons_self ..
    refine ⟨_, pss_cons (ps_set (i := 1) scSort.nd rfl (.inl rfl) (pe_lst (pa_cons (pe_callB (call_isP G DD.T hp Z) (by rfl) mis (by decide +kernel) (pa_cons (pv 0) (pa_cons (pe_glob (v := .ref cA) rfl N.mA rfl) pa_nil)))
          (pa_cons (pe_callB (call_isP G DD.T hp Z) (by rfl) mis (by decide +kernel) (pa_cons (pv 0) (pa_cons (pe_glob (v := .ref cB) rfl N.mB rfl) pa_nil))) (pa_cons (pe_callB (call_isP G DD.T hp Z) (by rfl) mis (by decide +kernel) (pa_cons (pv 0) (pa_cons (pe_glob (v := .ref cC) rfl N.mC rfl) pa_nil))) pa_nil)))))
      (pss_cons (ps_set (i := 2) scSort.nd rfl (.inl rfl) (pe_lst (pa_cons (pe_callB (call_isP G DD.T hp Z) (by rfl) mis (by decide +kernel) (pa_cons (pv 0) (pa_cons (pe_bltn (v := .ty "ValueError") (by rfl) N.n1 (by decide +kernel) rfl) pa_nil)))
          (pa_cons (pe_callB (call_isP G DD.T hp Z) (by rfl) mis (by decide +kernel) (pa_cons (pv 0) (pa_cons (pe_bltn (v := .ty "LookupError") (by rfl) N.n2 (by decide +kernel) rfl) pa_nil))) (pa_cons (pe_callB (call_isP G DD.T hp Z) (by rfl) mis (by decide +kernel) (pa_cons (pv 0) (pa_cons (pe_bltn (v := .ty "ArithmeticError") (by rfl) N.n3 (by decide +kernel) rfl) pa_nil))) pa_nil)))))
      (pss_cons (ps_set (i := 3) scSort.nd rfl (.inl rfl) (pe_lst pa_nil))
      (pss_cons (ps_if (pt_val (pe_callB (call_isP G DD.T hp Z) (by rfl) mis (by decide +kernel) (pa_cons (pv 0) (pa_cons (pe_glob (v := .ref D) rfl N.mx rfl) pa_nil)))) (pss_one (ps_expr (pe_bm PySem.F.plainAttrs_list PySem.F.slot_list_append PySem.F.type_list_append mt_append (pv 3)
          (pa_cons (pe_lst (pa_cons pe_str (pa_cons (pe_callB (call_reprD hgd hu) (by rfl) mp (by decide +kernel) (pa_cons (pe_xfP DD.T DD.kg hp Z (pv 0)) pa_nil)) pa_nil))) pa_nil)))) pss_nil)
      (pss_one (ps_ret (pe_ifExp (PW.pt (pw_and (pt_cmpR op_eq (pe_callB call_len_seq (by rfl) ml PySem.boot_len (pa_cons (pv 3) pa_nil)) pe_int (nomark _)) (pw_and (pt_cmpR (op_eqD hu) (pv 1) (pv 2) (nomark _))
          (pw_and1 (pt_cmpR op_eq (pe_bm PySem.F.plainAttrs_list PySem.F.slot_list_count PySem.F.type_list_count (mt_cntD hu) (pv 1) (pa_cons pe_bl pa_nil)) pe_int (nomark _))))))
          (pe_ix ix_list (pv 3) pe_int (fun _ _ => rfl)) (pe_lst (pa_cons pe_str (pa_cons pe_str pa_nil))))))))), ?_⟩
    refine sq_lstV (va_cons (v_isP rfl hd DD.k1) (va_cons (v_isP rfl hd DD.k2) (va_cons (v_isP rfl hd DD.k3) va_nil))) (by decide) fun l1 H1 h1 s1 => ?_
    have hd1 := s1 _ _ hd
    refine sq_lstV (va_cons (v_isPT rfl hd1 DD.k4) (va_cons (v_isPT rfl hd1 DD.k5) (va_cons (v_isPT rfl hd1 DD.k6) va_nil))) (by decide) fun l2 H2 h2 s2 => ?_
    refine sq_lstVn va_nil (by decide) fun l3 H3 n3 h3 s3 => ?_
    have n3 := (s1.trans s2).free n3
    dsimp only [List.set, L2.start, List.map, List.length, List.replicate, List.append]
    have hd3 := s3 _ _ (s2 _ _ hd1)
    have g2 := s3 _ _ h2
    have g1 := s3 _ _ (s2 _ _ h1)
    have s03 := (s1.trans s2).trans s3
    have hq3 := dq_same s03 hq
    have kd3 := okD_of kd
    have n31 : l1 ≠ l3 := fun z => by rw [z, h3] at g1; cases g1
    have n32 : l2 ≠ l3 := fun z => by rw [z, h3] at g2; cases g2
    refine sq_yes (ans_val (v_isP rfl hd3 DD.kT)) ?_
    refine ⟨_, rfl, .inl ⟨rfl, _, SqL.of h3⟩, _, rfl, rfl, _, y, hd3, by rw [List.lookup_cons, beq_self_eq_true], y, d, rfl, hq3, kd3.1, kd3.2.1, kd3.2.2, (by show 2 ≤ sizeLine; decide), fun l4 n4 => ?_⟩
    have m1 := ne_of_none g1 n4
    have m2 := ne_of_none g2 n4
    have m3 := ne_of_none h3 n4
    refine ⟨l3, [], _, rfl, rfl, by rw [upd_ne m3]; exact h3, (by show 0 < sizeLine; decide), ?_⟩
    have s4 : Same H (upd (upd H3 l4 (.lst [.str "InvalidText", .str d.shown])) l3 (.lst [.ref l4])) := fun b o e => by
      rw [upd_ne (ne_of_none e n3), upd_ne (ne_of_none (s03 _ _ e) n4)]
      exact s03 _ _ e
    have e1 : (upd (upd H3 l4 (.lst [.str "InvalidText", .str d.shown])) l3 (.lst [.ref l4])) l1 = some (.lst [.bl true, .bl false, .bl false]) := by rw [upd_ne n31, upd_ne m1]; exact g1
    have e2 : (upd (upd H3 l4 (.lst [.str "InvalidText", .str d.shown])) l3 (.lst [.ref l4])) l2 = some (.lst [.bl true, .bl false, .bl false]) := by rw [upd_ne n32, upd_ne m2]; exact g2
    have e3 : (upd (upd H3 l4 (.lst [.str "InvalidText", .str d.shown])) l3 (.lst [.ref l4])) l3 = some (.lst [.ref l4]) := upd_same
    have e4 : (upd (upd H3 l4 (.lst [.str "InvalidText", .str d.shown])) l3 (.lst [.ref l4])) l4 = some (.lst [.str "InvalidText", .str d.shown]) := by rw [upd_ne (Ne.symm m3), upd_same]
    dsimp only
    show tRet _ _ _ (upd (upd H3 l4 (.lst [.str "InvalidText", .str d.shown])) l3 (.lst [.ref l4]))
    revert s4 e1 e2 e3 e4
    generalize (upd (upd H3 l4 (.lst [.str "InvalidText", .str d.shown])) l3 (.lst [.ref l4])) = H4
    intro s4 e1 e2 e3 e4
    have a3 : Ans (tTest (tOp rEq (tBM K "list" (rCntD K) (tVar 1) (tCons (tC (.bl true)) tNil)) (tC (.int 1)))) [some (.ref p.1), some (.ref l1), some (.ref l2), some (.ref l3)] H4 true := by
      refine ans_eq (x := .int 1) (y := .int 1) (fun Q q => ⟨_, rfl, .inl ⟨rfl, _, SqL.of e1⟩, l1, _, .bl true, [true, false, false].map PyData.bool, .bool true, rfl, rfl, SqL.of e1, dpAll_bools (bs := [true, false, false]), .bl true, by decide, by decide, by decide, ?_⟩) val_c rfl rfl
      rw [fl_cnt]
      exact q
    have a2 : Ans (tTest (tOp (rEqD K) (tVar 1) (tVar 2))) [some (.ref p.1), some (.ref l1), some (.ref l2), some (.ref l3)] H4 true := by
      intro Q q
      refine ⟨_, rfl, _, rfl, flD, flD, .lst (SqL.of e1) (dpAll_bools (bs := [true, false, false])), .lst (SqL.of e2) (dpAll_bools (bs := [true, false, false])), fl_ok.1, fl_ok.1, _, rfl, ?_⟩
      rw [fl_ok.2]
      exact q
    have a1 : Ans (tTest (tOp rEq (tCB (fun xs H Q => ∃ p ys, xs = [.ref p] ∧ (SqL K H p ys ∨ SqT K H p ys) ∧ Q (.int ys.length) H) (tCons (tVar 3) tNil)) (tC (.int 1)))) [some (.ref p.1), some (.ref l1), some (.ref l2), some (.ref l3)] H4 true := ans_eq (x := .int 1) (y := .int 1) (fun Q q => ⟨_, rfl, l3, _, rfl, .inl (SqL.of e3), q⟩) val_c rfl rfl
    refine ans_and a1 (ans_and a2 a3) _ ?_
    exact iteT ⟨_, rfl, l3, _, 0, .ref l4, rfl, rfl, SqL.of e3, rfl, q l4 H4 s4 (s03.free n4) e4⟩
end
end Lamp
set_option Elab.async false
set_option linter.all false
set_option maxRecDepth 100000
set_option maxHeartbeats 1000000
namespace Lamp
open PySem PySem.Spec PyProof.Rows L2 LamX ClX
open TL (tl)
abbrev sRight : Stmt := top 42
section
variable {K : PySem.W.Frag}
theorem tabs_but {T : List (Addr × Str)} {H H' : Hp} {p : Addr} (hp : Pail H p) (b : But p H H') (t : Tabs T H) : Tabs T H' := fun x hx => by
  obtain ⟨ps, h1, h2, h3⟩ := t x hx
  obtain ⟨a, b', c, e, _⟩ := hp
  have n1 : x.1 ≠ p := fun z => by rw [z, e] at h1; cases h1
  refine ⟨ps, b _ _ n1 h1, h2, fun pos cv hc => ?_⟩
  obtain ⟨c', e1, e2⟩ := h3 pos cv hc
  have n2 : c' ≠ p := fun z => by rw [z, e] at e2; unfold CodeO at e2; cases e2
  exact ⟨c', e1, b _ _ n2 e2⟩
theorem tabs_upd {T : List (Addr × Str)} {H : Hp} {l : Addr} {xs ys : List V} (h : H l = some (.lst xs)) (t : Tabs T H) : Tabs T (upd H l (.lst ys)) := fun x hx => by
  obtain ⟨ps, h1, h2, h3⟩ := t x hx
  have n1 : x.1 ≠ l := fun z => by rw [z, h] at h1; cases h1
  refine ⟨ps, by rw [upd_ne n1]; exact h1, h2, fun pos cv hc => ?_⟩
  obtain ⟨c', e1, e2⟩ := h3 pos cv hc
  have n2 : c' ≠ l := fun z => by rw [z, h] at e2; unfold CodeO at e2; cases e2
  exact ⟨c', e1, by rw [upd_ne n2]; exact e2⟩
end
def qR : Str := (envOfC "_law_right" (defScope sRight) 0 0 .none).qual ++ "<lambda>"
section
variable {P : Program} {w : World} {K : PySem.W.Frag} {mg : Str → Option Value} {base : Heap}
/-- the rule for a def whose code object is asked -/
theorem okGC {x qual : Str} {st : Stmt} {f : Addr} {fd : FuncData} {N ps : List Str} {k : Nat} {sp : Sp} (F : Fun K x qual st f fd) (S : FnScope N ps (defScope st)) (len : ∀ vs H Q E, sp vs H Q E → vs.length = ps.length)
    (hbody : ∀ (cdv : Value) (A : Around) (outer : List Env) (s : Shared) (H : Hp) (vs : List V) (Q : VK) (E : XK), fd.code = cdv → A.guards = some [] → Room k (A.deeper (envOfC qual (defScope st) s.heap.objs.size f cdv)) → sp vs H Q E →
      ∃ t, PSs (cxOf CX0 P w K mg base N qual (defScope st) f cdv A outer s H E).nox (defBody st) t ∧ t { nx := fun _ H' => Q .non H', rt := Q } (start N vs) H) : FnG P w K mg base (k + 1) f fd ps sp := by
  obtain ⟨oc, od, kV, doc, pm, an, cdv, ct, osl, efd, hlk, hcode⟩ := F.ex
  subst efd
  refine ⟨len, fun A out s H ar us vs Q E hgd hroom hst hbind hvals hs => ?_⟩
  have hcount := len _ _ _ _ hs
  have inK : K.In s.heap := hst.mod.kin.keeps fun b o e => (hst.bs b o e).1
  have noLim : s.heap.NoLimit := hst.mod.nolimit.keeps fun b o e => (hst.bs b o e).1
  refine codeAny_call_function hroom.depth (inK _ _ hlk) rfl S.co S.gen rfl (PySem.W.codeRec_of inK hcode) (hbind _ _ _ _ ?_)
  refine wpAny_newFunctionEnv_cells S.kind (fun y hy => ?_) fun env eenv s1 xin => ?_
  · obtain ⟨nm, val⟩ := y
    cases S.par nm (List.of_mem_zip hy).1 with
    | inl isLocal => exact .inl isLocal
    | inr isCell => exact .inr ⟨isCell, PySem.W.cellsFrom_some _ _ _ (.inl isCell)⟩
  subst eenv
  refine ⟨noLim.keeps xin.toInCall.keep, codeAny_func ?_⟩
  obtain ⟨t, ht0, hq⟩ := hbody cdv A out s H vs Q E rfl hgd (hroom.deeper _) hs
  have ht := ht0.nox
  have inv0 : Inv (cxOf CX0 P w K mg base N qual (defScope st) f cdv A out s H E) [] (start N vs) H s1 := inv_start S hroom.hd hst hcount hvals xin
  have fin : ∀ {σ' : L2.St} {H' : Hp} {v : V} {u : Value} {s' : Shared}, Inv (cxOf CX0 P w K mg base N qual (defScope st) f cdv A out s H E) [] σ' H' s' → RelV v u → Q v H' → CE out P w H s Q u s' := fun J rv q => ⟨_, _, J.os, J.bare, J.base, J.hok, rv, q⟩
  refine wpAny_mono (ht.run [] s1 (start N vs) H _ inv0 hq) (fun flow s' told => ?_) fun e s' told => told
  match flow, told with
  | .ret u, ⟨v, σ', H', J, rv, q⟩ => exact fin J rv q
  | .next, ⟨σ', H', J, q⟩ => exact fin (v := V.non) (u := Value.none) J rfl q
  | .brk, ⟨_, _, _, q⟩ => exact False.elim q
  | .cont, ⟨_, _, _, q⟩ => exact False.elim q
end
theorem passes_lam2 {X : Cx} {E : XK} {A : Around} {outer : List Env} {s : Shared} {H : Hp} {scope : Scope} {f c' : Addr} : Passes (L2.CX (lamCx X A outer s H E scope f c').prog (lamCx X A outer s H E scope f c').w) (lamCx X A outer s H E scope f c') E := passes_call (X := lamCx X A outer s H E scope f c') (takes_of rfl rfl rfl rfl) fun _ _ _ _ h => h
/-! the class's reading, called -/
structure RdX (P : Program) (w : World) (K : PySem.W.Frag) (mg : Str → Option Value) (base : Heap) (C xT : Addr) : Prop where
  ex : ∃ (mc : Value) (p g : Addr) (fd : FuncData), CRead K C mc ∧ CMet K C mc "read" p g ∧ FnOk P w K mg base (L2.CX P w) 6 g fd ["cls", "text"] (spRd K C xT) ∧ Binds K fd ["cls", "text"] []
def spRd1 (K : PySem.W.Frag) (C xT : Addr) : Sp := fun vs H Q E => spRd K C xT (vs ++ []) H Q E
theorem pe_rdX {X : Cx} {C xT : Addr} {o e : Expr} {ta : TE} {t : TA} {E : XK} {pos apos : Pos} {pl : Sem Bool} (Z : RdX X.prog X.w X.K X.mg X.base C xT) (hr : Room 6 X.A) (hx : Passes (L2.CX X.prog X.w) X E) (he : PE X o ta) (ha : PA X [e] t)
    (hst : starEach [e] X.env = (false, eval e X.env) :: starEach [] X.env := by rfl) (hpl : (backTo pos (starEach [] X.env)).any (·.1) = false := by rfl)
    (ht : eval (.Call (.Attribute o "read" apos) [e] [] pos) X.env = (do
      let ov ← eval o X.env
      standAt apos.atName
      let (f, first) ← holding [ov] (getMethod ov "read" pl)
      callWith pos f first (backTo pos (starEach [e] X.env)) (backToKw pos (keywordEach [] X.env))) := by rfl) :
    PE X (.Call (.Attribute o "read" apos) [e] [] pos) (tCMeth C (spRd1 X.K C xT) E ta t) := by
  obtain ⟨mc, p, g, fd, r, c, F, b⟩ := Z.ex
  exact pe_cmeth he r c (F.raw b .nil) hr hx ha hst hpl ht
/-- the bodies of the lambdas, wherever they stand -/
theorem pe_bodyR {Y : Cx} {C xT : Addr} {E : XK} {p1 p2 p3 p4 p5 p6 : Pos} (Td : Dr Y.prog Y.w Y.K Y.mg Y.base (spTold C) "_law_told" ["_law_mine"] 3) (Z : RdX Y.prog Y.w Y.K Y.mg Y.base C xT) (hr : Room 6 Y.A) (g1 : Gl Y "_law_told") (g2 : Gl Y "Round") (mR : Y.mg "Round" = some (.ref C)) (hx : Passes (L2.CX Y.prog Y.w) Y E)
    (n2 : Y.N[4]? = some ("_law_value" : Str)) (v2 : Vis Y.env.scope "_law_value")
    (ht : ∃ pl : Sem Bool, eval (.Call (.Attribute (.Name "Round" p2) "read" p3) [.Name "_law_value" p4] [] p5) Y.env = (do
      let ov ← eval (.Name "Round" p2) Y.env
      standAt p3.atName
      let (f, first) ← holding [ov] (getMethod ov "read" pl)
      callWith p5 f first (backTo p5 (starEach [.Name "_law_value" p4] Y.env)) (backToKw p5 (keywordEach [] Y.env)))) :
    PE Y (.Call (.Name "_law_told" p1) [.Call (.Attribute (.Name "Round" p2) "read" p3) [.Name "_law_value" p4] [] p5] [] p6) (tCallG (spTold C) (tCons (tCMeth C (spRd1 Y.K C xT) E (tC (.ref C)) (tCons (tVar 4) tNil)) tNil)) :=
  by
    obtain ⟨pl, ht⟩ := ht
    exact pe_dr Td (by decide) hr g1 (pa_cons (pe_rdX Z hr hx (pe_glob (v := .ref C) g2 mR rfl) (pa_cons (pv 4 n2 v2) pa_nil) (ht := ht)) pa_nil)
/-! what a value that is read comes to -/
def RVal (v : V) (o : Option (Int × List (Int × Int) × Int)) : Prop := (strV v = false ∧ o = none) ∨ ∃ (s : Str) (L W : Nat), v = .str s ∧ Txt0 L W s ∧ L ≤ 700 ∧ W ≤ 400 ∧ o = readW (spW s)
def tellD (d : PyData) : Option (Int × List (Int × Int) × Int) → PyData
  | none => errD "InvalidText" d.shown
  | some (p, ls, e) => backD p e ls
theorem tell_ok {v : V} {d : PyData} {o : Option (Int × List (Int × Int) × Int)} (h : RVal v o) (kd : okT d = true) : (tellD d o).showable = true ∧ (tellD d o).depth ≤ 60 ∧ (tellD d o).shown.length ≤ sizeLine := by
  obtain ⟨k1, k2, k3⟩ := okT_of kd
  rcases h with ⟨_, rfl⟩ | ⟨s, L, W, rfl, hs, hL, hW, e⟩
  · exact err_ok (by decide) (by decide) k2 k3
  · cases o with
    | none => exact err_ok (by decide) (by decide) k2 k3
    | some r =>
      obtain ⟨p, ls, en⟩ := r
      exact back_ok hs hL hW e.symm
theorem rd_run {K : PySem.W.Frag} {C xT cA cB cC f : Addr} {v : V} {t : T} {d : PyData} {o : Option (Int × List (Int × Int) × Int)} {H : Hp} {Q : VK} (hv : RVal v o) (an : An K H v t) (dq : Dq K H v d) (kd : okD d = true) (mT : PySem.W.exmAny K (.ref xT) [.ref cA, .ref cB, .ref cC] = some true)
    (k : ∀ g H', Same H H' → Dp K H' (.ref g) (tellD d o) → Q (.ref g) H') : rRd K C xT v H (raisE K (.ref cA) (.ref cB) (.ref cC) (spSort K xT) Q) (fun x H2 => spTold C [x] H2 (backE f Q) E0) := by
  have bad : tellD d o = errD "InvalidText" d.shown → RdTo C xT v H (raisE K (.ref cA) (.ref cB) (.ref cC) (spSort K xT) Q) (fun x H2 => spTold C [x] H2 (backE f Q) E0) none := fun eo e H' s he =>
    ⟨xT, e, rfl, rfl, mT, fun a na => ⟨rfl, rfl, v, d, he, dq_same s dq, kd, fun l H'' s2 nl hl => k l H'' (s.trans s2) (by rw [eo]; exact .lst (SqL.of hl) (.cons (.str _) (.cons (.str _) .nil)))⟩⟩
  rcases hv with ⟨hs, rfl⟩ | ⟨s, L, W, rfl, hs, hL, hW, e⟩
  · exact .inl ⟨t, an, hs, bad rfl⟩
  · refine .inr ⟨s, L, W, rfl, hs, by omega, by omega, ?_⟩
    rw [← e]
    cases o with
    | none => exact bad rfl
    | some r =>
      obtain ⟨p, ls, en⟩ := r
      intro a t' H' sH na hr hp
      refine ⟨a, _, _, _, rfl, hr, fun l H2 s2 nl hl => back_run fun l2 nl2 => ?_⟩
      have s3 := same_of (o := .lst [V.str "back", V.ref l]) nl2
      obtain ⟨as, h1, h2⟩ := hp.same (s2.trans s3)
      exact k l2 _ ((sH.trans s2).trans s3) (.lst (SqL.of upd_same) (.cons (.str _) (.cons (.lst (SqL.of (s3 _ _ hl)) (.cons (.int _) (.cons (.tup (SqT.of h1) (dp_pairs h2)) (.cons (.int _) .nil)))) .nil)))
theorem thing_val {K : PySem.W.Frag} {H : Hp} {v : V} {d : PyData} (hd : d ∈ things) (q : Dq K H v d) : ∃ o, RVal v o := by
  cases q with
  | plain h =>
    cases h with
    | str x => exact ⟨_, .inr ⟨x, 300, 44, rfl, things_txt hd, by decide, by decide, rfl⟩⟩
    | _ => exact ⟨none, .inl ⟨rfl, rfl⟩⟩
  | dict h1 h2 => exact ⟨none, .inl ⟨rfl, rfl⟩⟩
theorem shaped_back (p e : Int) (ls : List (Int × Int)) : SeqAt.shaped (.list [.int p, .tuple (ls.map prD), .int e]) = true := by
  obtain ⟨h1, h2⟩ := lay_pairs ls
  unfold SeqAt.shaped
  rw [Bool.and_eq_true]
  refine ⟨?_, decide_eq_true ?_⟩
  · show (true && (PyData.canLayAll0 (ls.map prD) && (true && true))) = true
    rw [h1]
    rfl
  · show max 0 (max (PyData.depthAll (ls.map prD) + 1) (max 0 0)) + 1 ≤ 64
    omega
def spRight (K : PySem.W.Frag) (T : List (Addr × Str)) : Sp := fun vs H Q _ => ∃ (p : Addr), vs = [.ref p] ∧ Pail H p ∧ Tabs T H ∧ ∀ H', ButN p H H' → Tabs T H' → Q (.bl true) H'
end Lamp
set_option Elab.async false
set_option linter.all false
set_option maxRecDepth 100000
set_option maxHeartbeats 400000
namespace Lamp
open PySem PySem.Spec PyProof.Rows L2 LamX ClX
/-- signs and runs, after each bending -/
def LB : Nat → Nat × Nat
  | 0 => (300, 44)
  | i + 1 => ((LB i).1 + (LB i).2 + 8, 2 * (LB i).2 + 1)
theorem lb_le : ∀ {i : Nat}, i ≤ 3 → (LB i).1 ≤ 636 ∧ (LB i).2 ≤ 359 ∧ 6 ≤ (LB i).2
  | 0, _ => by decide
  | 1, _ => by decide
  | 2, _ => by decide
  | 3, _ => by decide
  | i + 4, h => by omega
/-- at l: the parts that a text tells, or nothing -/
def PH (H : Hp) (l : Addr) : Option (Int × List (Int × Int) × Int) → Prop
  | none => H l = some (.lst [])
  | some (p, ls, e) => ∃ t, H l = some (.lst [.int p, .ref t, .int e]) ∧ PairsAt H t ls
section
variable {P : Program} {w : World} {K : PySem.W.Frag} {mg : Str → Option Value} {base : Heap} {C xT cA cB cC : Addr}
abbrev nmRight : List Str := ["_law_pail", "_law_turn", "_law_said", "_law_again", "_law_value", "_law_parts_here", "_law_due"]
theorem scRight : FnScope nmRight ["_law_pail"] (defScope sRight) := ⟨rfl, rfl, rfl, by decide +kernel, rfl, by decide +kernel, by decide +kernel⟩
theorem ok_right {f c Pt : Addr} {fd : FuncData} {T : List (Addr × Str)} (F : Fun K "_law_right" "_law_right" sRight f fd) (hcd : fd.code = .ref c) (TB : TabB base mg c Pt) (hmT : (Pt, qR) ∈ T) (hu : ∀ p ∈ T, p.1 = Pt → p.2 = qR)
    (Pa : Dr P w K mg base (spParts K) "_law_parts" ["_law_pail"] 5) (Sh : Dr P w K mg base (spSheet K) "_law_sheet" ["_law_parts_here"] 1) (Be : Dr P w K mg base spBentS "_law_bent_said" ["_law_pail", "_law_said"] 3) (Th : Dr P w K mg base (spThing K) "_law_thing" ["_law_pail"] 3)
    (Cs : Dr P w K mg base spCast "_law_cast" ["_law_pail", "_law_many"] 1) (Lr : Dr P w K mg base (spLRead K) "_law_read" ["_law_said"] 3)
    (Aw : AnsR P w K mg base cA cB cC (spSort K xT) 2) (Td : Dr P w K mg base (spTold C) "_law_told" ["_law_mine"] 3) (Rd : RdX P w K mg base C xT) (mR : mg "Round" = some (.ref C)) (mT : PySem.W.exmAny K (.ref xT) [.ref cA, .ref cB, .ref cC] = some true)
    (mr : mg "range" = none) (mp : mg "repr" = none) (mis : mg "isinstance" = none) (ms : mg "str" = none) : FnG P w K mg base 10 f fd ["_law_pail"] (spRight K T) := by
  refine okGC F scRight (fun vs H Q E h => ?_) (fun cdv A outer s H vs Q E hcv hgd hr h => ?_)
  · obtain ⟨p, rfl, _⟩ := h
    rfl
  · obtain ⟨p, rfl, hp, hT, q⟩ := h
    have hu64 := hr.units
    have hr8 : Room 8 _ := hr.mono (by decide)
    have ec : cdv = .ref c := hcv.symm.trans hcd
    subst ec
    refine ⟨_, pss_cons (ps_for PassesOwn.never rfl (pi_range1 rfl mr (pa_cons pe_int pa_nil)) (pg_name (i := 1) scRight.nd rfl (.inl rfl))
        (pss_cons (ps_set (i := 2) scRight.nd rfl (.inl rfl) (pe_dr Sh (by decide) hr rfl (pa_cons (pe_dr Pa (by decide) hr rfl (pa_cons (pv 0) pa_nil)) pa_nil)))
        (pss_cons (ps_for PassesOwn.never rfl (pi_range1 rfl mr (pa_cons (pe_dr Cs (by decide) hr rfl (pa_cons (pv 0) (pa_cons pe_int pa_nil))) pa_nil)) (pg_name (i := 3) scRight.nd rfl (.inl rfl))
          (pss_one (ps_set (i := 2) scRight.nd rfl (.inl rfl) (pe_dr Be (by decide) hr rfl (pa_cons (pv 0) (pa_cons (pv 2) pa_nil))))))
        (pss_cons (ps_set (i := 4) scRight.nd rfl (.inr rfl) (pe_ifExp (pt_cmpR op_gt (pe_dr Cs (by decide) hr rfl (pa_cons (pv 0) (pa_cons pe_int pa_nil))) pe_int (nomark _)) (pv 2) (pe_dr Th (by decide) hr rfl (pa_cons (pv 0) pa_nil))))
        (pss_cons (ps_set (i := 5) scRight.nd rfl (.inl rfl) (pe_ifExp (pt_val (pe_callB call_isi (by rfl) mis (by decide +kernel) (pa_cons (pv 4) (pa_cons (pe_bltn (v := .ty "str") (by rfl) ms (by decide +kernel) rfl) pa_nil)))) (pe_dr Lr (by decide) hr rfl (pa_cons (pv 4) pa_nil)) (pe_lst pa_nil)))
        (pss_cons (ps_set (i := 6) scRight.nd rfl (.inl rfl) (pe_ifExp (pt_cmpR (op_neD hu64) (pv 5) (pe_lst pa_nil) (nomark _)) (pe_lst (pa_cons pe_str (pa_cons (pv 5) pa_nil))) (pe_lst (pa_cons pe_str (pa_cons (pe_callB (call_reprD hgd hu64) (by rfl) mp (by decide +kernel) (pa_cons (pv 4) pa_nil)) pa_nil)))))
        (pss_one (ps_if (pt_cmpR op_ne (pe_callB (call_reprD hgd hu64) (by rfl) mp (by decide +kernel) (pa_cons (pe_ans (t := fun E => tCallG (spTold C) (tCons (tCMeth C (spRd1 K C xT) E (tC (.ref C)) (tCons (tVar 4) tNil)) tNil)) (k := 6) Aw (by decide) hgd hr8 rfl TB rfl hmT hu (lamS_by (by show lamSB (defScope sRight) _ = true; decide +kernel)) rfl (fun _ _ _ _ _ => rfl)
            (fun A' outer' s' H' E' f' c' hr' => by
              refine pe_bodyR Td Rd ?_ ?_ ?_ mR ?_ ?_ ?_ ?_
              · exact hr'
              · rfl
              · rfl
              · exact passes_lam2
              · rfl
              · exact .inr (.inr rfl)
              · exact ⟨_, rfl⟩)) pa_nil)) (pe_callB (call_reprD hgd hu64) (by rfl) mp (by decide +kernel) (pa_cons (pv 6) pa_nil)) (nomark _)) pss_never pss_nil))))))))
      (pss_one (ps_ret pe_bl)), ?_⟩
    refine sq_forRn (n := 10) (by decide) (fun i σ' H' => ∃ x1 x2 x3 x4 x5 x6, σ' = [some (.ref p), x1, x2, x3, x4, x5, x6] ∧ ButN p H H' ∧ Pail H' p ∧ Tabs T H') ⟨_, _, _, _, _, _, rfl, ButN.of (But.refl p H), hp, hT⟩ ?_ ?_ val_c
    · rintro i σ' H0 hi ⟨x1, x2, x3, x4, x5, x6, rfl, bt0, hp0, hT0⟩
      refine ⟨_, rfl, p, rfl, hp0, fun l t r H1 hok hpa hp1 bt1 => ⟨l, t, r, rfl, hpa.same del_sub, hok, fun H2 s2 => ?_⟩⟩
      dsimp only [gName, List.set]
      refine ⟨_, rfl, p, 4, rfl, by decide, by decide, hp1.same s2, fun c' H3 c0 c1 hp3 bt3 => ⟨c', rfl, by omega, by omega, ?_⟩⟩
      obtain ⟨n, rfl⟩ : ∃ n : Nat, c' = (n : Int) := ⟨c'.toNat, by omega⟩
      have en : ((n : Int)).toNat = n := by omega
      rw [en]
      have bt03 : But p H0 H3 := (bt1.trans (But.of s2)).trans bt3
      refine for_range (lo := 0) (n := n) (fun j σ' H' => ∃ y3 said, σ' = [some (.ref p), some (.int (i : Int)), some (.str said), y3, x4, x5, x6] ∧ Txt0 (LB j).1 (LB j).2 said ∧ Pail H' p ∧ But p H0 H') ⟨_, _, rfl, hok.txt, hp3, bt03⟩ (fun j σ' H' hj z => ?_) (fun σ' H4 z => ?_)
      · obtain ⟨y3, said, rfl, tx, hp', bt'⟩ := z
        obtain ⟨g1, g2, g3⟩ := lb_le (i := j) (by omega)
        exact ⟨_, rfl, _, rfl, p, said, _, _, rfl, hp', tx, by omega, by omega, g3, fun s' H'' tx' hp'' bt'' => ⟨_, _, rfl, tx', hp'', bt'.trans bt''⟩⟩
      obtain ⟨y3, said, rfl, tx, hp4, bt4⟩ := z
      obtain ⟨g1, g2, g3⟩ := lb_le (i := n) (by omega)
      -- the value
      dsimp only
      refine sq_setR (fun v H' => ∃ d o, RVal v o ∧ Dq K H' v d ∧ okT d = true ∧ Pail H' p ∧ But p H0 H') (fun Q' q' => ?_) ?_
      · refine ⟨_, rfl, p, 6, rfl, by decide, by decide, hp4, fun c2 H5 _ _ hp5 bt5 => ⟨_, _, rfl, rfl, _, rfl, ?_⟩⟩
        by_cases hc2 : 0 < c2
        · rw [decide_eq_true hc2]
          refine iteT ?_
          exact ⟨_, rfl, q' _ _ ⟨.str said, _, .inr ⟨said, _, _, rfl, tx, by omega, by omega, rfl⟩, .plain (.str _), okT_str tx (by omega), hp5, bt4.trans bt5⟩⟩
        · rw [decide_eq_false hc2]
          refine iteF ?_
          refine ⟨_, rfl, p, rfl, hp5, fun v d H6 hq hd hp6 bt6 => ?_⟩
          have hq1 : Dq K H6 v d := dq_same del_sub hq
          obtain ⟨o, ho⟩ := thing_val hd hq1
          exact q' _ _ ⟨d, o, ho, hq1, things_T hd, hp6, (bt4.trans bt5).trans bt6⟩
      rintro v H5 ⟨d, o, hv, dq5, kd, hp5, bt5⟩
      dsimp only [List.set]
      obtain ⟨kd1, kd2, kd3⟩ := okT_of kd
      have an5 := an_dq dq5
      -- what the law reads
      refine sq_setR (fun v' H' => ∃ l, v' = .ref l ∧ Same H5 H' ∧ PH H' l o) (fun Q' q' => ?_) ?_
      · refine ans_val (v_isS (K := K) (te := tVar 4) (val_var rfl) an5) _ ?_
        rcases hv with ⟨ns, rfl⟩ | ⟨s', L, W, rfl, tx', hL, hW, rfl⟩
        · rw [ns]
          refine iteF ⟨le_line (by show 0 ≤ 1000; decide), fun l nl => q' _ _ ⟨l, rfl, same_of nl, upd_same⟩⟩
        · refine iteT ⟨_, rfl, s', L, W, rfl, tx', by omega, by omega, fun hn l H' sH hl => q' _ _ ⟨l, rfl, sH, ?_⟩, fun pp ls ee he l t H' sH hl ht => q' _ _ ⟨l, rfl, sH, ?_⟩⟩
          · rw [hn]
            exact hl
          · rw [he]
            exact ⟨t, hl, ht⟩
      rintro _ H6 ⟨lp, rfl, s56, ph⟩
      dsimp only [List.set]
      have dq6 := dq_same s56 dq5
      -- what is due
      refine sq_setR (fun v' H' => ∃ lD, v' = .ref lD ∧ Same H6 H' ∧ Dp K H' (.ref lD) (tellD d o)) (fun Q' q' => ?_) ?_
      · refine ⟨_, rfl, le_line (by show 0 ≤ 1000; decide), fun l0 n0 => ?_⟩
        have s0 := same_of (o := .lst []) n0
        cases o with
        | none =>
          have ph : H6 lp = some (.lst []) := ph
          refine ⟨.list [], .list [], .lst (SqL.of (s0 _ _ ph)) .nil, .lst (SqL.of upd_same) .nil, by decide, by decide, false, rfl, ?_⟩
          refine iteF ⟨_, rfl, v, d, rfl, dq_same s0 dq6, (okD_of kd1).1, (okD_of kd1).2.1, (okD_of kd1).2.2, le_line (by show 2 ≤ 1000; decide), fun l2 n2 => q' _ _ ⟨l2, rfl, s0.trans (same_of n2), ?_⟩⟩
          exact .lst (SqL.of upd_same) (.cons (.str _) (.cons (.str _) .nil))
        | some r =>
          obtain ⟨pp, ls, ee⟩ := r
          obtain ⟨t', hl, as, h1, h2⟩ := ph
          refine ⟨.list [.int pp, .tuple (ls.map prD), .int ee], .list [], .lst (SqL.of (s0 _ _ hl)) (.cons (.int _) (.cons (.tup (SqT.of (s0 _ _ h1)) (dp_pairs (L2.Paired.mapP h2 fun a q hz => s0 _ _ hz))) (.cons (.int _) .nil))), .lst (SqL.of upd_same) .nil, shaped_back pp ee ls, by decide, true, rfl, ?_⟩
          refine iteT ⟨_, rfl, le_line (by show 2 ≤ 1000; decide), fun l2 n2 => q' _ _ ⟨l2, rfl, s0.trans (same_of n2), ?_⟩⟩
          have s2' := s0.trans (same_of (o := .lst [V.str "back", V.ref lp]) n2)
          exact .lst (SqL.of upd_same) (.cons (.str _) (.cons (.lst (SqL.of (s2' _ _ hl)) (.cons (.int _) (.cons (.tup (SqT.of (s2' _ _ h1)) (dp_pairs (L2.Paired.mapP h2 fun a q hz => s2' _ _ hz))) (.cons (.int _) .nil)))) .nil))
      rintro _ H7 ⟨lD, rfl, s67, dD⟩
      dsimp only [List.set]
      obtain ⟨t1, t2, t3⟩ := tell_ok hv kd
      have s57 := s56.trans s67
      have hT7 : Tabs T H7 := (tabs_but hp0 bt5 hT0).ext s57
      -- asked
      refine ⟨hT7, fun H8 e8 hT8 f1 => ?_⟩
      have e58 : ExtN H5 H8 := (ext_same s57).trans e8
      refine ⟨rfl, _, rfl, v, rfl, rd_run hv (an_ext e58 _ _ an5) (dq_ext e58 dq5) kd1 mT fun g H9 s9 dg => ?_⟩
      refine ⟨_, tellD d o, rfl, .plain dg, t1, t2, t3, ?_⟩
      refine ⟨_, rfl, _, tellD d o, rfl, .plain (dp_ext (e8.trans (ext_same s9)) _ _ dD), t1, t2, t3, ?_⟩
      refine ⟨rfl, false, ?_, ?_⟩
      · show V.bl (!decide (V.str (tellD d o).shown = V.str (tellD d o).shown)) = V.bl false
        rw [decide_eq_true rfl]
        rfl
      · refine iteF ?_
        have e59 : ExtN H5 H9 := e58.trans (ext_same s9)
        exact ⟨_, _, _, _, _, _, rfl, bt0.trans ((ButN.of bt5).trans (ButN.ext e59)), hp5.ext e59, hT8.ext s9⟩
    · rintro σ' H0 ⟨x1, x2, x3, x4, x5, x6, rfl, bt0, hp0, hT0⟩
      exact st_ret val_c (q _ bt0 hT0)
end
end Lamp
set_option Elab.async false
set_option linter.all false
set_option maxRecDepth 100000
set_option maxHeartbeats 1000000
namespace Lamp
open PySem PySem.Spec PyProof.Rows L2 LamX ClX
open TL (tl)
abbrev sLaw : Stmt := top 43
/-! texts by hand -/
def wr1 : List Str := ["", "levels 2 end 0", "levels 2 end 0 ", "levels 2 end 0 dark ", " levels 2 end 0 dark"]
def wr2 : List Str := ["levels 2 end 0 lamps", "levels 2 end 0 lamps ", "levels 02 end 0 dark", "levels 2 end -0 dark"]
def wr3 : List Str := ["levels 2 end 0 dark\n", "levels 2 end 0 lamps 0", "Levels 2 end 0 dark"]
def wr4 : List Str := ["levels 2 end 0 lamps 0:1 0:1", "levels 2 end 0 lamps 1:1 0:1", "levels 2 end 0 lamps 0:1:1"]
def wr5 : List Str := ["levels 2 end 0 lamps 0: 1", "levels 2 end 0 lamps 00:1", "levels 2 end +1 dark"]
def wr6 : List Str := ["levels 2 end 0 dark 0:1", "levels 2 end 0 lamps 0:1 dark", "levels 2  end 0 dark"]
def wr7 : List Str := ["levels 2 end 0 lamps 0:0", "levels 2 end 0 lamps -0:1", "levels 4 end 0 dark"]
def wr8 : List Str := ["levels 2 end 0 lamps 0:2"]
def wrongs : List Str := wr1 ++ wr2 ++ wr3 ++ wr4 ++ wr5 ++ wr6 ++ wr7 ++ wr8
theorem wrongs_bad : wrongs.all (fun s => (readW (spW s)).isNone && txtB (.str s)) = true := by decide +kernel
theorem wrong_one {s : Str} (h : s ∈ wrongs) : RVal (.str s) none ∧ okT (.str s) = true := by
  have hall := wrongs_bad
  rw [List.all_eq_true] at hall
  have z := hall s h
  rw [Bool.and_eq_true] at z
  have tx := txtB_ok z.2
  exact ⟨.inr ⟨s, _, _, rfl, tx, by decide, by decide, (Option.isNone_iff_eq_none.mp z.1).symm⟩, okT_str tx (by decide)⟩
def goodS : Str := "levels 7 end -5 lamps -3:6 10:1"
theorem good_reads : readW (spW goodS) = some (7, [(-3, 6), (10, 1)], -5) ∧ txtB (.str goodS) = true := by decide +kernel
/-! data made -/
section
variable (K : PySem.W.Frag)
def EvA (te : TE) (d : PyData) : Prop := ∀ (σ : L2.St) (H : Hp) (Q : VK), (∀ v H', Same H H' → Dp K H' v d → Q v H') → te σ H Q
def EvAs (ta : TA) (ds : List PyData) : Prop := ∀ (σ : L2.St) (H : Hp) (Q : List V → Hp → Prop), (∀ vs H', Same H H' → DpAll K H' vs ds → Q vs H') → ta σ H Q
end
section
variable {K : PySem.W.Frag} {te : TE} {ta : TA} {d : PyData} {ds ds0 : List PyData} {σ : L2.St} {H : Hp} {D : Ends} {t2 : TS} {i : Nat} {l0 : Addr} {vs0 : List V}
theorem eva_non : EvA K (tC .non) .none := fun σ H Q q => q _ H (Same.refl H) .non
theorem eva_bl {b : Bool} : EvA K (tC (.bl b)) (.bool b) := fun σ H Q q => q _ H (Same.refl H) (.bl b)
theorem eva_int {i : Int} : EvA K (tC (.int i)) (.int i) := fun σ H Q q => q _ H (Same.refl H) (.int i)
theorem eva_str {x : Str} : EvA K (tC (.str x)) (.str x) := fun σ H Q q => q _ H (Same.refl H) (.str x)
theorem eva_neg {i : Int} (h : EvA K te (.int i)) : EvA K (tUn (rU fun i => .int (-i)) te) (.int (-i)) := fun σ H Q q => h σ H _ fun v H' s hd => by
  cases hd
  exact ⟨i, rfl, q _ H' s (.int _)⟩
theorem evas_nil : EvAs K tNil [] := fun σ H Q q => q _ H (Same.refl H) .nil
theorem evas_cons (h1 : EvA K te d) (h2 : EvAs K ta ds) : EvAs K (tCons te ta) (d :: ds) := fun σ H Q q => h1 σ H _ fun v H1 s1 d1 => h2 σ H1 _ fun vs H2 s2 d2 => q _ H2 (s1.trans s2) (.cons (dp_same s2 d v d1) d2)
theorem eva_tup (h : EvAs K ta ds) (hl : ds.length ≤ 100) : EvA K (tTup ta) (.tuple ds) := fun σ H Q q => h σ H _ fun vs H1 s1 d1 => by
  have hlen := dpAll_len d1
  refine ⟨Nat.le_of_lt (small1000 (by omega)), fun r hr => ?_⟩
  have s2 : Same H1 (upd H1 r (.tup vs)) := same_of hr
  exact q _ _ (s1.trans s2) (.tup (SqT.of upd_same) (dpAll_same s2 ds vs d1))
theorem eva_lst (h : EvAs K ta ds) (hl : ds.length ≤ 100) : EvA K (tLst ta) (.list ds) := fun σ H Q q => h σ H _ fun vs H1 s1 d1 => by
  have hlen := dpAll_len d1
  refine ⟨Nat.le_of_lt (small1000 (by omega)), fun r hr => ?_⟩
  have s2 : Same H1 (upd H1 r (.lst vs)) := same_of hr
  exact q _ _ (s1.trans s2) (.lst (SqL.of upd_same) (dpAll_same s2 ds vs d1))
theorem dpAll_app : ∀ {xs ys : List V} {ds es : List PyData}, DpAll K H xs ds → DpAll K H ys es → DpAll K H (xs ++ ys) (ds ++ es)
  | _, _, _, _, .nil, s => s
  | _, _, _, _, .cons r t, s => .cons r (dpAll_app t s)
theorem dpAll_get : ∀ {ds : List PyData} {vs : List V} {i : Nat} {d : PyData}, DpAll K H vs ds → ds[i]? = some d → ∃ v, vs[i]? = some v ∧ Dp K H v d
  | _, _, _, _, .nil, e => by simp at e
  | _, _, 0, _, .cons h _, e => by simp only [List.getElem?_cons_zero] at e ⊢; cases e; exact ⟨_, rfl, h⟩
  | _, _, i + 1, _, .cons _ t, e => by simp only [List.getElem?_cons_succ] at e ⊢; exact dpAll_get t e
theorem sq_lstA (h : EvAs K ta ds) (hl : ds.length ≤ 100) (k : ∀ l vs H', H' l = some (.lst vs) → Same H H' → DpAll K H' vs ds → t2 D (σ.set i (some (.ref l))) H') : tSeq (tAsg (tLst ta) (gName i)) t2 D σ H := h σ H _ fun vs H1 s1 d1 => by
  have hlen := dpAll_len d1
  refine ⟨Nat.le_of_lt (small1000 (by omega)), fun r hr => ?_⟩
  have s2 : Same H1 (upd H1 r (.lst vs)) := same_of hr
  exact k r vs _ upd_same (s1.trans s2) (dpAll_same s2 ds vs d1)
theorem sq_catA (hx : σ[i]? = some (some (.ref l0))) (h0 : H l0 = some (.lst vs0)) (d0 : DpAll K H vs0 ds0) (h : EvAs K ta ds) (hl : ds.length ≤ 100) (hl0 : ds0.length ≤ 100)
    (k : ∀ l vs H', H l = none → H' l = some (.lst vs) → Same H H' → DpAll K H' vs (ds0 ++ ds) → t2 D (σ.set i (some (.ref l))) H') : tSeq (tAsg (tOp rCat (tVar i) (tLst ta)) (gName i)) t2 D σ H := by
  refine ⟨_, hx, h σ H _ fun vs H1 s1 d1 => ?_⟩
  have hlen := dpAll_len d1
  have hlen0 := dpAll_len d0
  refine ⟨Nat.le_of_lt (small1000 (by omega)), fun r hr => ?_⟩
  have s2 : Same H1 (upd H1 r (.lst vs)) := same_of hr
  refine ⟨l0, r, vs0, vs, rfl, rfl, s2 _ _ (s1 _ _ h0), upd_same, Nat.le_of_lt (small1000 (by omega)), fun r2 hr2 => ?_⟩
  have s3 : Same (upd H1 r (.lst vs)) (upd (upd H1 r (.lst vs)) r2 (.lst (vs0 ++ vs))) := same_of hr2
  exact k r2 _ _ ((s1.trans s2).free hr2) upd_same ((s1.trans s2).trans s3) (dpAll_app (dpAll_same ((s1.trans s2).trans s3) _ _ d0) (dpAll_same (s2.trans s3) _ _ d1))
end
def qL : Str := (envOfC "law" (defScope sLaw) 0 0 .none).qual ++ "<lambda>"
def spLaw (K : PySem.W.Frag) (T : List (Addr × Str)) : Sp := fun vs H Q _ => ∃ (a : Addr) (ns : List Int), vs = [.ref a] ∧ SqL K H a (ns.map V.int) ∧ ns.length ≤ 63 ∧ (∀ z ∈ ns, Builtin.Int.intBits z ≤ 1048576) ∧ Tabs T H ∧ ∀ H', Q (.bl true) H'
local macro_rules | `(tactic| walk_at "pe") => `(tactic| first
  | exact pe_non
  | exact pe_bl
  | exact pe_int
  | exact pe_str
  | (refine' pe_un un_neg ?ha; (case ha => walk_at "pe"))
  | (refine' pe_tup ?ha; (case ha => walk_at "pa"))
  | (refine' pe_lst ?ha; (case ha => walk_at "pa")))
local macro_rules | `(tactic| walk_at "pa") => `(tactic| first
  | exact pa_nil
  | (refine' pa_cons ?ha ?hb; (case ha => walk_at "pe"); (case hb => walk_at "pa")))
local macro_rules | `(tactic| walk_at "eva") => `(tactic| first
  | exact eva_non
  | exact eva_bl
  | exact eva_int
  | exact eva_str
  | (refine' eva_neg ?ha; (case ha => walk_at "eva"))
  | (refine' eva_tup ?ha ?hb; (case ha => walk_at "evas"); (case hb => decide))
  | (refine' eva_lst ?ha ?hb; (case ha => walk_at "evas"); (case hb => decide)))
local macro_rules | `(tactic| walk_at "evas") => `(tactic| first
  | exact evas_nil
  | (refine' evas_cons ?ha ?hb; (case ha => walk_at "eva"); (case hb => walk_at "evas")))
theorem passes0E {X : Cx} : Passes (L2.CX X.prog X.w) X E0 := fun _ _ _ _ _ _ _ ⟨_, _, _, _, _, _, _, _, _, _, _, _, e⟩ => (show False from e).elim
theorem dp_strs_inv {K : PySem.W.Frag} {H : Hp} : ∀ {xs : List Str} {vs : List V}, DpAll K H vs (xs.map PyData.str) → vs = xs.map V.str
  | [], _, h => by cases h; rfl
  | x :: xs, _, h => by
    cases h with
    | cons h t =>
      cases h
      rw [dp_strs_inv t]
      rfl
theorem cb1 {r : List V → Hp → VK → Prop} {te : TE} {σ : L2.St} {H : Hp} {Q : VK} (h : te σ H fun x H1 => r [x] H1 Q) : tCB r (tCons te tNil) σ H Q := h
theorem pe_bodyS {Y : Cx} {C xT : Addr} {E : XK} {p2 p3 p4 p5 : Pos} (Z : RdX Y.prog Y.w Y.K Y.mg Y.base C xT) (hr : Room 6 Y.A) (g2 : Gl Y "Round") (mR : Y.mg "Round" = some (.ref C)) (hx : Passes (L2.CX Y.prog Y.w) Y E)
    (n2 : Y.N[2]? = some ("_law_value" : Str)) (v2 : Vis Y.env.scope "_law_value")
    (ht : ∃ pl : Sem Bool, eval (.Call (.Attribute (.Name "Round" p2) "read" p3) [.Name "_law_value" p4] [] p5) Y.env = (do
      let ov ← eval (.Name "Round" p2) Y.env
      standAt p3.atName
      let (f, first) ← holding [ov] (getMethod ov "read" pl)
      callWith p5 f first (backTo p5 (starEach [.Name "_law_value" p4] Y.env)) (backToKw p5 (keywordEach [] Y.env)))) :
    PE Y (.Call (.Attribute (.Name "Round" p2) "read" p3) [.Name "_law_value" p4] [] p5) (tCMeth C (spRd1 Y.K C xT) E (tC (.ref C)) (tCons (tVar 2) tNil)) := by
  obtain ⟨pl, ht⟩ := ht
  exact pe_rdX Z hr hx (pe_glob (v := .ref C) g2 mR rfl) (pa_cons (pv 2 n2 v2) pa_nil) (ht := ht)
theorem rd_bad {K : PySem.W.Frag} {C xT cA cB cC : Addr} {v : V} {t : T} {d : PyData} {H : Hp} {Q QQ : VK} (hv : RVal v none) (an : An K H v t) (dq : Dq K H v d) (kd : okD d = true) (mT : PySem.W.exmAny K (.ref xT) [.ref cA, .ref cB, .ref cC] = some true)
    (k : ∀ l H', Same H H' → H' l = some (.lst [.str "InvalidText", .str d.shown]) → Q (.ref l) H') : rRd K C xT v H (raisE K (.ref cA) (.ref cB) (.ref cC) (spSort K xT) Q) QQ := by
  have bad : RdTo C xT v H (raisE K (.ref cA) (.ref cB) (.ref cC) (spSort K xT) Q) QQ none := fun e H' s he =>
    ⟨xT, e, rfl, rfl, mT, fun a na => ⟨rfl, rfl, v, d, he, dq_same s dq, kd, fun l H'' s2 nl hl => k l H'' (s.trans s2) hl⟩⟩
  rcases hv with ⟨hs, _⟩ | ⟨s, L, W, rfl, hs, hL, hW, e⟩
  · exact .inl ⟨t, an, hs, bad⟩
  · refine .inr ⟨s, L, W, rfl, hs, by omega, by omega, ?_⟩
    rw [← e]
    exact bad
section
variable {P : Program} {w : World} {K : PySem.W.Frag} {mg : Str → Option Value} {base : Heap} {C xT cA cB cC : Addr}
abbrev nmLaw : List Str := ["_law_script", "_law_wrong", "_law_value", "_law_turn"]
theorem scLaw : FnScope nmLaw ["_law_script"] (defScope sLaw) := ⟨rfl, rfl, rfl, by decide +kernel, rfl, by decide +kernel, by decide +kernel⟩
theorem ok_law {f fR c Pt : Addr} {fd fdR : FuncData} {T : List (Addr × Str)} (F : Fun K "law" "law" sLaw f fd) (hcd : fd.code = .ref c) (TB : TabB base mg c Pt) (hmT : (Pt, qL) ∈ T) (hu : ∀ p ∈ T, p.1 = Pt → p.2 = qL)
    (GR : FnG P w K mg base 10 fR fdR ["_law_pail"] (spRight K T)) (bR : Binds K fdR ["_law_pail"] []) (mRt : mg "_law_right" = some (.ref fR)) (kR : PySem.W.keepIn K (.ref fR) = true)
    (Aw : AnsR P w K mg base cA cB cC (spSort K xT) 2) (Rd : RdX P w K mg base C xT) (mR : mg "Round" = some (.ref C)) (mT : PySem.W.exmAny K (.ref xT) [.ref cA, .ref cB, .ref cC] = some true) (R : RCls K C) (La : PrR P w K mg base C "lamps" (spLa C) 1)
    (Bg : Dr P w K mg base (spBegun K) "_law_begun" ["_law_script", "_law_turn"] 1)
    (mr : mg "range" = none) (ml : mg "len" = none) (mp : mg "repr" = none) (mall : mg "all" = none) (mmax : mg "max" = none) (mmin : mg "min" = none) :
    FnG P w K mg base 11 f fd ["_law_script"] (spLaw K T) := by
  refine okGC F scLaw (fun vs H Q E h => ?_) (fun cdv Ar outer s H vs Q E hcv hgd hr h => ?_)
  · obtain ⟨a, ns, rfl, _⟩ := h
    rfl
  · obtain ⟨a, ns, rfl, hS1, hlen, hbits, hT, q⟩ := h
    have hu64 := hr.units
    have hr8 : Room 8 _ := hr.mono (by decide)
    have hr6 : Room 6 _ := hr.mono (by decide)
    have hr2 : Room 2 _ := hr.mono (by decide)
    have ec : cdv = .ref c := hcv.symm.trans hcd
    subst ec
    refine ⟨_, pss_cons (ps_set (i := 1) scLaw.nd rfl (.inl rfl) (pe_lst (by walk_at "pa")))
      (pss_cons (ps_set (i := 1) scLaw.nd rfl (.inl rfl) (pe_op op_cat (pv 1) (pe_lst (by walk_at "pa"))))
      (pss_cons (ps_set (i := 1) scLaw.nd rfl (.inl rfl) (pe_op op_cat (pv 1) (pe_lst (by walk_at "pa"))))
      (pss_cons (ps_set (i := 1) scLaw.nd rfl (.inl rfl) (pe_op op_cat (pv 1) (pe_lst (by walk_at "pa"))))
      (pss_cons (ps_set (i := 1) scLaw.nd rfl (.inl rfl) (pe_op op_cat (pv 1) (pe_lst (by walk_at "pa"))))
      (pss_cons (ps_set (i := 1) scLaw.nd rfl (.inl rfl) (pe_op op_cat (pv 1) (pe_lst (by walk_at "pa"))))
      (pss_cons (ps_set (i := 1) scLaw.nd rfl (.inl rfl) (pe_op op_cat (pv 1) (pe_lst (by walk_at "pa"))))
      (pss_cons (ps_expr (pe_bm PySem.F.plainAttrs_list PySem.F.slot_list_append PySem.F.type_list_append mt_append (pv 1) (pa_cons pe_str pa_nil)))
      (pss_cons (ps_for PassesOwn.never rfl (pi_list (pv 1)) (pg_name (i := 2) scLaw.nd rfl (.inr rfl))
        (pss_one (ps_if (pt_cmpR (op_neD hu64) (pe_ans (t := fun E => tCMeth C (spRd1 K C xT) E (tC (.ref C)) (tCons (tVar 2) tNil)) (k := 6) Aw (by decide) hgd hr8 rfl TB rfl hmT hu (lamS_by (by show lamSB (defScope sLaw) _ = true; decide +kernel)) rfl (fun _ _ _ _ _ => rfl)
            (fun A' outer' s' H' E' f' c' hr' => by
              refine pe_bodyS Rd ?_ ?_ mR ?_ ?_ ?_ ?_
              · exact hr'
              · rfl
              · exact passes_lam2
              · rfl
              · exact .inr (.inr rfl)
              · exact ⟨_, rfl⟩))
          (pe_lst (pa_cons pe_str (pa_cons (pe_callB (call_reprD hgd hu64) (by rfl) mp (by decide +kernel) (pa_cons (pv 2) pa_nil)) pa_nil))) (nomark _)) pss_never pss_nil)))
      (pss_cons (ps_if (pt_cmpR (op_neD hu64) (pe_prR La R (by decide) hr (pe_rdX Rd hr6 passes0E (pe_glob (v := .ref C) rfl mR rfl) (pa_cons pe_str pa_nil))) (by walk_at "pe") (nomark _)) pss_never pss_nil)
      (pss_one (ps_ret (pe_callB (cr_all rfl) (by rfl) mall (by decide +kernel) (pa_cons (pe_lc (own := [("_law_turn", 3)]) (g := gName 3) (tt := tYes) rfl scLaw.nd
          (pi_range1 rfl mr (pa_cons (pe_callB (call_max2 rfl) (by rfl) mmax (by decide +kernel) (pa_cons pe_int (pa_cons (pe_callB (call_min2 rfl) (by rfl) mmin (by decide +kernel) (pa_cons (pe_callB call_len_seq (by rfl) ml PySem.boot_len (pa_cons (pv 0) pa_nil)) (pa_cons pe_int pa_nil))) pa_nil))) pa_nil))
          (blkOk_by (own := [("_law_turn", 3)]) (N := nmLaw) (sc := defScope sLaw) (by decide +kernel)) (fun _ _ _ _ _ => pg_name (i := 3) scLaw.nd rfl (Or.inl rfl)) (fun _ _ _ _ _ => pts_nil)
          (fun _ _ _ _ _ => pe_callG GR hgd hr rfl mRt kR bR (pa_cons (pe_dr Bg (by decide) hr rfl (pa_cons (pv 0) (pa_cons (pv 3) pa_nil))) pa_nil))) pa_nil))))))))))))), ?_⟩
    refine sq_lstA (K := K) (ds := wr1.map PyData.str) (by walk_at "evas") (by decide) fun l1 vs1 H1 h1 s1 d1 => ?_
    refine sq_catA (K := K) (ds := wr2.map PyData.str) (l0 := l1) rfl h1 d1 (by walk_at "evas") (by decide) (by decide) fun l2 vs2 H2 _ h2 s2 d2 => ?_
    rw [← List.map_append] at d2
    refine sq_catA (K := K) (ds := wr3.map PyData.str) (l0 := l2) rfl h2 d2 (by walk_at "evas") (by decide) (by decide) fun l3 vs3 H3 _ h3 s3 d3 => ?_
    rw [← List.map_append] at d3
    refine sq_catA (K := K) (ds := wr4.map PyData.str) (l0 := l3) rfl h3 d3 (by walk_at "evas") (by decide) (by decide) fun l4 vs4 H4 _ h4 s4 d4 => ?_
    rw [← List.map_append] at d4
    refine sq_catA (K := K) (ds := wr5.map PyData.str) (l0 := l4) rfl h4 d4 (by walk_at "evas") (by decide) (by decide) fun l5 vs5 H5 _ h5 s5 d5 => ?_
    rw [← List.map_append] at d5
    refine sq_catA (K := K) (ds := wr6.map PyData.str) (l0 := l5) rfl h5 d5 (by walk_at "evas") (by decide) (by decide) fun l6 vs6 H6 _ h6 s6 d6 => ?_
    rw [← List.map_append] at d6
    refine sq_catA (K := K) (ds := wr7.map PyData.str) (l0 := l6) rfl h6 d6 (by walk_at "evas") (by decide) (by decide) fun l7 vs7 H7 n7 h7 s7 d7 => ?_
    rw [← List.map_append] at d7
    have s06 := ((((s1.trans s2).trans s3).trans s4).trans s5).trans s6
    have s07 := s06.trans s7
    have n7 : H l7 = none := s06.free n7
    have e7 := dp_strs_inv d7
    subst e7
    dsimp only [List.set, L2.start, List.map, List.length, List.replicate, List.append]
    refine ⟨_, rfl, .inl ⟨rfl, _, SqL.of h7⟩, l7, _, _, rfl, rfl, h7, (by show 24 < sizeLine; decide), ?_⟩
    have h8 : (upd H7 l7 (.lst ((wr1 ++ wr2 ++ wr3 ++ wr4 ++ wr5 ++ wr6 ++ wr7).map V.str ++ [V.str ("levels 2 end 0 lamps 0:2" : Str)]))) l7 = some (.lst (wrongs.map V.str)) := upd_same
    have hT8 : Tabs T (upd H7 l7 (.lst ((wr1 ++ wr2 ++ wr3 ++ wr4 ++ wr5 ++ wr6 ++ wr7).map V.str ++ [V.str ("levels 2 end 0 lamps 0:2" : Str)]))) := tabs_upd h7 (hT.ext s07)
    have s08 : Same H (upd H7 l7 (.lst ((wr1 ++ wr2 ++ wr3 ++ wr4 ++ wr5 ++ wr6 ++ wr7).map V.str ++ [V.str ("levels 2 end 0 lamps 0:2" : Str)]))) := fun b o e => by
      rw [upd_ne (ne_of_none e n7)]
      exact s07 _ _ e
    show tSeq _ _ _ _ (upd H7 l7 (.lst ((wr1 ++ wr2 ++ wr3 ++ wr4 ++ wr5 ++ wr6 ++ wr7).map V.str ++ [V.str ("levels 2 end 0 lamps 0:2" : Str)])))
    revert h8 hT8 s08
    generalize (upd H7 l7 (.lst ((wr1 ++ wr2 ++ wr3 ++ wr4 ++ wr5 ++ wr6 ++ wr7).map V.str ++ [V.str ("levels 2 end 0 lamps 0:2" : Str)]))) = H8
    intro h8 hT8 s08
    refine ⟨_, rfl, l7, rfl, ⟨_, SqL.of h8⟩, for_list (K := K) (a := l7) (xs := wrongs.map V.str) (fun k σ' H' => ∃ x2, σ' = [some (.ref a), some (.ref l7), x2, none] ∧ ExtN H8 H' ∧ Tabs T H') ⟨_, rfl, ExtN.refl _, hT8⟩ (fun k σ' H' _ z => ?_) (fun k v σ' H9 hk z => ?_) (fun σ' H9 z => ?_)⟩
    · obtain ⟨_, _, e8, _⟩ := z
      exact SqL.of (e8 _ _ h8 (fun _ z => by cases z))
    · obtain ⟨x2, rfl, e89, hT9⟩ := z
      rw [List.getElem?_map] at hk
      cases ek : wrongs[k]? with
      | none => rw [ek] at hk; cases hk
      | some sx =>
        rw [ek] at hk
        cases (Option.some.inj hk)
        obtain ⟨hv, kd⟩ := wrong_one (List.mem_of_getElem? ek)
        obtain ⟨kd1, kd2, kd3⟩ := okT_of kd
        refine ⟨hT9, fun HA eA hTA f1 => ?_⟩
        refine ⟨rfl, _, rfl, .str sx, rfl, rd_bad hv (.str sx) (.plain (.str sx)) kd1 mT fun l HB sB hl => ?_⟩
        refine ⟨_, rfl, _, .str sx, rfl, .plain (.str sx), (okD_of kd1).1, (okD_of kd1).2.1, (okD_of kd1).2.2, (by show 2 ≤ sizeLine; decide), fun l9 n9 => ?_⟩
        have s9 := same_of (o := .lst [V.str "InvalidText", V.str (PyData.shown (.str sx))]) n9
        have shp : SeqAt.shaped (errD "InvalidText" (PyData.shown (.str sx))) = true := err_shaped (by decide) kd3
        refine ⟨errD "InvalidText" (PyData.shown (.str sx)), errD "InvalidText" (PyData.shown (.str sx)), .lst (SqL.of (s9 _ _ hl)) (.cons (.str _) (.cons (.str _) .nil)), .lst (SqL.of upd_same) (.cons (.str _) (.cons (.str _) .nil)), shp, shp, false, by rw [err_eqv]; rfl, ?_⟩
        refine iteF ?_
        exact ⟨_, rfl, (e89.trans eA).trans ((ext_same sB).trans (ext_same s9)), (hTA.ext sB).ext s9⟩
    · obtain ⟨x2, rfl, e89, hT9⟩ := z
      dsimp only
      have tx := txtB_ok good_reads.2
      refine ⟨rfl, .str goodS, rfl, .inr ⟨goodS, _, _, rfl, tx, by decide, by decide, ?_⟩⟩
      rw [good_reads.1]
      intro b t HA' sA na hrA hpA
      obtain ⟨dx, hbx⟩ := id hrA
      refine ⟨b, dx, _, rfl, hbx, b, .int 7, .ref t, .int (-5), rfl, hrA, ?_⟩
      have ev : EvA K (tTup (tCons (tTup (tCons (tUn (rU fun i => .int (-i)) (tC (.int 3))) (tCons (tC (.int 6)) tNil))) (tCons (tTup (tCons (tC (.int 10)) (tCons (tC (.int 1)) tNil))) tNil))) (.tuple [.tuple [.int (-3), .int 6], .tuple [.int 10, .int 1]]) := by walk_at "eva"
      refine ev _ _ _ fun v2 HA sA2 dv2 => ?_
      obtain ⟨as, p1, p2⟩ := hpA.same sA2
      refine ⟨.tuple ([((-3 : Int), (6 : Int)), (10, 1)].map prD), .tuple [.tuple [.int (-3), .int 6], .tuple [.int 10, .int 1]], .tup (SqT.of p1) (dp_pairs p2), dv2, by decide, by decide, false, by decide, ?_⟩
      refine iteF ?_
      have hTA : Tabs T HA := (hT9.ext sA).ext sA2
      have hSA := sqL_ext ((ext_same s08).trans (e89.trans ((ext_same sA).trans (ext_same sA2)))) hS1
      -- the turns
      refine ⟨.ref a, rfl, a, _, rfl, .inl hSA, ?_⟩
      refine ⟨_, _, rfl, _, _, rfl, ?_⟩
      have hlenV : ((ns.map V.int).length : Nat) = ns.length := List.length_map _
      rw [hlenV]
      generalize hm : (if (if (6 : Int) < ((ns.length : Nat) : Int) then (6 : Int) else ((ns.length : Nat) : Int)) > 2 then (if (6 : Int) < ((ns.length : Nat) : Int) then (6 : Int) else ((ns.length : Nat) : Int)) else 2) = m
      have hm2 : 2 ≤ m ∧ m ≤ 6 := by
        rw [← hm]
        split
        · split <;> omega
        · omega
      obtain ⟨n, en⟩ : ∃ n : Nat, m = (n : Int) := ⟨m.toNat, by omega⟩
      subst en
      refine ⟨(n : Int), rfl, by omega, by omega, fun D hD => ?_⟩
      have e0 : ((n : Int)).toNat = n := by omega
      rw [e0]
      refine lc_range (lo := 0) (n := n) (fun i H' => ExtN HA H' ∧ Tabs T H' ∧ H' D = some (.lst ((List.replicate i true).map V.bl))) ⟨ext_same (same_of hD), hTA.ext (same_of hD), upd_same⟩ (fun i H' hi z => ?_) (fun H' z => ?_)
      · obtain ⟨sb, hTb, hlD⟩ := z
        have e1 : (0 : Int) + (i : Int) = (i : Int) := Int.zero_add _
        rw [e1]
        refine ⟨rfl, ?_⟩
        refine ⟨_, rfl, _, rfl, a, ns, (i : Int), rfl, sqL_ext sb hSA, hlen, hbits, by omega, by omega, fun H2 p s2 np hp => ⟨p, rfl, hp, hTb.ext s2, fun H3 bt hT3 => ?_⟩⟩
        have pD : D ≠ p := fun e => by rw [e, np] at hlD; cases hlD
        have atD : H3 D = some (.lst ((List.replicate i true).map V.bl)) := by
          have h := bt D (.lst ((List.replicate i true).map V.bl)) (by rw [delH_ne pD]; exact s2 _ _ hlD) (fun _ z => by cases z)
          rw [delH_ne pD] at h
          exact h
        refine ⟨_, atD, ?_, fun b o e n => ?_, tabs_upd atD hT3, ?_⟩
        · rw [List.length_map, List.length_replicate]
          exact small1000 (by omega)
        · have nb : b ≠ D := fun z => by rw [z, hD] at e; cases e
          have hb' := sb b o e n
          have npb : b ≠ p := fun z => by
            rw [z, np] at hb'
            cases hb'
          have h := bt b o (by rw [delH_ne npb]; exact s2 _ _ hb') n
          rw [delH_ne npb] at h
          rw [upd_ne nb]
          exact h
        · rw [upd_same, List.replicate_succ', List.map_append]
          rfl
      · refine ⟨D, List.replicate n true, rfl, SqL.of z.2.2, ?_⟩
        have e : (List.replicate n true).all id = true := by
          rw [List.all_eq_true]
          intro b hb
          exact (List.eq_of_mem_replicate hb)
        rw [e]
        exact q _
end
end Lamp
set_option Elab.async false
set_option linter.all false
set_option maxRecDepth 100000
set_option maxHeartbeats 2000000
namespace Lamp
open PySem PySem.Spec PyProof.Rows L2
/-! what the top has written of exception classes, as one answer -/
def tailOf : Nat → List Value
  | 0 => [.type "ValueError", .type "Exception", .type "BaseException", .type "object"]
  | 1 => [.type "LookupError", .type "Exception", .type "BaseException", .type "object"]
  | _ => [.type "ArithmeticError", .type "Exception", .type "BaseException", .type "object"]
def newOf : Nat → String
  | 0 => "ValueError.__new__"
  | 1 => "LookupError.__new__"
  | _ => "ArithmeticError.__new__"
def ecB (K : PySem.W.Frag) (C : Addr) (b : Nat) : Bool :=
  PySem.W.excInitIn K C (tailOf b) (newOf b) && (PySem.W.excOver K C (tailOf b) && (decide (PySem.W.findIn K (.ref C) "__setattr__" = some (some (.builtin "object.__setattr__"))) && (decide (PySem.W.findIn K (.ref C) "__getattribute__" = some (some (.builtin "BaseException.__getattribute__"))) &&
    (decide (PySem.W.findIn K (.ref C) "__getattr__" = some none) && (decide (PySem.W.subIn K (.ref C) (.type "BaseException") = some true) && (PySem.W.hasDictIn K C && (PySem.W.keepIn K (.ref C) &&
      (decide (PySem.W.findIn K (.ref C) "__class__" = some (some (.builtin "object.__class__"))) && decide (PySem.W.mroIn K C (.type "object") = some true)))))))))
theorem ecB_ok {K : PySem.W.Frag} {C : Addr} : ∀ {b : Nat}, ecB K C b = true → ∃ (B newId initId : String) (tail : List Value), EC K C B newId initId tail ∧ newId = newOf b ∧ tail = tailOf b := fun {b} h => by
  unfold ecB at h
  simp only [Bool.and_eq_true, decide_eq_true_eq] at h
  obtain ⟨h1, h2, h3, h4, h5, h6, h7, h8, h9, h10⟩ := h
  match b, h1, h2 with
  | 0, h1, h2 => exact ⟨_, _, _, _, ⟨PySem.F.excBase_ValueError, PySem.F.store_ValueError, h1, h2, h3, h4, h5, h6, h7, h8, h9, h10⟩, rfl, rfl⟩
  | 1, h1, h2 => exact ⟨_, _, _, _, ⟨PySem.F.excBase_LookupError, PySem.F.store_LookupError, h1, h2, h3, h4, h5, h6, h7, h8, h9, h10⟩, rfl, rfl⟩
  | b + 2, h1, h2 => exact ⟨_, _, _, _, ⟨PySem.F.excBase_ArithmeticError, PySem.F.store_ArithmeticError, h1, h2, h3, h4, h5, h6, h7, h8, h9, h10⟩, rfl, rfl⟩
/-- an exception class with an __init__ at f -/
def initB (K : PySem.W.Frag) (C f : Addr) (nm : Str) : Bool :=
  decide (PySem.W.findIn K (.ref C) nm = some none) && (decide (PySem.W.findIn K (.ref C) "__init__" = some (some (.ref f))) && decide (PySem.W.typeIn K (.ref f) = some (.type "function")))
def metaB (K : PySem.W.Frag) : Bool := decide (PySem.W.specialIn K (.builtin "object.__class__") "__get__" = some (some (.builtin "getset_descriptor.__get__"))) && decide (PySem.W.takesIn K (.builtin "object.__class__") = some true)
theorem metaB_ok {K : PySem.W.Frag} (h : metaB K = true) : ClsG K := by
  unfold metaB at h
  rw [Bool.and_eq_true] at h
  exact ⟨of_decide_eq_true h.1, of_decide_eq_true h.2⟩
theorem xc_mk {P : Program} {w : World} {K : PySem.W.Frag} {mg : Str → Option Value} {C fI : Addr} {x f : Str} {b : Nat} {fd : FuncData} (h1 : ecB K C b = true) (h2 : initB K C fI f = true) (hm : mg x = some (.ref C)) (F1 : ∀ base : Heap, FnOk P w K mg base CX0 1 fI fd ["self", f] (spInit K C f))
    (p1 : ∀ (s : Shared) (v u : Value), K.In s.heap → BindsTo s fd ⟨[v, u], []⟩ [("self", v), (f, u)]) (p2 : ∀ (s : Shared) (v u : Value), K.In s.heap → BindsTo s fd ⟨[v], [(f, u)]⟩ [("self", v), (f, u)]) : XC P w K mg C x f := by
  obtain ⟨B, n, i, t, T, _⟩ := ecB_ok h1
  unfold initB at h2
  simp only [Bool.and_eq_true, decide_eq_true_eq] at h2
  obtain ⟨g1, g2, g3⟩ := h2
  refine ⟨⟨B, n, i, t, T⟩, hm, g1, fI, fd, g2, g3, ?_, F1, p1, p2⟩
  unfold PySem.W.takerIn
  rw [g1]
  rfl
theorem xn_mk {K : PySem.W.Frag} {mg : Str → Option Value} {C : Addr} {x : Str} {b : Nat} (h1 : ecB K C b = true) (h2 : PySem.W.excIn K C (tailOf b) (newOf b) = true) (hm : mg x = some (.ref C)) : XN K mg C x := by
  obtain ⟨B, n, i, t, T, e1, e2⟩ := ecB_ok h1
  subst e1 e2
  exact ⟨⟨B, _, i, _, T, h2⟩, hm⟩
end Lamp
set_option Elab.async false
set_option linter.all false
set_option maxRecDepth 100000
set_option maxHeartbeats 2000000
namespace Lamp
open PySem PySem.Spec PyProof.Rows L2 LamX L2H
theorem xh_mk {P : Program} {w : World} {K : PySem.W.Frag} {mg : Str → Option Value} {C fI : Addr} {x f : Str} {fd : FuncData} (Z : XC P w K mg C x f) (h2 : initB K C fI f = true) (F1 : ∀ base : Heap, FnH P w K mg base CX0 1 fI fd ["self", f] (spInit K C f))
    (p1 : ∀ (s : Shared) (v u : Value), K.In s.heap → BindsTo s fd ⟨[v, u], []⟩ [("self", v), (f, u)]) : XH P w K mg C x f := by
  unfold initB at h2
  simp only [Bool.and_eq_true, decide_eq_true_eq] at h2
  obtain ⟨g1, g2, g3⟩ := h2
  refine ⟨Z, fI, fd, g2, g3, ?_, F1, p1⟩
  unfold PySem.W.takerIn
  rw [g1]
  rfl
def kdB (K : PySem.W.Frag) (cA cB cC xT : Addr) : Bool :=
  decide (PySem.W.findIn K (.ref xT) "given" = some none) && (decide (PySem.W.kitOne K (.ref xT) (.ref cA) = some true) && (decide (PySem.W.kitOne K (.ref xT) (.ref cB) = some false) && (decide (PySem.W.kitOne K (.ref xT) (.ref cC) = some false) &&
  (decide (PySem.W.kitOne K (.ref xT) (.type "ValueError") = some true) && (decide (PySem.W.kitOne K (.ref xT) (.type "LookupError") = some false) && (decide (PySem.W.kitOne K (.ref xT) (.type "ArithmeticError") = some false) && (decide (PySem.W.kitOne K (.ref xT) (.ref xT) = some true) &&
  (decide (PySem.W.exmAny K (.ref xT) [.ref cA, .ref cB, .ref cC] = some true) && decide (PySem.W.typeIn K (.ref xT) = some (.type "type"))))))))))
theorem kdB_ok {K : PySem.W.Frag} {cA cB cC xT : Addr} (h : kdB K cA cB cC xT = true) (he : ecB K xT 0 = true) : KdT K cA cB cC xT ∧ PySem.W.exmAny K (.ref xT) [.ref cA, .ref cB, .ref cC] = some true ∧ PySem.W.typeIn K (.ref xT) = some (.type "type") := by
  obtain ⟨B, n, i, t, T, _⟩ := ecB_ok he
  unfold kdB at h
  simp only [Bool.and_eq_true, decide_eq_true_eq] at h
  obtain ⟨h1, h2, h3, h4, h5, h6, h7, h8, h9, h10⟩ := h
  exact ⟨⟨⟨B, n, i, t, T⟩, h1, h2, h3, h4, h5, h6, h7, h8⟩, h9, h10⟩
def tyB (K : PySem.W.Frag) (xL xA xN : Addr) : Bool := decide (PySem.W.typeIn K (.ref xL) = some (.type "type")) && (decide (PySem.W.typeIn K (.ref xA) = some (.type "type")) && (decide (PySem.W.typeIn K (.ref xN) = some (.type "type")) &&
  (decide (PySem.W.exmAny K (.ref xL) [.ref xL, .ref xA] = some true) && decide (PySem.W.exmAny K (.ref xA) [.ref xL, .ref xA] = some true))))
theorem tyB_ok {K : PySem.W.Frag} {xL xA xN : Addr} (h : tyB K xL xA xN = true) : PySem.W.typeIn K (.ref xL) = some (.type "type") ∧ PySem.W.typeIn K (.ref xA) = some (.type "type") ∧ PySem.W.typeIn K (.ref xN) = some (.type "type") ∧
    PySem.W.exmAny K (.ref xL) [.ref xL, .ref xA] = some true ∧ PySem.W.exmAny K (.ref xA) [.ref xL, .ref xA] = some true := by
  unfold tyB at h
  simp only [Bool.and_eq_true, decide_eq_true_eq] at h
  exact h
def clsB (K : PySem.W.Frag) (C : Addr) : Bool := PySem.W.plainGet K C Str.empty && (PySem.W.hasDictIn K C && (PySem.W.plainOver K C && (decide (PySem.W.findIn K (.ref C) "__setattr__" = some (some (.builtin "object.__setattr__"))) &&
  (decide (PySem.W.findIn K (.ref C) "_levels" = some none) && (decide (PySem.W.findIn K (.ref C) "_lamps" = some none) && (decide (PySem.W.findIn K (.ref C) "_end" = some none) && (PySem.W.makesIn K C && PySem.W.keepIn K (.ref C))))))))
theorem clsB_ok {K : PySem.W.Frag} {C : Addr} (h : clsB K C = true) : RCls K C ∧ PySem.W.makesIn K C = true ∧ PySem.W.keepIn K (.ref C) = true := by
  unfold clsB at h
  simp only [Bool.and_eq_true, decide_eq_true_eq] at h
  obtain ⟨h1, h2, h3, h4, h5, h6, h7, h8, h9⟩ := h
  exact ⟨⟨⟨h1, h2, h3, h4⟩, h5, h6, h7⟩, h8, h9⟩
abbrev sAns : Stmt := top 28
theorem scAns : FnScope ansN ["_law_call_here"] (defScope sAns) := ⟨rfl, rfl, rfl, by decide +kernel, rfl, by decide +kernel, by decide +kernel⟩
theorem ans_body : ∃ (j1 j2 : Nat) (p1 p2 p3 p4 p5 p6 p7 p8 p9 p10 p11 p12 p13 p14 p15 p16 p17 p18 : Pos), defBody sAns = [.Try [.Assign [.Name "_law_got" p1] (.Call (.Name "_law_call_here" p2) [] [] p3) p4] [.ExceptHandler (some (.Tuple [.Name "WrongValue" p5, .Name "WrongName" p6, .Name "NotPossible" p7] j1 p8)) (some "_law_e") [.Return (some (.Call (.Name "_law_sort" p9) [.Name "_law_e" p10] [] p11)) p12] p13] [] [] p14,
      .Return (some (.List [.Constant (.str "back") j2 p15, .Name "_law_got" p16] p17)) p18] := ⟨_, _, _, _, _, _, _, _, _, _, _, _, _, _, _, _, _, _, _, _, rfl⟩
theorem ansR_mk {P : Program} {w : World} {K : PySem.W.Frag} {mg : Str → Option Value} {base : Heap} {cA cB cC g : Addr} {fd : FuncData} {sp : SpP} {k : Nat} (S : SortR P w K mg base sp k) (mA : mg "WrongValue" = some (.ref cA)) (mB : mg "WrongName" = some (.ref cB)) (mC : mg "NotPossible" = some (.ref cC))
    (F : Fun K "_law_answer" "_law_answer" sAns g fd) (b : Binds K fd ["_law_call_here"] []) (m : mg "_law_answer" = some (.ref g)) (kp : PySem.W.keepIn K (.ref g) = true) : AnsR P w K mg base cA cB cC sp k := by
  obtain ⟨j1, j2, p1, p2, p3, p4, p5, p6, p7, p8, p9, p10, p11, p12, p13, p14, p15, p16, p17, p18, hb⟩ := ans_body
  exact ⟨S, mA, mB, mC, g, sAns, fd, j1, j2, p1, p2, p3, p4, p5, p6, p7, p8, p9, p10, p11, p12, p13, p14, p15, p16, p17, p18, F, b, m, kp, scAns, ⟨rfl, rfl, rfl⟩, ⟨rfl, rfl, rfl, rfl⟩, hb⟩
/-- the places of two defs' code objects, and of their tables -/
theorem tabs_two {K : PySem.W.Frag} {mg : Str → Option Value} {u v : Value} (hu : codeB K u = true) (hv : codeB K v = true) : u = .ref (codeA u) ∧ v = .ref (codeA v) := ⟨(codeB_ok hu).1, (codeB_ok hv).1⟩
end Lamp
set_option Elab.async false
set_option linter.all false
set_option maxRecDepth 100000
set_option maxHeartbeats 2000000
namespace Lamp
open PySem PySem.Spec PyProof.Rows L2 ClX LamX
def noneB (K : PySem.W.Frag) : Bool := (["int", "divmod", "len", "abs", "range", "tuple", "sorted", "list", "isinstance", "bool", "str", "enumerate", "repr", "all", "max", "min", "ValueError", "LookupError", "ArithmeticError"] : List Str).all fun n => decide (PySem.W.nsIn K mainGlobals n = some none)
theorem none_of {K : PySem.W.Frag} (h : noneB K = true) {n : Str} (hn : n ∈ (["int", "divmod", "len", "abs", "range", "tuple", "sorted", "list", "isinstance", "bool", "str", "enumerate", "repr", "all", "max", "min", "ValueError", "LookupError", "ArithmeticError"] : List Str)) : PySem.W.nsIn K mainGlobals n = some none := by
  unfold noneB at h
  rw [List.all_eq_true] at h
  exact of_decide_eq_true (h n hn)
abbrev sXT : Stmt := inClass (top 2) 0
abbrev sXL : Stmt := inClass (top 3) 0
abbrev sXN : Stmt := inClass (top 4) 0
abbrev sXA : Stmt := inClass (top 5) 0
theorem scXT : FnScope ["self", "given"] ["self", "given"] (defScope sXT) := ⟨rfl, rfl, rfl, by decide +kernel, rfl, by decide +kernel, by decide +kernel⟩
theorem scXL : FnScope ["self", "given"] ["self", "given"] (defScope sXL) := ⟨rfl, rfl, rfl, by decide +kernel, rfl, by decide +kernel, by decide +kernel⟩
theorem scXN : FnScope ["self", "given"] ["self", "given"] (defScope sXN) := ⟨rfl, rfl, rfl, by decide +kernel, rfl, by decide +kernel, by decide +kernel⟩
theorem scXA : FnScope ["self", "index"] ["self", "index"] (defScope sXA) := ⟨rfl, rfl, rfl, by decide +kernel, rfl, by decide +kernel, by decide +kernel⟩
theorem all_mk {P : Program} {w : World} {K : PySem.W.Frag} {mg : Str → Option Value} {fa : Addr} {hh : Heap} (X : K.In hh) (G : hh.Ns mainGlobals mg) (hfa : mg "law" = some (.ref fa)) {C aL xL xA xN xT cA cB cC : Addr} {odL : Option Addr} {tL0 tL1 tL2 tL3 tM : Tok} {nL0 : Nat} {slL : Array (Option Value)} {fRI : Addr} {oc_fRI kV_fRI dc_fRI pm_fRI cd_fRI ct_fRI : Value} {od_fRI an_fRI : Option Addr} {sl_fRI : Array (Option Value)} {fRL : Addr} {oc_fRL kV_fRL dc_fRL pm_fRL cd_fRL ct_fRL : Value} {od_fRL an_fRL : Option Addr} {sl_fRL : Array (Option Value)} {fRS : Addr} {oc_fRS kV_fRS dc_fRS pm_fRS cd_fRS ct_fRS : Value} {od_fRS an_fRS : Option Addr} {sl_fRS : Array (Option Value)} {fRP : Addr} {oc_fRP kV_fRP dc_fRP pm_fRP cd_fRP ct_fRP : Value} {od_fRP an_fRP : Option Addr} {sl_fRP : Array (Option Value)} {fII : Addr} {oc_fII kV_fII dc_fII pm_fII cd_fII ct_fII : Value} {od_fII an_fII : Option Addr} {sl_fII : Array (Option Value)} {fIL : Addr} {oc_fIL kV_fIL dc_fIL pm_fIL cd_fIL ct_fIL : Value} {od_fIL an_fIL : Option Addr} {sl_fIL : Array (Option Value)} {fIM : Addr} {oc_fIM kV_fIM dc_fIM pm_fIM cd_fIM ct_fIM : Value} {od_fIM an_fIM : Option Addr} {sl_fIM : Array (Option Value)} {fWL : Addr} {oc_fWL kV_fWL dc_fWL pm_fWL cd_fWL ct_fWL : Value} {od_fWL an_fWL : Option Addr} {sl_fWL : Array (Option Value)} {fBe : Addr} {oc_fBe kV_fBe dc_fBe pm_fBe cd_fBe ct_fBe : Value} {od_fBe an_fBe : Option Addr} {sl_fBe : Array (Option Value)} {fCa : Addr} {oc_fCa kV_fCa dc_fCa pm_fCa cd_fCa ct_fCa : Value} {od_fCa an_fCa : Option Addr} {sl_fCa : Array (Option Value)} {fAn : Addr} {oc_fAn kV_fAn dc_fAn pm_fAn cd_fAn ct_fAn : Value} {od_fAn an_fAn : Option Addr} {sl_fAn : Array (Option Value)} {fVa : Addr} {oc_fVa kV_fVa dc_fVa pm_fVa cd_fVa ct_fVa : Value} {od_fVa an_fVa : Option Addr} {sl_fVa : Array (Option Value)} {fAs : Addr} {oc_fAs kV_fAs dc_fAs pm_fAs cd_fAs ct_fAs : Value} {od_fAs an_fAs : Option Addr} {sl_fAs : Array (Option Value)} {fWh : Addr} {oc_fWh kV_fWh dc_fWh pm_fWh cd_fWh ct_fWh : Value} {od_fWh an_fWh : Option Addr} {sl_fWh : Array (Option Value)} {fFg : Addr} {oc_fFg kV_fFg dc_fFg pm_fFg cd_fFg ct_fFg : Value} {od_fFg an_fFg : Option Addr} {sl_fFg : Array (Option Value)} {fPl : Addr} {oc_fPl kV_fPl dc_fPl pm_fPl cd_fPl ct_fPl : Value} {od_fPl an_fPl : Option Addr} {sl_fPl : Array (Option Value)} {fPc : Addr} {oc_fPc kV_fPc dc_fPc pm_fPc cd_fPc ct_fPc : Value} {od_fPc an_fPc : Option Addr} {sl_fPc : Array (Option Value)} {fPa : Addr} {oc_fPa kV_fPa dc_fPa pm_fPa cd_fPa ct_fPa : Value} {od_fPa an_fPa : Option Addr} {sl_fPa : Array (Option Value)} {fSh : Addr} {oc_fSh kV_fSh dc_fSh pm_fSh cd_fSh ct_fSh : Value} {od_fSh an_fSh : Option Addr} {sl_fSh : Array (Option Value)} {fTh : Addr} {oc_fTh kV_fTh dc_fTh pm_fTh cd_fTh ct_fTh : Value} {od_fTh an_fTh : Option Addr} {sl_fTh : Array (Option Value)} {fLv : Addr} {oc_fLv kV_fLv dc_fLv pm_fLv cd_fLv ct_fLv : Value} {od_fLv an_fLv : Option Addr} {sl_fLv : Array (Option Value)} {fWr : Addr} {oc_fWr kV_fWr dc_fWr pm_fWr cd_fWr ct_fWr : Value} {od_fWr an_fWr : Option Addr} {sl_fWr : Array (Option Value)} {fLr : Addr} {oc_fLr kV_fLr dc_fLr pm_fLr cd_fLr ct_fLr : Value} {od_fLr an_fLr : Option Addr} {sl_fLr : Array (Option Value)} {fBn : Addr} {oc_fBn kV_fBn dc_fBn pm_fBn cd_fBn ct_fBn : Value} {od_fBn an_fBn : Option Addr} {sl_fBn : Array (Option Value)} {fSo : Addr} {oc_fSo kV_fSo dc_fSo pm_fSo cd_fSo ct_fSo : Value} {od_fSo an_fSo : Option Addr} {sl_fSo : Array (Option Value)} {fRg : Addr} {oc_fRg kV_fRg dc_fRg pm_fRg cd_fRg ct_fRg : Value} {od_fRg an_fRg : Option Addr} {sl_fRg : Array (Option Value)} {fTo : Addr} {oc_fTo kV_fTo dc_fTo pm_fTo cd_fTo ct_fTo : Value} {od_fTo an_fTo : Option Addr} {sl_fTo : Array (Option Value)} {fLaw : Addr} {oc_fLaw kV_fLaw dc_fLaw pm_fLaw cd_fLaw ct_fLaw : Value} {od_fLaw an_fLaw : Option Addr} {sl_fLaw : Array (Option Value)} {gIn : Addr} {oc_gIn kV_gIn dc_gIn pm_gIn cd_gIn ct_gIn : Value} {od_gIn an_gIn : Option Addr} {sl_gIn : Array (Option Value)} {iL : Addr} {oc_iL kV_iL dc_iL pm_iL cd_iL ct_iL : Value} {od_iL an_iL : Option Addr} {sl_iL : Array (Option Value)} {iN : Addr} {oc_iN kV_iN dc_iN pm_iN cd_iN ct_iN : Value} {od_iN an_iN : Option Addr} {sl_iN : Array (Option Value)} {iA : Addr} {oc_iA kV_iA dc_iA pm_iA cd_iA ct_iA : Value} {od_iA an_iA : Option Addr} {sl_iA : Array (Option Value)} {iT : Addr} {oc_iT kV_iT dc_iT pm_iT cd_iT ct_iT : Value} {od_iT an_iT : Option Addr} {sl_iT : Array (Option Value)} {gLv : Addr} {oc_gLv kV_gLv dc_gLv pm_gLv cd_gLv ct_gLv : Value} {od_gLv an_gLv : Option Addr} {sl_gLv : Array (Option Value)} {p_gLv : Addr} {rest_gLv : List Value} {gLa : Addr} {oc_gLa kV_gLa dc_gLa pm_gLa cd_gLa ct_gLa : Value} {od_gLa an_gLa : Option Addr} {sl_gLa : Array (Option Value)} {p_gLa : Addr} {rest_gLa : List Value} {gEn : Addr} {oc_gEn kV_gEn dc_gEn pm_gEn cd_gEn ct_gEn : Value} {od_gEn an_gEn : Option Addr} {sl_gEn : Array (Option Value)} {p_gEn : Addr} {rest_gEn : List Value} {gRd : Addr} {oc_gRd kV_gRd dc_gRd pm_gRd cd_gRd ct_gRd : Value} {od_gRd an_gRd : Option Addr} {sl_gRd : Array (Option Value)} {p_gRd : Addr} {rest_gRd : List Value}
    (nC : PySem.W.nsIn K mainGlobals "Round" = some (some (.ref C)))
    (n_xL : PySem.W.nsIn K mainGlobals "InvalidLevels" = some (some (.ref xL)))
    (n_xA : PySem.W.nsIn K mainGlobals "InvalidLamps" = some (some (.ref xA)))
    (n_xN : PySem.W.nsIn K mainGlobals "InvalidNumber" = some (some (.ref xN)))
    (n_xT : PySem.W.nsIn K mainGlobals "InvalidText" = some (some (.ref xT)))
    (n_cA : PySem.W.nsIn K mainGlobals "WrongValue" = some (some (.ref cA)))
    (n_cB : PySem.W.nsIn K mainGlobals "WrongName" = some (some (.ref cB)))
    (n_cC : PySem.W.nsIn K mainGlobals "NotPossible" = some (some (.ref cC)))
    (nf_fRI : PySem.W.nsIn K mainGlobals "read_integer" = some (some (.ref fRI)))
    (lf_fRI : K.lookup fRI = some ⟨oc_fRI, od_fRI, .func (PySem.W.fnOf "read_integer" "read_integer" (defArgs sReadInt) (defBody sReadInt) (defScope sReadInt) .none kV_fRI dc_fRI pm_fRI an_fRI cd_fRI ct_fRI), sl_fRI⟩)
    (cf_fRI : PySem.W.codeIn K cd_fRI "read_integer" = true)
    (kf_fRI : PySem.W.keepIn K (.ref fRI) = true)
    (nf_fRL : PySem.W.nsIn K mainGlobals "read_lamp" = some (some (.ref fRL)))
    (lf_fRL : K.lookup fRL = some ⟨oc_fRL, od_fRL, .func (PySem.W.fnOf "read_lamp" "read_lamp" (defArgs sReadLamp) (defBody sReadLamp) (defScope sReadLamp) .none kV_fRL dc_fRL pm_fRL an_fRL cd_fRL ct_fRL), sl_fRL⟩)
    (cf_fRL : PySem.W.codeIn K cd_fRL "read_lamp" = true)
    (kf_fRL : PySem.W.keepIn K (.ref fRL) = true)
    (nf_fRS : PySem.W.nsIn K mainGlobals "read_lamps" = some (some (.ref fRS)))
    (lf_fRS : K.lookup fRS = some ⟨oc_fRS, od_fRS, .func (PySem.W.fnOf "read_lamps" "read_lamps" (defArgs sReadLamps) (defBody sReadLamps) (defScope sReadLamps) .none kV_fRS dc_fRS pm_fRS an_fRS cd_fRS ct_fRS), sl_fRS⟩)
    (cf_fRS : PySem.W.codeIn K cd_fRS "read_lamps" = true)
    (kf_fRS : PySem.W.keepIn K (.ref fRS) = true)
    (nf_fRP : PySem.W.nsIn K mainGlobals "read_parts" = some (some (.ref fRP)))
    (lf_fRP : K.lookup fRP = some ⟨oc_fRP, od_fRP, .func (PySem.W.fnOf "read_parts" "read_parts" (defArgs sReadParts) (defBody sReadParts) (defScope sReadParts) .none kV_fRP dc_fRP pm_fRP an_fRP cd_fRP ct_fRP), sl_fRP⟩)
    (cf_fRP : PySem.W.codeIn K cd_fRP "read_parts" = true)
    (kf_fRP : PySem.W.keepIn K (.ref fRP) = true)
    (nf_fII : PySem.W.nsIn K mainGlobals "is_integer" = some (some (.ref fII)))
    (lf_fII : K.lookup fII = some ⟨oc_fII, od_fII, .func (PySem.W.fnOf "is_integer" "is_integer" (defArgs sIsInt) (defBody sIsInt) (defScope sIsInt) .none kV_fII dc_fII pm_fII an_fII cd_fII ct_fII), sl_fII⟩)
    (cf_fII : PySem.W.codeIn K cd_fII "is_integer" = true)
    (kf_fII : PySem.W.keepIn K (.ref fII) = true)
    (nf_fIL : PySem.W.nsIn K mainGlobals "is_levels" = some (some (.ref fIL)))
    (lf_fIL : K.lookup fIL = some ⟨oc_fIL, od_fIL, .func (PySem.W.fnOf "is_levels" "is_levels" (defArgs sIsLevels) (defBody sIsLevels) (defScope sIsLevels) .none kV_fIL dc_fIL pm_fIL an_fIL cd_fIL ct_fIL), sl_fIL⟩)
    (cf_fIL : PySem.W.codeIn K cd_fIL "is_levels" = true)
    (kf_fIL : PySem.W.keepIn K (.ref fIL) = true)
    (nf_fIM : PySem.W.nsIn K mainGlobals "is_lamp" = some (some (.ref fIM)))
    (lf_fIM : K.lookup fIM = some ⟨oc_fIM, od_fIM, .func (PySem.W.fnOf "is_lamp" "is_lamp" (defArgs sIsLamp) (defBody sIsLamp) (defScope sIsLamp) .none kV_fIM dc_fIM pm_fIM an_fIM cd_fIM ct_fIM), sl_fIM⟩)
    (cf_fIM : PySem.W.codeIn K cd_fIM "is_lamp" = true)
    (kf_fIM : PySem.W.keepIn K (.ref fIM) = true)
    (nf_fWL : PySem.W.nsIn K mainGlobals "wrong_lamp" = some (some (.ref fWL)))
    (lf_fWL : K.lookup fWL = some ⟨oc_fWL, od_fWL, .func (PySem.W.fnOf "wrong_lamp" "wrong_lamp" (defArgs sWrong) (defBody sWrong) (defScope sWrong) .none kV_fWL dc_fWL pm_fWL an_fWL cd_fWL ct_fWL), sl_fWL⟩)
    (cf_fWL : PySem.W.codeIn K cd_fWL "wrong_lamp" = true)
    (kf_fWL : PySem.W.keepIn K (.ref fWL) = true)
    (nf_fBe : PySem.W.nsIn K mainGlobals "_law_begun" = some (some (.ref fBe)))
    (lf_fBe : K.lookup fBe = some ⟨oc_fBe, od_fBe, .func (PySem.W.fnOf "_law_begun" "_law_begun" (defArgs sBegun) (defBody sBegun) (defScope sBegun) .none kV_fBe dc_fBe pm_fBe an_fBe cd_fBe ct_fBe), sl_fBe⟩)
    (cf_fBe : PySem.W.codeIn K cd_fBe "_law_begun" = true)
    (kf_fBe : PySem.W.keepIn K (.ref fBe) = true)
    (nf_fCa : PySem.W.nsIn K mainGlobals "_law_cast" = some (some (.ref fCa)))
    (lf_fCa : K.lookup fCa = some ⟨oc_fCa, od_fCa, .func (PySem.W.fnOf "_law_cast" "_law_cast" (defArgs sCast) (defBody sCast) (defScope sCast) .none kV_fCa dc_fCa pm_fCa an_fCa cd_fCa ct_fCa), sl_fCa⟩)
    (cf_fCa : PySem.W.codeIn K cd_fCa "_law_cast" = true)
    (kf_fCa : PySem.W.keepIn K (.ref fCa) = true)
    (nf_fAn : PySem.W.nsIn K mainGlobals "_law_any_of" = some (some (.ref fAn)))
    (lf_fAn : K.lookup fAn = some ⟨oc_fAn, od_fAn, .func (PySem.W.fnOf "_law_any_of" "_law_any_of" (defArgs sAny) (defBody sAny) (defScope sAny) .none kV_fAn dc_fAn pm_fAn an_fAn cd_fAn ct_fAn), sl_fAn⟩)
    (cf_fAn : PySem.W.codeIn K cd_fAn "_law_any_of" = true)
    (kf_fAn : PySem.W.keepIn K (.ref fAn) = true)
    (nf_fVa : PySem.W.nsIn K mainGlobals "_law_vast" = some (some (.ref fVa)))
    (lf_fVa : K.lookup fVa = some ⟨oc_fVa, od_fVa, .func (PySem.W.fnOf "_law_vast" "_law_vast" (defArgs sVast) (defBody sVast) (defScope sVast) .none kV_fVa dc_fVa pm_fVa an_fVa cd_fVa ct_fVa), sl_fVa⟩)
    (cf_fVa : PySem.W.codeIn K cd_fVa "_law_vast" = true)
    (kf_fVa : PySem.W.keepIn K (.ref fVa) = true)
    (nf_fAs : PySem.W.nsIn K mainGlobals "_law_answer" = some (some (.ref fAs)))
    (lf_fAs : K.lookup fAs = some ⟨oc_fAs, od_fAs, .func (PySem.W.fnOf "_law_answer" "_law_answer" (defArgs sAns) (defBody sAns) (defScope sAns) .none kV_fAs dc_fAs pm_fAs an_fAs cd_fAs ct_fAs), sl_fAs⟩)
    (cf_fAs : PySem.W.codeIn K cd_fAs "_law_answer" = true)
    (kf_fAs : PySem.W.keepIn K (.ref fAs) = true)
    (nf_fWh : PySem.W.nsIn K mainGlobals "_law_is_whole" = some (some (.ref fWh)))
    (lf_fWh : K.lookup fWh = some ⟨oc_fWh, od_fWh, .func (PySem.W.fnOf "_law_is_whole" "_law_is_whole" (defArgs sWhole) (defBody sWhole) (defScope sWhole) .none kV_fWh dc_fWh pm_fWh an_fWh cd_fWh ct_fWh), sl_fWh⟩)
    (cf_fWh : PySem.W.codeIn K cd_fWh "_law_is_whole" = true)
    (kf_fWh : PySem.W.keepIn K (.ref fWh) = true)
    (nf_fFg : PySem.W.nsIn K mainGlobals "_law_figure" = some (some (.ref fFg)))
    (lf_fFg : K.lookup fFg = some ⟨oc_fFg, od_fFg, .func (PySem.W.fnOf "_law_figure" "_law_figure" (defArgs sFigure) (defBody sFigure) (defScope sFigure) .none kV_fFg dc_fFg pm_fFg an_fFg cd_fFg ct_fFg), sl_fFg⟩)
    (cf_fFg : PySem.W.codeIn K cd_fFg "_law_figure" = true)
    (kf_fFg : PySem.W.keepIn K (.ref fFg) = true)
    (nf_fPl : PySem.W.nsIn K mainGlobals "_law_place" = some (some (.ref fPl)))
    (lf_fPl : K.lookup fPl = some ⟨oc_fPl, od_fPl, .func (PySem.W.fnOf "_law_place" "_law_place" (defArgs sPlace) (defBody sPlace) (defScope sPlace) .none kV_fPl dc_fPl pm_fPl an_fPl cd_fPl ct_fPl), sl_fPl⟩)
    (cf_fPl : PySem.W.codeIn K cd_fPl "_law_place" = true)
    (kf_fPl : PySem.W.keepIn K (.ref fPl) = true)
    (nf_fPc : PySem.W.nsIn K mainGlobals "_law_picture" = some (some (.ref fPc)))
    (lf_fPc : K.lookup fPc = some ⟨oc_fPc, od_fPc, .func (PySem.W.fnOf "_law_picture" "_law_picture" (defArgs sPicture) (defBody sPicture) (defScope sPicture) .none kV_fPc dc_fPc pm_fPc an_fPc cd_fPc ct_fPc), sl_fPc⟩)
    (cf_fPc : PySem.W.codeIn K cd_fPc "_law_picture" = true)
    (kf_fPc : PySem.W.keepIn K (.ref fPc) = true)
    (nf_fPa : PySem.W.nsIn K mainGlobals "_law_parts" = some (some (.ref fPa)))
    (lf_fPa : K.lookup fPa = some ⟨oc_fPa, od_fPa, .func (PySem.W.fnOf "_law_parts" "_law_parts" (defArgs sParts) (defBody sParts) (defScope sParts) .none kV_fPa dc_fPa pm_fPa an_fPa cd_fPa ct_fPa), sl_fPa⟩)
    (cf_fPa : PySem.W.codeIn K cd_fPa "_law_parts" = true)
    (kf_fPa : PySem.W.keepIn K (.ref fPa) = true)
    (nf_fSh : PySem.W.nsIn K mainGlobals "_law_sheet" = some (some (.ref fSh)))
    (lf_fSh : K.lookup fSh = some ⟨oc_fSh, od_fSh, .func (PySem.W.fnOf "_law_sheet" "_law_sheet" (defArgs sSheet) (defBody sSheet) (defScope sSheet) .none kV_fSh dc_fSh pm_fSh an_fSh cd_fSh ct_fSh), sl_fSh⟩)
    (cf_fSh : PySem.W.codeIn K cd_fSh "_law_sheet" = true)
    (kf_fSh : PySem.W.keepIn K (.ref fSh) = true)
    (nf_fTh : PySem.W.nsIn K mainGlobals "_law_thing" = some (some (.ref fTh)))
    (lf_fTh : K.lookup fTh = some ⟨oc_fTh, od_fTh, .func (PySem.W.fnOf "_law_thing" "_law_thing" (defArgs sThing) (defBody sThing) (defScope sThing) .none kV_fTh dc_fTh pm_fTh an_fTh cd_fTh ct_fTh), sl_fTh⟩)
    (cf_fTh : PySem.W.codeIn K cd_fTh "_law_thing" = true)
    (kf_fTh : PySem.W.keepIn K (.ref fTh) = true)
    (nf_fLv : PySem.W.nsIn K mainGlobals "_law_is_levels" = some (some (.ref fLv)))
    (lf_fLv : K.lookup fLv = some ⟨oc_fLv, od_fLv, .func (PySem.W.fnOf "_law_is_levels" "_law_is_levels" (defArgs sIsLv) (defBody sIsLv) (defScope sIsLv) .none kV_fLv dc_fLv pm_fLv an_fLv cd_fLv ct_fLv), sl_fLv⟩)
    (cf_fLv : PySem.W.codeIn K cd_fLv "_law_is_levels" = true)
    (kf_fLv : PySem.W.keepIn K (.ref fLv) = true)
    (nf_fWr : PySem.W.nsIn K mainGlobals "_law_wrong_lamps" = some (some (.ref fWr)))
    (lf_fWr : K.lookup fWr = some ⟨oc_fWr, od_fWr, .func (PySem.W.fnOf "_law_wrong_lamps" "_law_wrong_lamps" (defArgs sWrongs) (defBody sWrongs) (defScope sWrongs) .none kV_fWr dc_fWr pm_fWr an_fWr cd_fWr ct_fWr), sl_fWr⟩)
    (cf_fWr : PySem.W.codeIn K cd_fWr "_law_wrong_lamps" = true)
    (kf_fWr : PySem.W.keepIn K (.ref fWr) = true)
    (nf_fLr : PySem.W.nsIn K mainGlobals "_law_read" = some (some (.ref fLr)))
    (lf_fLr : K.lookup fLr = some ⟨oc_fLr, od_fLr, .func (PySem.W.fnOf "_law_read" "_law_read" (defArgs sLRead) (defBody sLRead) (defScope sLRead) .none kV_fLr dc_fLr pm_fLr an_fLr cd_fLr ct_fLr), sl_fLr⟩)
    (cf_fLr : PySem.W.codeIn K cd_fLr "_law_read" = true)
    (kf_fLr : PySem.W.keepIn K (.ref fLr) = true)
    (nf_fBn : PySem.W.nsIn K mainGlobals "_law_bent_said" = some (some (.ref fBn)))
    (lf_fBn : K.lookup fBn = some ⟨oc_fBn, od_fBn, .func (PySem.W.fnOf "_law_bent_said" "_law_bent_said" (defArgs sBentS) (defBody sBentS) (defScope sBentS) .none kV_fBn dc_fBn pm_fBn an_fBn cd_fBn ct_fBn), sl_fBn⟩)
    (cf_fBn : PySem.W.codeIn K cd_fBn "_law_bent_said" = true)
    (kf_fBn : PySem.W.keepIn K (.ref fBn) = true)
    (nf_fSo : PySem.W.nsIn K mainGlobals "_law_sort" = some (some (.ref fSo)))
    (lf_fSo : K.lookup fSo = some ⟨oc_fSo, od_fSo, .func (PySem.W.fnOf "_law_sort" "_law_sort" (defArgs sSort) (defBody sSort) (defScope sSort) .none kV_fSo dc_fSo pm_fSo an_fSo cd_fSo ct_fSo), sl_fSo⟩)
    (cf_fSo : PySem.W.codeIn K cd_fSo "_law_sort" = true)
    (kf_fSo : PySem.W.keepIn K (.ref fSo) = true)
    (nf_fRg : PySem.W.nsIn K mainGlobals "_law_right" = some (some (.ref fRg)))
    (lf_fRg : K.lookup fRg = some ⟨oc_fRg, od_fRg, .func (PySem.W.fnOf "_law_right" "_law_right" (defArgs sRight) (defBody sRight) (defScope sRight) .none kV_fRg dc_fRg pm_fRg an_fRg cd_fRg ct_fRg), sl_fRg⟩)
    (cf_fRg : PySem.W.codeIn K cd_fRg "_law_right" = true)
    (kf_fRg : PySem.W.keepIn K (.ref fRg) = true)
    (nf_fTo : PySem.W.nsIn K mainGlobals "_law_told" = some (some (.ref fTo)))
    (lf_fTo : K.lookup fTo = some ⟨oc_fTo, od_fTo, .func (PySem.W.fnOf "_law_told" "_law_told" (defArgs sTold) (defBody sTold) (defScope sTold) .none kV_fTo dc_fTo pm_fTo an_fTo cd_fTo ct_fTo), sl_fTo⟩)
    (cf_fTo : PySem.W.codeIn K cd_fTo "_law_told" = true)
    (kf_fTo : PySem.W.keepIn K (.ref fTo) = true)
    (nf_fLaw : PySem.W.nsIn K mainGlobals "law" = some (some (.ref fLaw)))
    (lf_fLaw : K.lookup fLaw = some ⟨oc_fLaw, od_fLaw, .func (PySem.W.fnOf "law" "law" (defArgs sLaw) (defBody sLaw) (defScope sLaw) .none kV_fLaw dc_fLaw pm_fLaw an_fLaw cd_fLaw ct_fLaw), sl_fLaw⟩)
    (cf_fLaw : PySem.W.codeIn K cd_fLaw "law" = true)
    (kf_fLaw : PySem.W.keepIn K (.ref fLaw) = true)
    (fm_gIn : PySem.W.findIn K (.ref C) "__init__" = some (some (.ref gIn)))
    (lf_gIn : K.lookup gIn = some ⟨oc_gIn, od_gIn, .func (PySem.W.fnOf "__init__" "Round.__init__" (defArgs sInit) (defBody sInit) (defScope sInit) .none kV_gIn dc_gIn pm_gIn an_gIn cd_gIn ct_gIn), sl_gIn⟩)
    (cf_gIn : PySem.W.codeIn K cd_gIn "Round.__init__" = true)
    (kf_gIn : PySem.W.keepIn K (.ref gIn) = true)
    (if_gIn : PySem.W.isFn K (.ref gIn) = true)
    (fm_iL : PySem.W.findIn K (.ref xL) "__init__" = some (some (.ref iL)))
    (lf_iL : K.lookup iL = some ⟨oc_iL, od_iL, .func (PySem.W.fnOf "__init__" "InvalidLevels.__init__" (defArgs sXL) (defBody sXL) (defScope sXL) .none kV_iL dc_iL pm_iL an_iL cd_iL ct_iL), sl_iL⟩)
    (cf_iL : PySem.W.codeIn K cd_iL "InvalidLevels.__init__" = true)
    (kf_iL : PySem.W.keepIn K (.ref iL) = true)
    (if_iL : PySem.W.isFn K (.ref iL) = true)
    (fm_iN : PySem.W.findIn K (.ref xN) "__init__" = some (some (.ref iN)))
    (lf_iN : K.lookup iN = some ⟨oc_iN, od_iN, .func (PySem.W.fnOf "__init__" "InvalidNumber.__init__" (defArgs sXN) (defBody sXN) (defScope sXN) .none kV_iN dc_iN pm_iN an_iN cd_iN ct_iN), sl_iN⟩)
    (cf_iN : PySem.W.codeIn K cd_iN "InvalidNumber.__init__" = true)
    (kf_iN : PySem.W.keepIn K (.ref iN) = true)
    (if_iN : PySem.W.isFn K (.ref iN) = true)
    (fm_iA : PySem.W.findIn K (.ref xA) "__init__" = some (some (.ref iA)))
    (lf_iA : K.lookup iA = some ⟨oc_iA, od_iA, .func (PySem.W.fnOf "__init__" "InvalidLamps.__init__" (defArgs sXA) (defBody sXA) (defScope sXA) .none kV_iA dc_iA pm_iA an_iA cd_iA ct_iA), sl_iA⟩)
    (cf_iA : PySem.W.codeIn K cd_iA "InvalidLamps.__init__" = true)
    (kf_iA : PySem.W.keepIn K (.ref iA) = true)
    (if_iA : PySem.W.isFn K (.ref iA) = true)
    (fm_iT : PySem.W.findIn K (.ref xT) "__init__" = some (some (.ref iT)))
    (lf_iT : K.lookup iT = some ⟨oc_iT, od_iT, .func (PySem.W.fnOf "__init__" "InvalidText.__init__" (defArgs sXT) (defBody sXT) (defScope sXT) .none kV_iT dc_iT pm_iT an_iT cd_iT ct_iT), sl_iT⟩)
    (cf_iT : PySem.W.codeIn K cd_iT "InvalidText.__init__" = true)
    (kf_iT : PySem.W.keepIn K (.ref iT) = true)
    (if_iT : PySem.W.isFn K (.ref iT) = true)
    (pa_gLv : PySem.W.findIn K (.ref C) "levels" = some (some (.ref p_gLv)))
    (pr_gLv : PySem.W.recIn K p_gLv "property" = some (.ref gLv :: rest_gLv))
    (pg_gLv : PySem.W.specialIn K (.ref p_gLv) "__get__" = some (some (.builtin "property.__get__")))
    (pt_gLv : PySem.W.takesIn K (.ref p_gLv) = some true)
    (lf_gLv : K.lookup gLv = some ⟨oc_gLv, od_gLv, .func (PySem.W.fnOf "levels" "Round.levels" (defArgs sLevels) (defBody sLevels) (defScope sLevels) .none kV_gLv dc_gLv pm_gLv an_gLv cd_gLv ct_gLv), sl_gLv⟩)
    (cf_gLv : PySem.W.codeIn K cd_gLv "Round.levels" = true)
    (kf_gLv : PySem.W.keepIn K (.ref gLv) = true)
    (pa_gLa : PySem.W.findIn K (.ref C) "lamps" = some (some (.ref p_gLa)))
    (pr_gLa : PySem.W.recIn K p_gLa "property" = some (.ref gLa :: rest_gLa))
    (pg_gLa : PySem.W.specialIn K (.ref p_gLa) "__get__" = some (some (.builtin "property.__get__")))
    (pt_gLa : PySem.W.takesIn K (.ref p_gLa) = some true)
    (lf_gLa : K.lookup gLa = some ⟨oc_gLa, od_gLa, .func (PySem.W.fnOf "lamps" "Round.lamps" (defArgs sLampsP) (defBody sLampsP) (defScope sLampsP) .none kV_gLa dc_gLa pm_gLa an_gLa cd_gLa ct_gLa), sl_gLa⟩)
    (cf_gLa : PySem.W.codeIn K cd_gLa "Round.lamps" = true)
    (kf_gLa : PySem.W.keepIn K (.ref gLa) = true)
    (pa_gEn : PySem.W.findIn K (.ref C) "end" = some (some (.ref p_gEn)))
    (pr_gEn : PySem.W.recIn K p_gEn "property" = some (.ref gEn :: rest_gEn))
    (pg_gEn : PySem.W.specialIn K (.ref p_gEn) "__get__" = some (some (.builtin "property.__get__")))
    (pt_gEn : PySem.W.takesIn K (.ref p_gEn) = some true)
    (lf_gEn : K.lookup gEn = some ⟨oc_gEn, od_gEn, .func (PySem.W.fnOf "end" "Round.end" (defArgs sEnd) (defBody sEnd) (defScope sEnd) .none kV_gEn dc_gEn pm_gEn an_gEn cd_gEn ct_gEn), sl_gEn⟩)
    (cf_gEn : PySem.W.codeIn K cd_gEn "Round.end" = true)
    (kf_gEn : PySem.W.keepIn K (.ref gEn) = true)
    (ca_gRd : PySem.W.findCls K (.ref C) (.type "type") "read" = some (.get (.builtin "classmethod.__get__") (.ref p_gRd) .none (.ref C)))
    (cr_gRd : PySem.W.recIn K p_gRd "classmethod" = some (.ref gRd :: rest_gRd))
    (cf2_gRd : PySem.W.fnIn K gRd = true)
    (crd_gRd : PySem.W.readsIn K C (.type "type") = true)
    (cga_gRd : PySem.W.specialIn K (.ref C) "__getattribute__" = some (some (.builtin "type.__getattribute__")))
    (lf_gRd : K.lookup gRd = some ⟨oc_gRd, od_gRd, .func (PySem.W.fnOf "read" "Round.read" (defArgs sRead) (defBody sRead) (defScope sRead) .none kV_gRd dc_gRd pm_gRd an_gRd cd_gRd ct_gRd), sl_gRd⟩)
    (cf_gRd : PySem.W.codeIn K cd_gRd "Round.read" = true)
    (kf_gRd : PySem.W.keepIn K (.ref gRd) = true)
    (nL : PySem.W.nsIn K mainGlobals "LEVELS" = some (some (.ref aL)))
    (lL : K.lookup aL = some ⟨.type "tuple", odL, .seq #[.int 2 tL0, .int 3 tL1, .int 5 tL2, .int 7 tL3] nL0, slL⟩)
    (nM : PySem.W.nsIn K mainGlobals "MOST_LAMPS" = some (some (.int 400 tM)))
    (all : (noneB K && (clsB K C && (metaB K && (ecB K xL 0 && (ecB K xA 0 && (ecB K xN 0 && (ecB K xT 0 && (initB K xL iL "given" && (initB K xA iA "index" && (initB K xN iN "given" && (initB K xT iT "given" && (kdB K cA cB cC xT && (tyB K xL xA xN && (codeB K cd_fLaw && (codeB K cd_fRg && (decide (tabA K cd_fLaw ≠ tabA K cd_fRg))))))))))))))))) = true) :
    ∃ (fd : FuncData) (cs : List (Addr × Addr)) (sp : Sp), (∀ p ∈ cs, TabOf K mg ["law", "_law_right"] p) ∧ (∀ (s : Shared) (u : Value), BindsTo s fd ⟨[u], []⟩ [("_law_script", u)]) ∧ (∀ (H : Hp) (a : Addr) (ns : List Int), ns.length ≤ 63 → (∀ z ∈ ns, Builtin.Int.intBits z ≤ 1048576) → (∀ p ∈ cs, H p.2 = some (.tbl #[])) → SqL K H a (ns.map V.int) → sp [.ref a] H (fun v _ => v = .bl true) E0) ∧
      ∀ base : Heap, K.In base → base.Ns mainGlobals mg → (∀ p ∈ cs, TabB base mg p.1 p.2) → FnG P w K mg base 11 fa fd ["_law_script"] sp := by
  have e := hfa.symm.trans (PySem.W.mg_of X G nf_fLaw)
  cases e
  rw [Bool.and_eq_true, Bool.and_eq_true, Bool.and_eq_true, Bool.and_eq_true, Bool.and_eq_true, Bool.and_eq_true, Bool.and_eq_true, Bool.and_eq_true, Bool.and_eq_true, Bool.and_eq_true, Bool.and_eq_true, Bool.and_eq_true, Bool.and_eq_true, Bool.and_eq_true, Bool.and_eq_true, decide_eq_true_eq] at all
  obtain ⟨hnone, hcls, hmeta, eL, eA, eN, eT, jL, jA, jN, jT, kT, tyAll, cb_fLaw, cb_fRg, cne⟩ := all
  have Gm := metaB_ok hmeta
  obtain ⟨R, hmakes, hkeep⟩ := clsB_ok hcls
  obtain ⟨DT, mT, yT⟩ := kdB_ok kT eT
  obtain ⟨yL, yA, yN, xmL, xmA⟩ := tyB_ok tyAll
  have none := fun {n : Str} hn => PySem.W.mg_none_of X G (none_of hnone (n := n) hn)
  have F_fRI := fun_mk (st := sReadInt) lf_fRI cf_fRI kf_fRI
  have b_fRI := F_fRI.binds (ps := ["word"]) fun _ _ _ _ _ _ us hl => match us, hl with | [_], _ => rfl
  have m_fRI := PySem.W.mg_of X G nf_fRI
  have F_fRL := fun_mk (st := sReadLamp) lf_fRL cf_fRL kf_fRL
  have b_fRL := F_fRL.binds (ps := ["word"]) fun _ _ _ _ _ _ us hl => match us, hl with | [_], _ => rfl
  have m_fRL := PySem.W.mg_of X G nf_fRL
  have F_fRS := fun_mk (st := sReadLamps) lf_fRS cf_fRS kf_fRS
  have b_fRS := F_fRS.binds (ps := ["words"]) fun _ _ _ _ _ _ us hl => match us, hl with | [_], _ => rfl
  have m_fRS := PySem.W.mg_of X G nf_fRS
  have F_fRP := fun_mk (st := sReadParts) lf_fRP cf_fRP kf_fRP
  have b_fRP := F_fRP.binds (ps := ["text"]) fun _ _ _ _ _ _ us hl => match us, hl with | [_], _ => rfl
  have m_fRP := PySem.W.mg_of X G nf_fRP
  have F_fII := fun_mk (st := sIsInt) lf_fII cf_fII kf_fII
  have b_fII := F_fII.binds (ps := ["value"]) fun _ _ _ _ _ _ us hl => match us, hl with | [_], _ => rfl
  have m_fII := PySem.W.mg_of X G nf_fII
  have F_fIL := fun_mk (st := sIsLevels) lf_fIL cf_fIL kf_fIL
  have b_fIL := F_fIL.binds (ps := ["value"]) fun _ _ _ _ _ _ us hl => match us, hl with | [_], _ => rfl
  have m_fIL := PySem.W.mg_of X G nf_fIL
  have F_fIM := fun_mk (st := sIsLamp) lf_fIM cf_fIM kf_fIM
  have b_fIM := F_fIM.binds (ps := ["levels", "value"]) fun _ _ _ _ _ _ us hl => match us, hl with | [_, _], _ => rfl
  have m_fIM := PySem.W.mg_of X G nf_fIM
  have F_fWL := fun_mk (st := sWrong) lf_fWL cf_fWL kf_fWL
  have b_fWL := F_fWL.binds (ps := ["levels", "lamps"]) fun _ _ _ _ _ _ us hl => match us, hl with | [_, _], _ => rfl
  have m_fWL := PySem.W.mg_of X G nf_fWL
  have F_fBe := fun_mk (st := sBegun) lf_fBe cf_fBe kf_fBe
  have b_fBe := F_fBe.binds (ps := ["_law_script", "_law_turn"]) fun _ _ _ _ _ _ us hl => match us, hl with | [_, _], _ => rfl
  have m_fBe := PySem.W.mg_of X G nf_fBe
  have F_fCa := fun_mk (st := sCast) lf_fCa cf_fCa kf_fCa
  have b_fCa := F_fCa.binds (ps := ["_law_pail", "_law_many"]) fun _ _ _ _ _ _ us hl => match us, hl with | [_, _], _ => rfl
  have m_fCa := PySem.W.mg_of X G nf_fCa
  have F_fAn := fun_mk (st := sAny) lf_fAn cf_fAn kf_fAn
  have b_fAn := F_fAn.binds (ps := ["_law_pail", "_law_some"]) fun _ _ _ _ _ _ us hl => match us, hl with | [_, _], _ => rfl
  have m_fAn := PySem.W.mg_of X G nf_fAn
  have F_fVa := fun_mk (st := sVast) lf_fVa cf_fVa kf_fVa
  have b_fVa := F_fVa.binds (ps := ["_law_pail", "_law_many"]) fun _ _ _ _ _ _ us hl => match us, hl with | [_, _], _ => rfl
  have m_fVa := PySem.W.mg_of X G nf_fVa
  have F_fAs := fun_mk (st := sAns) lf_fAs cf_fAs kf_fAs
  have b_fAs := F_fAs.binds (ps := ["_law_call_here"]) fun _ _ _ _ _ _ us hl => match us, hl with | [_], _ => rfl
  have m_fAs := PySem.W.mg_of X G nf_fAs
  have F_fWh := fun_mk (st := sWhole) lf_fWh cf_fWh kf_fWh
  have b_fWh := F_fWh.binds (ps := ["_law_value"]) fun _ _ _ _ _ _ us hl => match us, hl with | [_], _ => rfl
  have m_fWh := PySem.W.mg_of X G nf_fWh
  have F_fFg := fun_mk (st := sFigure) lf_fFg cf_fFg kf_fFg
  have b_fFg := F_fFg.binds (ps := ["_law_word"]) fun _ _ _ _ _ _ us hl => match us, hl with | [_], _ => rfl
  have m_fFg := PySem.W.mg_of X G nf_fFg
  have F_fPl := fun_mk (st := sPlace) lf_fPl cf_fPl kf_fPl
  have b_fPl := F_fPl.binds (ps := ["_law_pail"]) fun _ _ _ _ _ _ us hl => match us, hl with | [_], _ => rfl
  have m_fPl := PySem.W.mg_of X G nf_fPl
  have F_fPc := fun_mk (st := sPicture) lf_fPc cf_fPc kf_fPc
  have b_fPc := F_fPc.binds (ps := ["_law_pail", "_law_p", "_law_many"]) fun _ _ _ _ _ _ us hl => match us, hl with | [_, _, _], _ => rfl
  have m_fPc := PySem.W.mg_of X G nf_fPc
  have F_fPa := fun_mk (st := sParts) lf_fPa cf_fPa kf_fPa
  have b_fPa := F_fPa.binds (ps := ["_law_pail"]) fun _ _ _ _ _ _ us hl => match us, hl with | [_], _ => rfl
  have m_fPa := PySem.W.mg_of X G nf_fPa
  have F_fSh := fun_mk (st := sSheet) lf_fSh cf_fSh kf_fSh
  have b_fSh := F_fSh.binds (ps := ["_law_parts_here"]) fun _ _ _ _ _ _ us hl => match us, hl with | [_], _ => rfl
  have m_fSh := PySem.W.mg_of X G nf_fSh
  have F_fTh := fun_mk (st := sThing) lf_fTh cf_fTh kf_fTh
  have b_fTh := F_fTh.binds (ps := ["_law_pail"]) fun _ _ _ _ _ _ us hl => match us, hl with | [_], _ => rfl
  have m_fTh := PySem.W.mg_of X G nf_fTh
  have F_fLv := fun_mk (st := sIsLv) lf_fLv cf_fLv kf_fLv
  have b_fLv := F_fLv.binds (ps := ["_law_value"]) fun _ _ _ _ _ _ us hl => match us, hl with | [_], _ => rfl
  have m_fLv := PySem.W.mg_of X G nf_fLv
  have F_fWr := fun_mk (st := sWrongs) lf_fWr cf_fWr kf_fWr
  have b_fWr := F_fWr.binds (ps := ["_law_p", "_law_value"]) fun _ _ _ _ _ _ us hl => match us, hl with | [_, _], _ => rfl
  have m_fWr := PySem.W.mg_of X G nf_fWr
  have F_fLr := fun_mk (st := sLRead) lf_fLr cf_fLr kf_fLr
  have b_fLr := F_fLr.binds (ps := ["_law_said"]) fun _ _ _ _ _ _ us hl => match us, hl with | [_], _ => rfl
  have m_fLr := PySem.W.mg_of X G nf_fLr
  have F_fBn := fun_mk (st := sBentS) lf_fBn cf_fBn kf_fBn
  have b_fBn := F_fBn.binds (ps := ["_law_pail", "_law_said"]) fun _ _ _ _ _ _ us hl => match us, hl with | [_, _], _ => rfl
  have m_fBn := PySem.W.mg_of X G nf_fBn
  have F_fSo := fun_mk (st := sSort) lf_fSo cf_fSo kf_fSo
  have b_fSo := F_fSo.binds (ps := ["_law_e"]) fun _ _ _ _ _ _ us hl => match us, hl with | [_], _ => rfl
  have m_fSo := PySem.W.mg_of X G nf_fSo
  have F_fRg := fun_mk (st := sRight) lf_fRg cf_fRg kf_fRg
  have b_fRg := F_fRg.binds (ps := ["_law_pail"]) fun _ _ _ _ _ _ us hl => match us, hl with | [_], _ => rfl
  have m_fRg := PySem.W.mg_of X G nf_fRg
  have F_fTo := fun_mk (st := sTold) lf_fTo cf_fTo kf_fTo
  have b_fTo := F_fTo.binds (ps := ["_law_mine"]) fun _ _ _ _ _ _ us hl => match us, hl with | [_], _ => rfl
  have m_fTo := PySem.W.mg_of X G nf_fTo
  have F_fLaw := fun_mk (st := sLaw) lf_fLaw cf_fLaw kf_fLaw
  have F_gIn := fun_mk (st := sInit) lf_gIn cf_gIn kf_gIn
  have b_gIn := F_gIn.binds (ps := ["self", "levels", "lamps", "end"]) fun _ _ _ _ _ _ us hl => match us, hl with | [_, _, _, _], _ => rfl
  have F_iL := fun_mk (st := sXL) lf_iL cf_iL kf_iL
  have b_iL := F_iL.binds (ps := ["self", "given"]) fun _ _ _ _ _ _ us hl => match us, hl with | [_, _], _ => rfl
  have F_iN := fun_mk (st := sXN) lf_iN cf_iN kf_iN
  have b_iN := F_iN.binds (ps := ["self", "given"]) fun _ _ _ _ _ _ us hl => match us, hl with | [_, _], _ => rfl
  have F_iA := fun_mk (st := sXA) lf_iA cf_iA kf_iA
  have b_iA := F_iA.binds (ps := ["self", "index"]) fun _ _ _ _ _ _ us hl => match us, hl with | [_, _], _ => rfl
  have F_iT := fun_mk (st := sXT) lf_iT cf_iT kf_iT
  have b_iT := F_iT.binds (ps := ["self", "given"]) fun _ _ _ _ _ _ us hl => match us, hl with | [_, _], _ => rfl
  have F_gLv := fun_mk (st := sLevels) lf_gLv cf_gLv kf_gLv
  have b_gLv := F_gLv.binds (ps := ["self"]) fun _ _ _ _ _ _ us hl => match us, hl with | [_], _ => rfl
  have F_gLa := fun_mk (st := sLampsP) lf_gLa cf_gLa kf_gLa
  have b_gLa := F_gLa.binds (ps := ["self"]) fun _ _ _ _ _ _ us hl => match us, hl with | [_], _ => rfl
  have F_gEn := fun_mk (st := sEnd) lf_gEn cf_gEn kf_gEn
  have b_gEn := F_gEn.binds (ps := ["self"]) fun _ _ _ _ _ _ us hl => match us, hl with | [_], _ => rfl
  have F_gRd := fun_mk (st := sRead) lf_gRd cf_gRd kf_gRd
  have b_gRd := F_gRd.binds (ps := ["cls", "text"]) fun _ _ _ _ _ _ us hl => match us, hl with | [_, _], _ => rfl
  have mR := PySem.W.mg_of X G nC
  have mLv := PySem.W.mg_of X G nL
  have mML := PySem.W.mg_of X G nM
  have four : ∀ H, SqT K H aL [.int 2, .int 3, .int 5, .int 7] := fun H => .inr ⟨_, _, _, lL, rfl, rfl, (by show 4 ≤ sizeLine; decide), .cons ⟨_, rfl⟩ (.cons ⟨_, rfl⟩ (.cons ⟨_, rfl⟩ (.cons ⟨_, rfl⟩ .nil)))⟩
  refine ⟨PySem.W.fnOf "law" "law" (defArgs sLaw) (defBody sLaw) (defScope sLaw) .none kV_fLaw dc_fLaw pm_fLaw an_fLaw cd_fLaw ct_fLaw, [(codeA cd_fLaw, tabA K cd_fLaw), (codeA cd_fRg, tabA K cd_fRg)], spLaw K [(tabA K cd_fLaw, qL), (tabA K cd_fRg, qR)], ?_, fun s u => .of_eq rfl, ?_, fun base _ _ tb => ?_⟩
  · intro p hp
    simp only [List.mem_cons, List.not_mem_nil, or_false] at hp
    rcases hp with rfl | rfl
    · exact ⟨"law", by decide, _, _, _, _, PySem.W.mg_of X G nf_fLaw, lf_fLaw, rfl, rfl, cb_fLaw, rfl⟩
    · exact ⟨"_law_right", by decide, _, _, _, _, PySem.W.mg_of X G nf_fRg, lf_fRg, rfl, rfl, cb_fRg, rfl⟩
  · intro H a ns h1 h2 h3 hS
    refine ⟨a, ns, rfl, hS, h1, h2, fun x hx => ?_, fun _ => rfl⟩
    simp only [List.mem_cons, List.not_mem_nil, or_false] at hx
    rcases hx with rfl | rfl
    · exact TabS.nil (h3 (codeA cd_fLaw, tabA K cd_fLaw) (by simp))
    · exact TabS.nil (h3 (codeA cd_fRg, tabA K cd_fRg) (by simp))
  have tb_fLaw : TabB base mg (codeA cd_fLaw) (tabA K cd_fLaw) := tb (codeA cd_fLaw, tabA K cd_fLaw) (by simp)
  have ca_fLaw : cd_fLaw = .ref (codeA cd_fLaw) := (codeB_ok cb_fLaw).1
  have tb_fRg : TabB base mg (codeA cd_fRg) (tabA K cd_fRg) := tb (codeA cd_fRg, tabA K cd_fRg) (by simp)
  have ca_fRg : cd_fRg = .ref (codeA cd_fRg) := (codeB_ok cb_fRg).1
  have ZxL : XC P w K mg xL "InvalidLevels" "given" := xc_mk eL jL (PySem.W.mg_of X G n_xL) (fun base => ok_init F_iL scXL rfl (by decide +kernel) (by decide +kernel) (by decide) (by decide)) (fun s v u _ => .of_eq rfl) (fun s v u _ => .of_eq rfl)
  have ZxA : XC P w K mg xA "InvalidLamps" "index" := xc_mk eA jA (PySem.W.mg_of X G n_xA) (fun base => ok_init F_iA scXA rfl (by decide +kernel) (by decide +kernel) (by decide) (by decide)) (fun s v u _ => .of_eq rfl) (fun s v u _ => .of_eq rfl)
  have ZxN : XC P w K mg xN "InvalidNumber" "given" := xc_mk eN jN (PySem.W.mg_of X G n_xN) (fun base => ok_init F_iN scXN rfl (by decide +kernel) (by decide +kernel) (by decide) (by decide)) (fun s v u _ => .of_eq rfl) (fun s v u _ => .of_eq rfl)
  have ZxT : XC P w K mg xT "InvalidText" "given" := xc_mk eT jT (PySem.W.mg_of X G n_xT) (fun base => ok_init F_iT scXT rfl (by decide +kernel) (by decide +kernel) (by decide) (by decide)) (fun s v u _ => .of_eq rfl) (fun s v u _ => .of_eq rfl)
  have HxT : XH P w K mg xT "InvalidText" "given" := xh_mk ZxT jT (fun base => ok_initH F_iT scXT rfl (by decide +kernel) (by decide +kernel) (by decide) (by decide)) (fun s v u _ => .of_eq rfl)
  have Nm : NmT mg cA cB cC xT := ⟨PySem.W.mg_of X G n_cA, PySem.W.mg_of X G n_cB, PySem.W.mg_of X G n_cC, PySem.W.mg_of X G n_xT, (none (n := "ValueError") (by decide +kernel)), (none (n := "LookupError") (by decide +kernel)), (none (n := "ArithmeticError") (by decide +kernel))⟩
  have d_fII : Dr P w K mg base (spIsInt K) "is_integer" ["value"] 1 := ⟨⟨fII, _, ok_isInt F_fII (none (n := "isinstance") (by decide +kernel)) (none (n := "int") (by decide +kernel)) (none (n := "bool") (by decide +kernel)), b_fII, m_fII, kf_fII⟩⟩
  have d_fIL : Dr P w K mg base (spIsLevels K) "is_levels" ["value"] 2 := ⟨⟨fIL, _, ok_isLevels F_fIL d_fII mLv four, b_fIL, m_fIL, kf_fIL⟩⟩
  have d_fIM : Dr P w K mg base (spIsLamp K) "is_lamp" ["levels", "value"] 2 := ⟨⟨fIM, _, ok_isLamp F_fIM d_fII (none (n := "isinstance") (by decide +kernel)) (none (n := "tuple") (by decide +kernel)) (none (n := "len") (by decide +kernel)), b_fIM, m_fIM, kf_fIM⟩⟩
  have d_fWL : Dr P w K mg base (spWrong K) "wrong_lamp" ["levels", "lamps"] 3 := ⟨⟨fWL, _, ok_wrong F_fWL d_fIM (none (n := "enumerate") (by decide +kernel)), b_fWL, m_fWL, kf_fWL⟩⟩
  have d_fRI : Dr P w K mg base spReadInt "read_integer" ["word"] 1 := ⟨⟨fRI, _, ok_readInt F_fRI (none (n := "int") (by decide +kernel)) (none (n := "str") (by decide +kernel)), b_fRI, m_fRI, kf_fRI⟩⟩
  have d_fRL : Dr P w K mg base spReadLamp "read_lamp" ["word"] 2 := ⟨⟨fRL, _, ok_readLamp F_fRL d_fRI, b_fRL, m_fRL, kf_fRL⟩⟩
  have d_fRS : Dr P w K mg base spReadLamps "read_lamps" ["words"] 3 := ⟨⟨fRS, _, ok_readLamps F_fRS d_fRL (none (n := "len") (by decide +kernel)) (none (n := "tuple") (by decide +kernel)), b_fRS, m_fRS, kf_fRS⟩⟩
  have d_fRP : Dr P w K mg base spReadParts "read_parts" ["text"] 4 := ⟨⟨fRP, _, ok_readParts F_fRP d_fRI d_fRS (none (n := "len") (by decide +kernel)), b_fRP, m_fRP, kf_fRP⟩⟩
  have gI : FnOk P w K mg base (L2N.CX P w) 4 gIn _ ["self", "levels", "lamps", "end"] (spInitX K C xL xA xN) := ok_initX F_gIn R d_fII d_fIL d_fWL ZxL ZxA ZxN yL yA yN mML (none (n := "isinstance") (by decide +kernel)) (none (n := "tuple") (by decide +kernel)) (none (n := "len") (by decide +kernel))
  have M : MkX P w K mg base C xL xA xN := ⟨⟨gIn, _, ⟨hmakes, fm_gIn, if_gIn, hkeep⟩, gI, b_gIn, fun s x u1 u2 u3 => .of_eq rfl⟩⟩
  have gR : FnOk P w K mg base (L2.CX P w) 6 gRd _ ["cls", "text"] (spRd K C xT) := ok_rd F_gRd M d_fRP HxT yT (PySem.W.mg_of X G n_xL) (PySem.W.mg_of X G n_xA) xmL xmA (none (n := "isinstance") (by decide +kernel)) (none (n := "str") (by decide +kernel))
  have Rd : RdX P w K mg base C xT := ⟨⟨.type "type", p_gRd, gRd, _, ⟨crd_gRd, cga_gRd⟩, ⟨ca_gRd, ⟨_, cr_gRd⟩, cf2_gRd⟩, gR, b_gRd⟩⟩
  have Lv : PrR P w K mg base C "levels" (spLv C) 1 := ⟨⟨p_gLv, gLv, _, ⟨pa_gLv, pg_gLv, pt_gLv, ⟨_, pr_gLv⟩⟩, ok_lv F_gLv R, b_gLv⟩⟩
  have La : PrR P w K mg base C "lamps" (spLa C) 1 := ⟨⟨p_gLa, gLa, _, ⟨pa_gLa, pg_gLa, pt_gLa, ⟨_, pr_gLa⟩⟩, ok_la F_gLa R, b_gLa⟩⟩
  have En : PrR P w K mg base C "end" (spEn C) 1 := ⟨⟨p_gEn, gEn, _, ⟨pa_gEn, pg_gEn, pt_gEn, ⟨_, pr_gEn⟩⟩, ok_en F_gEn R, b_gEn⟩⟩
  have d_fCa : Dr P w K mg base spCast "_law_cast" ["_law_pail", "_law_many"] 1 := ⟨⟨fCa, _, ok_cast F_fCa (none (n := "int") (by decide +kernel)) (none (n := "divmod") (by decide +kernel)), b_fCa, m_fCa, kf_fCa⟩⟩
  have d_fBe : Dr P w K mg base (spBegun K) "_law_begun" ["_law_script", "_law_turn"] 1 := ⟨⟨fBe, _, ok_begun F_fBe (none (n := "int") (by decide +kernel)) (none (n := "len") (by decide +kernel)) (none (n := "abs") (by decide +kernel)), b_fBe, m_fBe, kf_fBe⟩⟩
  have gCa : FnOk P w K mg base CX0 1 fCa _ _ spCast := ok_cast F_fCa (none (n := "int") (by decide +kernel)) (none (n := "divmod") (by decide +kernel))
  have d_fAn : Dr P w K mg base spAny "_law_any_of" ["_law_pail", "_law_some"] 2 := ⟨⟨fAn, _, ok_any F_fAn gCa b_fCa m_fCa kf_fCa (none (n := "len") (by decide +kernel)), b_fAn, m_fAn, kf_fAn⟩⟩
  have gAn : FnOk P w K mg base CX0 2 fAn _ _ spAny := ok_any F_fAn gCa b_fCa m_fCa kf_fCa (none (n := "len") (by decide +kernel))
  have d_fVa : Dr P w K mg base spVast "_law_vast" ["_law_pail", "_law_many"] 2 := ⟨⟨fVa, _, ok_vast F_fVa d_fCa (none (n := "int") (by decide +kernel)) (none (n := "range") (by decide +kernel)), b_fVa, m_fVa, kf_fVa⟩⟩
  have d_fPl : Dr P w K mg base spPlace "_law_place" ["_law_pail"] 3 := ⟨⟨fPl, _, ok_place F_fPl d_fCa d_fVa, b_fPl, m_fPl, kf_fPl⟩⟩
  have d_fPc : Dr P w K mg base (spPicture K) "_law_picture" ["_law_pail", "_law_p", "_law_many"] 4 := ⟨⟨fPc, _, ok_picture F_fPc d_fCa d_fPl (none (n := "range") (by decide +kernel)) (none (n := "tuple") (by decide +kernel)) (none (n := "sorted") (by decide +kernel)) (none (n := "list") (by decide +kernel)), b_fPc, m_fPc, kf_fPc⟩⟩
  have d_fPa : Dr P w K mg base (spParts K) "_law_parts" ["_law_pail"] 5 := ⟨⟨fPa, _, ok_parts F_fPa d_fAn d_fPl d_fPc, b_fPa, m_fPa, kf_fPa⟩⟩
  have d_fSh : Dr P w K mg base (spSheet K) "_law_sheet" ["_law_parts_here"] 1 := ⟨⟨fSh, _, ok_sheet F_fSh (none (n := "str") (by decide +kernel)), b_fSh, m_fSh, kf_fSh⟩⟩
  have d_fTh : Dr P w K mg base (spThing K) "_law_thing" ["_law_pail"] 3 := ⟨⟨fTh, _, ok_thing F_fTh gAn b_fAn m_fAn kf_fAn, b_fTh, m_fTh, kf_fTh⟩⟩
  have d_fBn : Dr P w K mg base spBentS "_law_bent_said" ["_law_pail", "_law_said"] 3 := ⟨⟨fBn, _, ok_bentS F_fBn d_fCa d_fAn (none (n := "len") (by decide +kernel)), b_fBn, m_fBn, kf_fBn⟩⟩
  have d_fFg : Dr P w K mg base spFigure "_law_figure" ["_law_word"] 1 := ⟨⟨fFg, _, ok_figure F_fFg (none (n := "int") (by decide +kernel)) (none (n := "str") (by decide +kernel)), b_fFg, m_fFg, kf_fFg⟩⟩
  have d_fWh : Dr P w K mg base (spIsInt K) "_law_is_whole" ["_law_value"] 1 := ⟨⟨fWh, _, ok_whole F_fWh (none (n := "isinstance") (by decide +kernel)) (none (n := "int") (by decide +kernel)) (none (n := "bool") (by decide +kernel)), b_fWh, m_fWh, kf_fWh⟩⟩
  have d_fLv : Dr P w K mg base (spIsLv K) "_law_is_levels" ["_law_value"] 2 := ⟨⟨fLv, _, ok_isLv F_fLv d_fWh, b_fLv, m_fLv, kf_fLv⟩⟩
  have d_fWr : Dr P w K mg base (spWrongs K) "_law_wrong_lamps" ["_law_p", "_law_value"] 2 := ⟨⟨fWr, _, ok_wrongs F_fWr d_fWh (none (n := "isinstance") (by decide +kernel)) (none (n := "tuple") (by decide +kernel)) (none (n := "len") (by decide +kernel)) (none (n := "range") (by decide +kernel)), b_fWr, m_fWr, kf_fWr⟩⟩
  have d_fLr : Dr P w K mg base (spLRead K) "_law_read" ["_law_said"] 3 := ⟨⟨fLr, _, ok_lread F_fLr d_fFg d_fLv d_fWr (none (n := "len") (by decide +kernel)) (none (n := "tuple") (by decide +kernel)), b_fLr, m_fLr, kf_fLr⟩⟩
  have gSo := ok_sort (P := P) (w := w) (base := base) F_fSo Gm Nm DT (none (n := "isinstance") (by decide +kernel)) (none (n := "repr") (by decide +kernel)) (none (n := "len") (by decide +kernel))
  have d_fTo : Dr P w K mg base (spTold C) "_law_told" ["_law_mine"] 3 := ⟨⟨fTo, _, ok_told F_fTo R Lv La En, b_fTo, m_fTo, kf_fTo⟩⟩
  have Aw : AnsR P w K mg base cA cB cC (spSort K xT) 2 := ansR_mk ⟨⟨fSo, _, gSo, b_fSo, m_fSo, kf_fSo⟩⟩ Nm.mA Nm.mB Nm.mC F_fAs b_fAs m_fAs kf_fAs
  have gRg := ok_right (T := [(tabA K cd_fLaw, qL), (tabA K cd_fRg, qR)]) F_fRg ca_fRg tb_fRg (by simp) (fun p hp e => by
    simp only [List.mem_cons, List.not_mem_nil, or_false] at hp
    rcases hp with rfl | rfl
    · exact absurd e cne
    · rfl) d_fPa d_fSh d_fBn d_fTh d_fCa d_fLr Aw d_fTo Rd mR mT (none (n := "range") (by decide +kernel)) (none (n := "repr") (by decide +kernel)) (none (n := "isinstance") (by decide +kernel)) (none (n := "str") (by decide +kernel))
  exact ok_law F_fLaw ca_fLaw tb_fLaw (by simp) (fun p hp e => by
    simp only [List.mem_cons, List.not_mem_nil, or_false] at hp
    rcases hp with rfl | rfl
    · rfl
    · exact absurd e.symm cne) gRg b_fRg m_fRg kf_fRg Aw Rd mR mT R La d_fBe (none (n := "range") (by decide +kernel)) (none (n := "len") (by decide +kernel)) (none (n := "repr") (by decide +kernel)) (none (n := "all") (by decide +kernel)) (none (n := "max") (by decide +kernel)) (none (n := "min") (by decide +kernel))
open PySem.W in
theorem walk {l : PySem.W.OpenLaw} {q : Program} {loose : List Str} {XP : (Str → Option Value) → Heap → Prop} {YP : World → Heap → Prop} {d : DefRec} {K : Params → PySem.W.Frag} (hn : l.most = some 63) (hdf : d.params.defaults = []) (hrec : ∀ x ∈ (["law", "_law_right"] : List Str), ((recsOf q).any fun e => e.name == x) = true) (hY : ∀ (w : World) (h : Heap), YP w h → (K w.params).In h)
    (F : ∀ (w : World) (mg : Str → Option Value) (fa : Addr) (h : Heap), (K w.params).In h → h.Ns mainGlobals mg → mg d.name = some (.ref fa) → ∃ (fd : FuncData) (cs : List (Addr × Addr)) (sp : Sp), (∀ p ∈ cs, TabOf (K w.params) mg ["law", "_law_right"] p) ∧ (∀ (s : Shared) (u : Value), BindsTo s fd ⟨[u], []⟩ [("_law_script", u)]) ∧
      (∀ (H : Hp) (a : Addr) (ns : List Int), ns.length ≤ 63 → (∀ z ∈ ns, Builtin.Int.intBits z ≤ 1048576) → (∀ p ∈ cs, H p.2 = some (.tbl #[])) → SqL (K w.params) H a (ns.map V.int) → sp [.ref a] H (fun v _ => v = .bl true) E0) ∧
        ∀ base : Heap, (K w.params).In base → base.Ns mainGlobals mg → (∀ p ∈ cs, TabB base mg p.1 p.2) → FnG l.prog w (K w.params) mg base 11 fa fd ["_law_script"] sp) : PySem.W.WalkO q loose XP YP l.row.toRowW d [] (fun f vs => PySem.call f vs) :=
  walk_ofGT (n := 63) (k := 11) (x := "_law_script") ["law", "_law_right"] hn (by decide) hdf ⟨rfl, by decide, by decide⟩ hrec hY F
end Lamp
set_option Elab.async false
open PySem PySem.W PyProof.Rows
set_option maxRecDepth 100000 in
set_option maxHeartbeats 0 in
theorem PySem.Challenge.cw_lamprounds_k05_whole_texts_judged_holds : PySem.Challenge.rw_lamprounds_k05_whole_texts_judged.Holds := by
  w_on; o_law; k_head; (case hw => w_witness2)
  k_fill
  refine Lamp.walk (l := PySem.Challenge.rw_lamprounds_k05_whole_texts_judged) rfl rfl ?hrec (fun w h Y => PySem.W.km_in_of Y) ?F
  (case hrec => decide +kernel)
  case F =>
    intro w mg fa h KX G hmg
    refine' Lamp.all_mk KX G hmg ?nC ?n_xL ?n_xA ?n_xN ?n_xT ?n_cA ?n_cB ?n_cC ?nf_fRI ?lf_fRI ?cf_fRI ?kf_fRI ?nf_fRL ?lf_fRL ?cf_fRL ?kf_fRL ?nf_fRS ?lf_fRS ?cf_fRS ?kf_fRS ?nf_fRP ?lf_fRP ?cf_fRP ?kf_fRP ?nf_fII ?lf_fII ?cf_fII ?kf_fII ?nf_fIL ?lf_fIL ?cf_fIL ?kf_fIL ?nf_fIM ?lf_fIM ?cf_fIM ?kf_fIM ?nf_fWL ?lf_fWL ?cf_fWL ?kf_fWL ?nf_fBe ?lf_fBe ?cf_fBe ?kf_fBe ?nf_fCa ?lf_fCa ?cf_fCa ?kf_fCa ?nf_fAn ?lf_fAn ?cf_fAn ?kf_fAn ?nf_fVa ?lf_fVa ?cf_fVa ?kf_fVa ?nf_fAs ?lf_fAs ?cf_fAs ?kf_fAs ?nf_fWh ?lf_fWh ?cf_fWh ?kf_fWh ?nf_fFg ?lf_fFg ?cf_fFg ?kf_fFg ?nf_fPl ?lf_fPl ?cf_fPl ?kf_fPl ?nf_fPc ?lf_fPc ?cf_fPc ?kf_fPc ?nf_fPa ?lf_fPa ?cf_fPa ?kf_fPa ?nf_fSh ?lf_fSh ?cf_fSh ?kf_fSh ?nf_fTh ?lf_fTh ?cf_fTh ?kf_fTh ?nf_fLv ?lf_fLv ?cf_fLv ?kf_fLv ?nf_fWr ?lf_fWr ?cf_fWr ?kf_fWr ?nf_fLr ?lf_fLr ?cf_fLr ?kf_fLr ?nf_fBn ?lf_fBn ?cf_fBn ?kf_fBn ?nf_fSo ?lf_fSo ?cf_fSo ?kf_fSo ?nf_fRg ?lf_fRg ?cf_fRg ?kf_fRg ?nf_fTo ?lf_fTo ?cf_fTo ?kf_fTo ?nf_fLaw ?lf_fLaw ?cf_fLaw ?kf_fLaw ?fm_gIn ?lf_gIn ?cf_gIn ?kf_gIn ?if_gIn ?fm_iL ?lf_iL ?cf_iL ?kf_iL ?if_iL ?fm_iN ?lf_iN ?cf_iN ?kf_iN ?if_iN ?fm_iA ?lf_iA ?cf_iA ?kf_iA ?if_iA ?fm_iT ?lf_iT ?cf_iT ?kf_iT ?if_iT ?pa_gLv ?pr_gLv ?pg_gLv ?pt_gLv ?lf_gLv ?cf_gLv ?kf_gLv ?pa_gLa ?pr_gLa ?pg_gLa ?pt_gLa ?lf_gLa ?cf_gLa ?kf_gLa ?pa_gEn ?pr_gEn ?pg_gEn ?pt_gEn ?lf_gEn ?cf_gEn ?kf_gEn ?ca_gRd ?cr_gRd ?cf2_gRd ?crd_gRd ?cga_gRd ?lf_gRd ?cf_gRd ?kf_gRd ?nL ?lL ?nM ?all
    (case nC => k_is)
    (case n_xL => k_is)
    (case n_xA => k_is)
    (case n_xN => k_is)
    (case n_xT => k_is)
    (case n_cA => k_is)
    (case n_cB => k_is)
    (case n_cC => k_is)
    (case nf_fRI => k_is)
    (case lf_fRI => k_is)
    (case cf_fRI => k_is)
    (case kf_fRI => k_is)
    (case nf_fRL => k_is)
    (case lf_fRL => k_is)
    (case cf_fRL => k_is)
    (case kf_fRL => k_is)
    (case nf_fRS => k_is)
    (case lf_fRS => k_is)
    (case cf_fRS => k_is)
    (case kf_fRS => k_is)
    (case nf_fRP => k_is)
    (case lf_fRP => k_is)
    (case cf_fRP => k_is)
    (case kf_fRP => k_is)
    (case nf_fII => k_is)
    (case lf_fII => k_is)
    (case cf_fII => k_is)
    (case kf_fII => k_is)
    (case nf_fIL => k_is)
    (case lf_fIL => k_is)
    (case cf_fIL => k_is)
    (case kf_fIL => k_is)
    (case nf_fIM => k_is)
    (case lf_fIM => k_is)
    (case cf_fIM => k_is)
    (case kf_fIM => k_is)
    (case nf_fWL => k_is)
    (case lf_fWL => k_is)
    (case cf_fWL => k_is)
    (case kf_fWL => k_is)
    (case nf_fBe => k_is)
    (case lf_fBe => k_is)
    (case cf_fBe => k_is)
    (case kf_fBe => k_is)
    (case nf_fCa => k_is)
    (case lf_fCa => k_is)
    (case cf_fCa => k_is)
    (case kf_fCa => k_is)
    (case nf_fAn => k_is)
    (case lf_fAn => k_is)
    (case cf_fAn => k_is)
    (case kf_fAn => k_is)
    (case nf_fVa => k_is)
    (case lf_fVa => k_is)
    (case cf_fVa => k_is)
    (case kf_fVa => k_is)
    (case nf_fAs => k_is)
    (case lf_fAs => k_is)
    (case cf_fAs => k_is)
    (case kf_fAs => k_is)
    (case nf_fWh => k_is)
    (case lf_fWh => k_is)
    (case cf_fWh => k_is)
    (case kf_fWh => k_is)
    (case nf_fFg => k_is)
    (case lf_fFg => k_is)
    (case cf_fFg => k_is)
    (case kf_fFg => k_is)
    (case nf_fPl => k_is)
    (case lf_fPl => k_is)
    (case cf_fPl => k_is)
    (case kf_fPl => k_is)
    (case nf_fPc => k_is)
    (case lf_fPc => k_is)
    (case cf_fPc => k_is)
    (case kf_fPc => k_is)
    (case nf_fPa => k_is)
    (case lf_fPa => k_is)
    (case cf_fPa => k_is)
    (case kf_fPa => k_is)
    (case nf_fSh => k_is)
    (case lf_fSh => k_is)
    (case cf_fSh => k_is)
    (case kf_fSh => k_is)
    (case nf_fTh => k_is)
    (case lf_fTh => k_is)
    (case cf_fTh => k_is)
    (case kf_fTh => k_is)
    (case nf_fLv => k_is)
    (case lf_fLv => k_is)
    (case cf_fLv => k_is)
    (case kf_fLv => k_is)
    (case nf_fWr => k_is)
    (case lf_fWr => k_is)
    (case cf_fWr => k_is)
    (case kf_fWr => k_is)
    (case nf_fLr => k_is)
    (case lf_fLr => k_is)
    (case cf_fLr => k_is)
    (case kf_fLr => k_is)
    (case nf_fBn => k_is)
    (case lf_fBn => k_is)
    (case cf_fBn => k_is)
    (case kf_fBn => k_is)
    (case nf_fSo => k_is)
    (case lf_fSo => k_is)
    (case cf_fSo => k_is)
    (case kf_fSo => k_is)
    (case nf_fRg => k_is)
    (case lf_fRg => k_is)
    (case cf_fRg => k_is)
    (case kf_fRg => k_is)
    (case nf_fTo => k_is)
    (case lf_fTo => k_is)
    (case cf_fTo => k_is)
    (case kf_fTo => k_is)
    (case nf_fLaw => k_is)
    (case lf_fLaw => k_is)
    (case cf_fLaw => k_is)
    (case kf_fLaw => k_is)
    (case fm_gIn => k_is)
    (case lf_gIn => k_is)
    (case cf_gIn => k_is)
    (case kf_gIn => k_is)
    (case if_gIn => k_is)
    (case fm_iL => k_is)
    (case lf_iL => k_is)
    (case cf_iL => k_is)
    (case kf_iL => k_is)
    (case if_iL => k_is)
    (case fm_iN => k_is)
    (case lf_iN => k_is)
    (case cf_iN => k_is)
    (case kf_iN => k_is)
    (case if_iN => k_is)
    (case fm_iA => k_is)
    (case lf_iA => k_is)
    (case cf_iA => k_is)
    (case kf_iA => k_is)
    (case if_iA => k_is)
    (case fm_iT => k_is)
    (case lf_iT => k_is)
    (case cf_iT => k_is)
    (case kf_iT => k_is)
    (case if_iT => k_is)
    (case pa_gLv => k_is)
    (case pr_gLv => k_is)
    (case pg_gLv => k_is)
    (case pt_gLv => k_is)
    (case lf_gLv => k_is)
    (case cf_gLv => k_is)
    (case kf_gLv => k_is)
    (case pa_gLa => k_is)
    (case pr_gLa => k_is)
    (case pg_gLa => k_is)
    (case pt_gLa => k_is)
    (case lf_gLa => k_is)
    (case cf_gLa => k_is)
    (case kf_gLa => k_is)
    (case pa_gEn => k_is)
    (case pr_gEn => k_is)
    (case pg_gEn => k_is)
    (case pt_gEn => k_is)
    (case lf_gEn => k_is)
    (case cf_gEn => k_is)
    (case kf_gEn => k_is)
    (case ca_gRd => k_is)
    (case cr_gRd => k_is)
    (case cf2_gRd => k_is)
    (case crd_gRd => k_is)
    (case cga_gRd => k_is)
    (case lf_gRd => k_is)
    (case cf_gRd => k_is)
    (case kf_gRd => k_is)
    (case nL => k_is)
    (case lL => k_is)
    (case nM => k_is)
    (case all => kernel_rfl)
