import PyProof.Rows.All
import Wide.All
import OpenK.AllK
import Wide.FinOn
import HandS.ForMost
import HandS.Wide
import HandS.WideBits
import HandS.EndBits
import HandS.Steps
import HandS.ExcInit
import KE.KExcLine
import KE.KExcIs
import HandS.ExcOwn
import HandS.ExcValue
import HandS.IsInst
import HandS.ExcField
import HandS.List
import HandS.More
import HandS.Dict
import HandS.Keys
import HandS.Call
import KE.KDictPairs
import HandS.Conv
import HandS.SortInts
import KE.GoesMore
import HandS.TupAny
import HandS.Text
import HandS.StrMore
import HandS.FStr
import KE.IntTextLaws
import HandS.Deep
import KE.KCallOwn
import HandS.Property
import HandS.ClsMeth
import HandS.MakeKwOnly
import HandS.RaiseMore
import HandS.NoneIn
import HandS.Comp
import HandS.OwnEq
import HandS.HotCalls
import KE.DataFind
import HandS.Lambda
import HandS.EndOwn
import HandS.Style
import HandS.WordsExc
import HandS.SortKw
import HandS.DeepEq
import HandS.Defaults
import PyProof.ExcBaseAll.LookupError
import PyProof.ExcBaseAll.ArithmeticError
import PyProof.ExcBaseAll.ValueError
import PySem.Challenge.RW_lamprounds_k20_doors_of_functions
set_option Elab.async false
set_option linter.all false
set_option maxRecDepth 100000
namespace Lamp
open PySem PySem.Spec PyProof.Rows L2
/-! A def's promise where it is known that no repr is under way. -/
structure FnG (P : Program) (w : World) (K : PySem.W.Frag) (mg : Str → Option Value) (base : Heap) (k : Nat) (f : Addr) (fd : FuncData) (ps : List Str) (sp : Sp) : Prop where
  many : ∀ vs H Q E, sp vs H Q E → vs.length = ps.length
  goes : ∀ (A : Around) (out : List Env) (s : Shared) (H : Hp) (ar : Args) (us : List Value) (vs : List V) (Q : VK) (E : XK), A.guards = some [] → Room k A → Env0 P w K mg base A out s H →
    BindsTo s fd ar (ps.zip us) → Vals vs us → sp vs H Q E → codeAny (model P w) A (.call (.ref f) ar) (CR CX0 out P w H s Q E) s
section
variable {P : Program} {w : World} {K : PySem.W.Frag} {mg : Str → Option Value} {base : Heap}
theorem FnG.of {k : Nat} {f : Addr} {fd : FuncData} {ps : List Str} {sp : Sp} (F : FnOk P w K mg base CX0 k f fd ps sp) : FnG P w K mg base k f fd ps sp :=
  ⟨F.len, fun A out s H ar us vs Q E _ hr he hb hv hs => F.run A out s H ar us vs Q E hr he hb hv hs⟩
theorem FnG.up {j k : Nat} {f : Addr} {fd : FuncData} {ps : List Str} {sp : Sp} (F : FnG P w K mg base j f fd ps sp) (h : j ≤ k) : FnG P w K mg base k f fd ps sp :=
  ⟨F.many, fun A out s H ar us vs Q E hg hr he hb hv hs => F.goes A out s H ar us vs Q E hg (hr.mono h) he hb hv hs⟩
/-- the rule for a def, by its body -/
theorem okG {x qual : Str} {st : Stmt} {f : Addr} {fd : FuncData} {N ps : List Str} {k : Nat} {sp : Sp} (F : Fun K x qual st f fd) (S : FnScope N ps (defScope st)) (len : ∀ vs H Q E, sp vs H Q E → vs.length = ps.length)
    (hbody : ∀ (cdv : Value) (A : Around) (outer : List Env) (s : Shared) (H : Hp) (vs : List V) (Q : VK) (E : XK), A.guards = some [] → Room k (A.deeper (envOfC qual (defScope st) s.heap.objs.size f cdv)) → sp vs H Q E →
      ∃ t, PSs (cxOf CX0 P w K mg base N qual (defScope st) f cdv A outer s H E).nox (defBody st) t ∧ t { nx := fun _ H' => Q .non H', rt := Q } (start N vs) H) : FnG P w K mg base (k + 1) f fd ps sp := by
  obtain ⟨oc, od, kV, doc, pm, an, cdv, ct, osl, efd, hlk, hcode⟩ := F.ex
  subst efd
  refine ⟨len, fun A out s H ar us vs Q E hgd hroom hst hbind hvals hs => ?_⟩
  have hcount := len _ _ _ _ hs
  have inK : K.In s.heap := hst.mod.kin.keeps fun b o e => (hst.bs b o e).1
  have noLim : s.heap.NoLimit := hst.mod.nolimit.keeps fun b o e => (hst.bs b o e).1
  refine codeAny_call_function hroom.depth (inK _ _ hlk) rfl S.co S.gen rfl (PySem.W.codeRec_of inK hcode) (hbind _ _ _ _ ?_)
  refine wpAny_newFunctionEnv_cells S.kind (fun y hy => ?_) fun env eenv s1 xin => ?_
  · obtain ⟨nm, val⟩ := y
    cases S.par nm (List.of_mem_zip hy).1 with
    | inl isLocal => exact .inl isLocal
    | inr isCell => exact .inr ⟨isCell, PySem.W.cellsFrom_some _ _ _ (.inl isCell)⟩
  subst eenv
  refine ⟨noLim.keeps xin.toInCall.keep, codeAny_func ?_⟩
  obtain ⟨t, ht0, hq⟩ := hbody cdv A out s H vs Q E hgd (hroom.deeper _) hs
  have ht := ht0.nox
  have inv0 : Inv (cxOf CX0 P w K mg base N qual (defScope st) f cdv A out s H E) [] (start N vs) H s1 := inv_start S hroom.hd hst hcount hvals xin
  have fin : ∀ {σ' : L2.St} {H' : Hp} {v : V} {u : Value} {s' : Shared}, Inv (cxOf CX0 P w K mg base N qual (defScope st) f cdv A out s H E) [] σ' H' s' → RelV v u → Q v H' → CE out P w H s Q u s' := fun J rv q => ⟨_, _, J.os, J.bare, J.base, J.hok, rv, q⟩
  refine wpAny_mono (ht.run [] s1 (start N vs) H _ inv0 hq) (fun flow s' told => ?_) fun e s' told => told
  match flow, told with
  | .ret u, ⟨v, σ', H', J, rv, q⟩ => exact fin J rv q
  | .next, ⟨σ', H', J, q⟩ => exact fin (v := V.non) (u := Value.none) J rfl q
  | .brk, ⟨_, _, _, q⟩ => exact False.elim q
  | .cont, ⟨_, _, _, q⟩ => exact False.elim q
end
section
variable {X : Cx} {k : Nat} {f : Addr} {fd : FuncData} {ps : List Str} {sp : Sp} {dvs : List V} {ds : List Value} {x : Str} {p pos : Pos} {e : Expr} {es : List Expr} {t : TA}
theorem runG {pins : List (Addr × Obj)} {σ : L2.St} {H : Hp} {s : Shared} {Q : VK} {us : List Value} {vs : List V} (F : FnG X.prog X.w X.K X.mg X.base k f fd ps sp) (hgd : X.A.guards = some []) (hr : Room k X.A) (hb : Binds X.K fd ps [])
    (I : Inv X pins σ H s) (r : Vals vs us) (h : sp vs H Q E0) : wpAny (model X.prog X.w) X.A (call (.ref f) us) (EP X pins σ Q) X.xe s := by
  have hl : (us ++ []).length = ps.length := by rw [List.append_nil, ← r.length]; exact F.many _ _ _ _ h
  have hbb := hb s us I.kIn hl
  rw [List.append_nil] at hbb
  refine wpAny_call (codeAny_mono (F.goes X.A X.stack s H ⟨us, []⟩ us vs Q E0 hgd hr I.env0 hbb r h) fun res s' told => ?_)
  match res, told with
  | .error _, told => exact False.elim told
  | .ok (.ret u), told => exact I.after told
  | .ok .next, told => exact False.elim told
  | .ok .brk, told => exact False.elim told
  | .ok .cont, told => exact False.elim told
/-- f(e, ..) -/
def tCallG (sp : Sp) (t : TA) : TE := fun σ H Q => t σ H fun vs H1 => sp vs H1 Q E0
theorem pe_callG (F : FnG X.prog X.w X.K X.mg X.base k f fd ps sp) (hgd : X.A.guards = some []) (hr : Room k X.A) (hg : Gl X x) (hm : X.mg x = some (.ref f)) (hk : PySem.W.keepIn X.K (.ref f) = true) (hb : Binds X.K fd ps [])
    (ha : PA X (e :: es) t) (hdb : (x == ("__debug__" : Str)) = false := by decide) (he : starEach (e :: es) X.env = (false, eval e X.env) :: starEach es X.env := by rfl) (hpl : (backTo pos (starEach es X.env)).any (·.1) = false := by rfl) :
    PE X (.Call (.Name x p) (e :: es) [] pos) (tCallG sp t) :=
  ⟨fun pins s σ H Q I h => wpAny_Call_Name_kw (ld_glob I hg hm (PySem.W.callWith_K (h₀ := X.base) I.ok.mod.kin hk (thn (ha.run pos pins s σ H _ I h) fun us s1 ⟨vs, H1, I1, r, q⟩ =>
    ⟨I1.kIn, runG F hgd hr hb I1 r q⟩) he hpl) hdb)⟩
end
/-! the law's own call, from its promise -/
theorem law_goes {P : Program} {w : World} {K : PySem.W.Frag} {mg mb : Str → Option Value} {k : Nat} {fa a : Addr} {fd : FuncData} {x : Str} {sp : Sp} {sh : Shared} {vs : List Value} {ns : List Int} {H : Hp}
    (inK : K.In sh.heap) (nsG : sh.heap.Ns mainGlobals mg) (nsB : sh.heap.Ns builtinsNs mb) (bltn : ∀ x : Str, x ≠ "__name__" → mb x = bootBuiltins x) (noLim : sh.heap.NoLimit) (noGen : sh.gens = #[])
    (there : sh.heap.get? a = some { cls := .type "list", data := .seq vs.toArray }) (room : Room k callerA)
    (F : ∀ base : Heap, K.In base → base.Ns mainGlobals mg → FnG P w K mg base k fa fd [x] sp) (hbind : ∀ (s : Shared) (u : Value), BindsTo s fd ⟨[u], []⟩ [(x, u)])
    (asked : sp [.ref a] H (fun v _ => v = .bl true) E0) (only : Only H) (hok : HOk P w H sh.heap) (alone : ∀ b u, H b = some u → b = a ∧ K.lookup a = none) :
    codeAny (model P w) callerA (.call (.ref fa) ⟨[.ref a], []⟩) (fun r s' => r = .ok (.ret (.bool true)) ∧ OldK sh.heap s'.heap ∧ s'.os = sh.os ∧ AllBare s'.gens) sh := by
  have untold : ∀ {b : Addr} {o : Obj}, sh.heap.get? b = some o → (b = a → o.cls ≠ .type "list") → H b = none := fun {b o} e ne => by
    cases q : H b with
    | none => rfl
    | some u =>
      have eb := (alone b u q).1
      subst eb
      rw [there] at e
      cases e
      exact absurd rfl (ne rfl)
  have nsKeep : ∀ {b : Addr} {m : Str → Option Value}, sh.heap.Ns b m → (hidT sh.heap H).Ns b m := fun {b m} told => by
    obtain ⟨o, es, ep, e, d, r⟩ := told
    refine ⟨o, es, ep, hidT_get e ?_, d, r⟩
    cases q : H b with
    | none => rfl
    | some u =>
      have eb := (alone b u q).1
      subst eb
      rw [there] at e
      cases e
      exact Data.noConfusion d
  have inK' : K.In (hidT sh.heap H) := fun b o e => hidT_get (inK b o e) (by
    cases q : H b with
    | none => rfl
    | some u =>
      obtain ⟨eb, none⟩ := alone b u q
      rw [eb, none] at e
      cases e)
  obtain ⟨mc, lim1, lim2⟩ := noLim
  have start0 : Env0 P w K mg (hidT sh.heap H) callerA [] sh H :=
    { frames := rfl, mod := ⟨inK', nsKeep nsG, ⟨mb, nsKeep nsB, bltn⟩, ⟨mc, nsKeep lim1, lim2⟩⟩, bs := fun b o e => of_hidT e, bsz := Nat.le_of_eq (hidT_size _ _), funs := trivial, frf := (fun b hb => nomatch hb), hok := hok, bare := .of_eq noGen }
  refine codeAny_mono ((F _ inK' (nsKeep nsG)).goes callerA [] sh H ⟨[.ref a], []⟩ [.ref a] [.ref a] _ _ rfl room start0 (hbind sh (.ref a)) (.cons rfl .nil) asked) fun res s' told => ?_
  match res, told with
  | .error _, told => exact False.elim told
  | .ok .next, told => exact False.elim told
  | .ok .brk, told => exact False.elim told
  | .ok .cont, told => exact False.elim told
  | .ok (.ret u), ⟨v, H', os, bare, un, hok', rv, ev⟩ =>
    have ev' : v = .bl true := ev
    subst ev'
    have eu : u = Value.bool true := rv
    subst eu
    refine ⟨rfl, OldK.of_keep fun b o e => ?_, os, bare⟩
    rcases only b with none | ⟨ob, xs, froz⟩
    · exact un.keep b o e none (fun z => nomatch z) (fun z => nomatch z)
    · have old := (hok b _ froz).1
      have new := (hok' b _ (un.frzs b ob _ froz)).1
      rw [e] at old
      cases old
      exact new
theorem law_goes2 {P : Program} {w : World} {K : PySem.W.Frag} {mg mb : Str → Option Value} {k : Nat} {fa a : Addr} {fd : FuncData} {x : Str} {sp : Sp} {sh : Shared} {vs : List Value} {ns : List Int}
    (inK : K.In sh.heap) (nsG : sh.heap.Ns mainGlobals mg) (nsB : sh.heap.Ns builtinsNs mb) (bltn : ∀ x : Str, x ≠ "__name__" → mb x = bootBuiltins x) (noLim : sh.heap.NoLimit) (noGen : sh.gens = #[])
    (there : sh.heap.get? a = some { cls := .type "list", data := .seq vs.toArray }) (areInts : IntsAre vs ns) (short : ns.length ≤ sizeLine) (room : Room k callerA)
    (F : ∀ base : Heap, K.In base → base.Ns mainGlobals mg → FnG P w K mg base k fa fd [x] sp) (hbind : ∀ (s : Shared) (u : Value), BindsTo s fd ⟨[u], []⟩ [(x, u)])
    (asked : ∀ H : Hp, Only H → SqL K H a (ns.map V.int) → sp [.ref a] H (fun v _ => v = .bl true) E0) :
    codeAny (model P w) callerA (.call (.ref fa) ⟨[.ref a], []⟩) (fun r s' => r = .ok (.ret (.bool true)) ∧ OldK sh.heap s'.heap ∧ s'.os = sh.os ∧ AllBare s'.gens) sh := by
  have vals := vals_ints areInts
  have same := areInts.length
  cases look : K.lookup a with
  | some o =>
    have e := inK a o look
    rw [there] at e
    cases e
    have on : Only fun _ => none := fun _ => .inl rfl
    exact law_goes (ns := ns) inK nsG nsB bltn noLim noGen there room F hbind (asked _ on (.inr ⟨_, vs.toArray, _, look, rfl, rfl, rfl, by rw [List.size_toArray, same]; exact short, vals⟩)) on (fun b u z => nomatch z) (fun b u z => nomatch z)
  | none =>
    let held : HO := .frz { cls := .type "list", data := .seq vs.toArray } (.lst (ns.map V.int))
    have at_ : ∀ b, b = a → (fun c => if c = a then some held else none : Hp) b = some held := fun b e => if_pos e
    have off : ∀ b, b ≠ a → (fun c => if c = a then some held else none : Hp) b = none := fun b e => if_neg e
    have on : Only fun c => if c = a then some held else none := fun b => by
      by_cases eb : b = a
      · exact .inr ⟨_, _, at_ b eb⟩
      · exact .inl (off b eb)
    refine law_goes (ns := ns) inK nsG nsB bltn noLim noGen there room F hbind (asked _ on (.inl (.inr ⟨_, at_ a rfl⟩))) on (fun b u z => ?_) (fun b u z => ?_)
    · by_cases eb : b = a
      · subst eb
        have z2 := (at_ b rfl).symm.trans z
        cases z2
        exact ⟨there, by rw [List.length_map]; exact short, vs, _, vals, there⟩
      · have z2 := (off b eb).symm.trans z
        cases z2
    · by_cases eb : b = a
      · exact ⟨eb, look⟩
      · have z2 := (off b eb).symm.trans z
        cases z2
open PySem.W in
theorem walk_ofG {l : PySem.W.OpenLaw} {n k : Nat} {q : Program} {loose : List Str} {XP : (Str → Option Value) → Heap → Prop} {YP : World → Heap → Prop} {d : DefRec} {K : Params → PySem.W.Frag} {sp : World → Sp} {x : Str}
    (hn : l.most = some n) (hn2 : n ≤ sizeLine) (hdf : d.params.defaults = []) (hr : Room k callerA) (hY : ∀ (w : World) (h : Heap), YP w h → (K w.params).In h)
    (F : ∀ (w : World) (mg : Str → Option Value) (fa : Addr) (h : Heap), (K w.params).In h → h.Ns mainGlobals mg → mg d.name = some (.ref fa) → ∃ fd : FuncData, (∀ (s : Shared) (u : Value), BindsTo s fd ⟨[u], []⟩ [(x, u)]) ∧
        ∀ base : Heap, (K w.params).In base → base.Ns mainGlobals mg → FnG l.prog w (K w.params) mg base k fa fd [x] (sp w))
    (hsp : ∀ (w : World) (H : Hp) (a : Addr) (ns : List Int), ns.length ≤ n → (∀ z ∈ ns, Builtin.Int.intBits z ≤ 1048576) → Only H → SqL (K w.params) H a (ns.map V.int) → sp w [.ref a] H (fun v _ => v = .bl true) E0) :
    PySem.W.WalkO q loose XP YP l.row.toRowW d [] (fun f vs => PySem.call f vs) :=
  Att.attach_callB hn hdf fun w s₀ s₁ mg mb fa o pm cd doc a vs ns G Y ho hd hcd hmg hobj hints hlen hbits hg => by
    obtain ⟨fd, hb, hF⟩ := F w mg fa _ (hY w _ Y) G.T.g hmg
    exact law_goes2 (hY w _ Y) G.T.g G.T.b G.T.builtins G.T.nolimit hg hobj hints (Nat.le_trans hlen hn2) hr hF hb fun H hO hS => hsp w H a ns hlen hbits hO hS
end Lamp
set_option Elab.async false
set_option linter.all false
set_option maxRecDepth 100000
namespace Lamp
open PySem PySem.Spec PyProof.Rows L2
/-! repr of data -/
mutual
theorem dp_nodict {K : PySem.W.Frag} {H : Hp} : ∀ (d : PyData) (v : V), Dp K H v d → d.hasDict = false
  | .none, _, _ => by simp only [PyData.hasDict]
  | .bool _, _, _ => by simp only [PyData.hasDict]
  | .int _, _, _ => by simp only [PyData.hasDict]
  | .str _, _, _ => by simp only [PyData.hasDict]
  | .list ds, _, h => by
    cases h with
    | lst hs ha => simpa only [PyData.hasDict] using dpAll_nodict ds _ ha
  | .tuple ds, _, h => by
    cases h with
    | tup hs ha => simpa only [PyData.hasDict] using dpAll_nodict ds _ ha
  | .dict _, _, h => by cases h
theorem dpAll_nodict {K : PySem.W.Frag} {H : Hp} : ∀ (ds : List PyData) (vs : List V), DpAll K H vs ds → PyData.hasDictAll ds = false
  | [], _, _ => by simp only [PyData.hasDictAll]
  | d :: ds, _, h => by
    cases h with
    | cons h1 h2 => simp only [PyData.hasDictAll, dp_nodict d _ h1, dpAll_nodict ds _ h2, Bool.or_self]
end
/-- the data of a scalar -/
def scalD : V → Option PyData
  | .non => some .none
  | .bl b => some (.bool b)
  | .int i => some (.int i)
  | .str x => some (.str x)
  | _ => none
def keyD : Key → PyData
  | .inl i => .int i
  | .inr x => .str x
/-- a value that shows as data: data without dicts, or a dict of scalars -/
inductive Dq (K : PySem.W.Frag) (H : Hp) : V → PyData → Prop
  | plain {v : V} {d : PyData} : Dp K H v d → Dq K H v d
  | dict {a : Addr} {kvs : List (Key × V)} {es : List (PyData × PyData)} : H a = some (.dK kvs) → kvs.map (fun p => (keyD p.1, scalD p.2)) = es.map (fun p => (p.1, some p.2)) → Dq K H (.ref a) (.dict es)
theorem scal_reads {h : Heap} {v : V} {u : Value} {d : PyData} (e : scalD v = some d) (r : RelV v u) : Reads h u d [] := by
  cases v with
  | non => cases e; cases r; exact .none
  | bl b => cases e; cases r; exact .bool b
  | int i => cases e; obtain ⟨t, rfl⟩ := r; exact .int i t
  | str x => cases e; obtain ⟨t, rfl⟩ := r; exact .str x t
  | byt _ => cases e
  | flt _ => cases e
  | ref _ => cases e
  | ty _ => cases e
theorem key_reads {h : Heap} {k : Key} {u : Value} (e : keyIs k u = true) : Reads h u (keyD k) [] := by
  rcases keyIs_shape e with ⟨i, t, rfl, rfl⟩ | ⟨x, t, rfl, rfl⟩
  · exact .int i t
  · exact .str x t
theorem entries_read {P : Program} {w : World} {h : Heap} : ∀ {ents : List DictEntry} {vs : List (Key × Value)} {kvs : List (Key × V)} {es : List (PyData × PyData)}, Pairs (mixKind P w) ents vs → KV kvs vs →
    kvs.map (fun p => (keyD p.1, scalD p.2)) = es.map (fun p => (p.1, some p.2)) → ReadsAll h (ents.map (·.key)) (es.map (·.1)) [] ∧ ReadsAll h (ents.map (·.val)) (es.map (·.2)) [] := by
  intro ents vs kvs es hp
  induction hp generalizing kvs es with
  | nil =>
    intro hk e
    cases hk
    cases es with
    | nil => exact ⟨.nil, .nil⟩
    | cons _ _ => cases e
  | @cons en kv ents vs hkey hval _ ih =>
    intro hk e
    cases hk with
    | @cons p _ kvs' _ hpq hrest =>
      obtain ⟨ek, ev⟩ := hpq
      cases es with
      | nil => cases e
      | cons q es' =>
        simp only [List.map_cons, List.cons.injEq, Prod.mk.injEq] at e
        obtain ⟨⟨e1, e2⟩, e3⟩ := e
        obtain ⟨r1, r2⟩ := ih hrest e3
        have hkey' : keyIs p.1 en.key = true := by rw [ek]; exact hkey
        have k1 : Reads h en.key q.1 [] := by rw [← e1]; exact key_reads hkey'
        have k2 : Reads h en.val q.2 [] := scal_reads e2 (by rw [hval]; exact ev)
        exact ⟨by simpa using ReadsAll.cons k1 r1, by simpa using ReadsAll.cons k2 r2⟩
theorem dq_reads {X : Cx} {pins : List (Addr × Obj)} {σ : L2.St} {H : Hp} {s : Shared} (I : Inv X pins σ H s) {v : V} {u : Value} {d : PyData} (h : Dq X.K H v d) (r : RelV v u) :
    ∃ as, Reads s.heap u d as ∧ (d.hasDict = true → sysModules ∉ as) := by
  cases h with
  | plain h =>
    obtain ⟨as, q⟩ := Dp.reads I d v u h r
    exact ⟨as, q, fun z => by rw [dp_nodict d v h] at z; cases z⟩
  | @dict a kvs es ha he =>
    have eu : u = Value.ref a := r
    subst eu
    obtain ⟨_, low, vs, hk, o, ents, ep, h1, h2, h3, _, h5, _⟩ := (show ObjOk X.prog X.w H s.heap a (.dK kvs) from I.hok a _ ha)
    obtain ⟨q1, q2⟩ := entries_read (h := s.heap) h5 hk he
    refine ⟨_, Reads.dict h1 h2.1 h3 q1 q2, fun _ hm => ?_⟩
    simp at hm
    rw [← hm] at low
    simp at low
/-- repr(x) of data -/
def rReprD (K : PySem.W.Frag) : List V → Hp → VK → Prop := fun xs H Q => ∃ v d, xs = [v] ∧ Dq K H v d ∧ d.showable = true ∧ d.depth ≤ 60 ∧ d.shown.length ≤ sizeLine ∧ Q (.str d.shown) H
theorem call_reprD {X : Cx} (hgd : X.A.guards = some []) (hu : X.A.units + 64 < cLine) : CallR X (.builtin "repr") (rReprD X.K) := by
  intro pins s σ H xs us Q I r h
  obtain ⟨v, d, rfl, hd, hs, hdep, hlen, q⟩ := h
  obtain ⟨u, rfl, rv⟩ := vals1 r
  obtain ⟨as, hr, hsm⟩ := dq_reads I hd rv
  cases hr with
  | none => exact PySem.P.repr_of_none ⟨.str _, H, I.tok _, ⟨_, rfl⟩, q⟩
  | bool b => exact PySem.P.repr_of_bool ⟨.str _, H, I.tok _, ⟨_, rfl⟩, q⟩
  | int i t => exact PySem.P.repr_of_int (by simpa [PyData.showable] using hs) ⟨.str _, H, I.tok _, ⟨_, rfl⟩, q⟩
  | str x t => exact PySem.P.repr_of_str ⟨.str _, H, I.tok _, ⟨_, rfl⟩, q⟩ (by simpa [PyData.shown] using hlen)
  | list h1 h2 h3 h4 => exact repr_of_reads' (.list h1 h2 h3 h4) hs hsm hgd (by omega) (fun _ _ e => e) (fun h' u tk k => ⟨.str _, H, I.kept k, ⟨_, rfl⟩, q⟩) hlen
  | tuple h1 h2 h3 h4 => exact repr_of_reads' (.tuple h1 h2 h3 h4) hs hsm hgd (by omega) (fun _ _ e => e) (fun h' u tk k => ⟨.str _, H, I.kept k, ⟨_, rfl⟩, q⟩) hlen
  | dict h1 h2 h3 h4 h5 => exact repr_of_reads' (.dict h1 h2 h3 h4 h5) hs hsm hgd (by omega) (fun _ _ e => e) (fun h' u tk k => ⟨.str _, H, I.kept k, ⟨_, rfl⟩, q⟩) hlen
end Lamp
set_option Elab.async false
set_option linter.all false
set_option maxRecDepth 100000
set_option maxHeartbeats 4000000
namespace PySem
namespace LampX
open HandSPX Builtin Builtin.ObjectAttr
/-! an exception class of the program called, with keywords too -/
section
variable {prog : Program} {w : World} {M : Model} {A : Around} {E : Value → Shared → Prop} {R : Result → Shared → Prop} {h : Heap} {g : Array GenState} {d : Drawn} {t : Nat} {os : OsState}
variable {cn cq : Str} {C N : Addr} {bs bm tail : List Value} {hdct : Bool} {sn : List Str} {sub : List Value} {ab : Bool} {col : Option Bool} {dd : Option Addr} {k0 k1 k2 k3 k5 : Option Value} {B newId initId : String} {rest : List Value} {kw : List (Str × Value)}
theorem newChecked (F : ExcBaseFacts B newId initId tail) (hT : ∀ X : String, bm.contains (.type X) = tail.contains (.type X)) {Q : Unit → Shared → Prop}
    (hC : h.get? C = some (excClassObj cn cq C N bs bm hdct sn sub ab col dd k0 k1 k2 k3 k5 newId)) (hq : Q () ⟨h, g, d, t, os⟩) : wpAny M A (checkBuiltinCall newId ⟨.ref C :: rest, kw⟩) Q E ⟨h, g, d, t, os⟩ := by
  have below : (Value.ref C :: bm).contains (.type B) = true := by rw [List.contains_cons, hT, F.hasB, Bool.or_true]
  have plain := F.noStar
  simp only [checkBuiltinCall, F.newKind, F.newSplit, F.newRow]
  repeat (first | refine wpAny_loadPart_at hC ?_ | (refine wpAny_isSubtype_exc hC ?_; rw [below]) | refine wpAny_staticBase_exc hC ?_ | refine wpAny_madeBy_exc hC ?_ | simp only [bne_self_eq_false, Bool.false_eq_true, if_false] | wp_step)
  exact hq
theorem newMade (F : ExcBaseFacts B newId initId tail) (hT : ∀ X : String, bm.contains (.type X) = tail.contains (.type X))
    (hC : h.get? C = some (excClassObj cn cq C N bs bm hdct sn sub ab col dd k0 k1 k2 k3 k5 newId))
    (hq : R (.ok (.ret (.ref (h.objs.size + 1)))) ⟨(h.push (W.kdv_tup rest)).push (excO C h.objs.size), g, d, t, os⟩) (short : rest.length ≤ sizeLine) :
    codeAny (model prog w) A (.builtin newId ⟨.ref C :: rest, kw⟩) R ⟨h, g, d, t, os⟩ := by
  have stops := F.ends
  have isB : (Value.ref C :: bm).contains (.type B) = true := by rw [List.contains_cons, hT, F.hasB, Bool.or_true]
  have notA : (Value.ref C :: bm).contains (.type "AttributeError") = false := by rw [List.contains_cons, hT, F.noAttr] <;> rfl
  have notN : (Value.ref C :: bm).contains (.type "NameError") = false := by rw [List.contains_cons, hT, F.noName] <;> rfl
  refine codeAny_builtinAt F.entry ?_
  unfold Builtin.«BaseException.__new__»
  refine wpAt_bind ?_
  show wpAt _ _ _ (stack >>= _) _ _ _
  refine wpAt_bind (wpAt_stack fun p below => wpAt_of_wpAny ?_)
  wp_walk
  refine wpAt_of_wpAny ?_
  rw [F.owner]
  repeat (first | with_reducible refine wpAny_madeHere_exc F.canon hC ?_ | with_reducible refine wpAny_loadPart_at hC ?_ | (with_reducible refine wpAny_isSubtype_exc hC ?_; first | rw [isB] | rw [notA] | rw [notN]) | wp_step)
  show R _ _
  rw [Heap.size_push]
  exact hq
theorem typeCalled (F : ExcBaseFacts B newId initId tail) (hT : ∀ X : String, bm.contains (.type X) = tail.contains (.type X)) {fI : Addr} {Q : Fin → Shared → Prop}
    (hC : h.get? C = some (excClassObj cn cq C N bs bm hdct sn sub ab col dd k0 k1 k2 k3 k5 newId))
    (hi : W.Looks (model prog w) h (typeLookup (.ref C) "__init__") (some (.ref fI))) (hb : ∀ self, W.Looks (model prog w) h (bindSpecial (.ref fI) self) (.ref fI, [self])) (short : rest.length ≤ sizeLine)
    (hq : codeAny (model prog w) A (.call (.ref fI) ⟨.ref (h.objs.size + 1) :: rest, kw⟩)
      (fun r s' => match r with | .ok (.ret v) => v = .none ∧ Q (.done (.ret (.ref (h.objs.size + 1)))) s' | .ok _ => False | .error e => E e s') ⟨(h.push (W.kdv_tup rest)).push (excO C h.objs.size), g, d, t, os⟩) :
    wpAny (model prog w) A (Builtin.«type.__call__» ⟨.ref C :: rest, kw⟩) Q E ⟨h, g, d, t, os⟩ := by
  repeat (first | with_reducible refine wpAny_loadPart_at hC ?_ | with_reducible refine wpAny_madeBy_exc hC ?_ | wp_step)
  refine codeAny_call_builtin_code (Code.quiet_builtin _ F.quiet) (newChecked F hT hC ?_)
  refine newMade F hT hC ?_ short
  show wpAny _ _ _ _ _ _
  have stays : ∀ b o, h.get? b = some o → ((h.push (W.kdv_tup rest)).push (excO C h.objs.size)).get? b = some o := fun b o e => Heap.get?_push_of_some _ (Heap.get?_push_of_some _ e)
  have classThere := stays _ _ hC
  have newThere : ((h.push (W.kdv_tup rest)).push (excO C h.objs.size)).get? (h.objs.size + 1) = some (excO C h.objs.size) := by heap_get
  have ownClass : (Value.ref C :: bm).contains (.ref C) = true := by simp
  have initLook := hi.keeps stays
  have initBound := (hb (.ref (h.objs.size + 1))).keeps stays
  unfold isInstance
  repeat (first | with_reducible refine wpAny_loadPart_at newThere ?_ | (with_reducible refine wpAny_isSubtype_exc classThere ?_; rw [ownClass]) | wp_step)
  show wpAny _ _ (typeLookup (.ref C) _) _ _ _
  refine initLook.at ?_
  refine wpAny_holding (wpAny_bind (initBound.at ?_))
  refine wpAny_bind (wpAny_call (codeAny_mono hq fun r s' z => ?_))
  rcases r with e | (v | _ | _ | _) <;> first | exact z | exact z.elim | skip
  obtain ⟨rfl, z⟩ := z
  first
    | exact wpAny_pure (wpAny_pure z)
    | (wp_walk; exact z)
theorem typeCallChecked {Q : Unit → Shared → Prop} (hC : h.get? C = some (excClassObj cn cq C N bs bm hdct sn sub ab col dd k0 k1 k2 k3 k5 newId))
    (hq : Q () ⟨h, g, d, t, os⟩) : wpAny M A (checkBuiltinCall "type.__call__" ⟨.ref C :: rest, kw⟩) Q E ⟨h, g, d, t, os⟩ := by
  have isSub := tc_sub
  have isClass : (⟨h, g, d, t, os⟩ : Shared).TypeIs (.ref C) "type" := ⟨_, hC, rfl⟩
  simp only [checkBuiltinCall, tc_kind, tc_split]
  repeat (any_goals (first | assumption | with_reducible refine wpAny_loadPart_at hC ?_ | with_reducible refine wpAny_onRaise ?_ | with_reducible refine wpAny_map ?_ | wp_step))
/-- the class called -/
theorem excCalled (F : ExcBaseFacts B newId initId tail) (hT : ∀ X : String, bm.contains (.type X) = tail.contains (.type X)) {fI : Addr}
    (hC : h.get? C = some (excClassObj cn cq C N bs bm hdct sn sub ab col dd k0 k1 k2 k3 k5 newId))
    (hi : W.Looks (model prog w) h (typeLookup (.ref C) "__init__") (some (.ref fI))) (hb : ∀ self, W.Looks (model prog w) h (bindSpecial (.ref fI) self) (.ref fI, [self])) (short : rest.length ≤ sizeLine)
    (hq : codeAny (model prog w) (A.under (.builtin "type.__call__" ⟨.ref C :: rest, kw⟩)) (.call (.ref fI) ⟨.ref (h.objs.size + 1) :: rest, kw⟩) (W.InitBack (h.objs.size + 1) R) ⟨(h.push (W.kdv_tup rest)).push (excO C h.objs.size), g, d, t, os⟩) :
    codeAny (model prog w) A (.call (.ref C) ⟨rest, kw⟩) R ⟨h, g, d, t, os⟩ := by
  have look := tc_lookup
  have bound := tc_bind (.ref C)
  have isClass : (⟨h, g, d, t, os⟩ : Shared).TypeIs (.ref C) "type" := ⟨_, hC, rfl⟩
  refine codeAny_of_tree ?_
  show wpAny _ _ (callAny (.ref C) _) _ _ _
  repeat (any_goals (first | assumption | with_reducible refine wpAny_loadPart_at hC ?_ | wp_step))
  refine ⟨rfl, ?_⟩
  refine codeAny_call_builtin_at (Code.quiet_builtin _ (by decide +kernel)) entry_typeCall (typeCallChecked hC (typeCalled F hT hC hi hb short ?_))
  refine codeAny_mono hq fun r s' z => ?_
  rcases r with e | (v | _ | _ | _) <;> exact z
end
end LampX
end PySem
set_option Elab.async false
set_option linter.all false
set_option maxRecDepth 100000
set_option maxHeartbeats 4000000
namespace PySem
namespace LampX
open PySem.W Builtin.ObjectAttr
section
variable {prog : Program} {w : World} {A : Around} {s : Shared} {K : Frag} {C : Addr} {B : String} {tail : List Value}
/-- the first field of an exception: its dict is laid -/
theorem firstField {x t : Addr} {name : Str} {tk : Tok} {v : Value} {R : Result → Shared → Prop} (SF : StoreFacts B tail "object.__setattr__" "object") (inK : K.In s.heap) (there : s.heap.get? x = some (excObj C t none .none))
    (over : excOver K C tail = true) (taker : takerIn K C name = some none) (dict : hasDictIn K C = true)
    (hq : ∀ h' tk' dx, (∀ b o, b ≠ x → s.heap.get? b = some o → h'.get? b = some o) → s.heap.objs.size ≤ dx → dx ≠ x → h'.get? x = some (excObj C t (some dx) .none) →
      h'.Ns1 dx (fun y => if y = name then some v else none) → R (.ok (.ret .none)) { s with heap := h', toks := tk' }) :
    codeAny (model prog w) A (.call (.builtin "object.__setattr__") ⟨[.ref x, .str name tk, v], []⟩) R s := by
  have fresh : x ≠ s.heap.objs.size := Nat.ne_of_lt (Heap.lt_size there)
  refine osa_openX (od := none) SF inK ⟨there, rfl, rfl, trivial⟩ over taker fun b => ?_
  obtain ⟨cd, hcd, hdd⟩ := any_some dict
  refine wpAny_bind (wpAny_pure (wpAny_bind (instanceDict_exc there (looks_clsIn inK hcd) hdd ?_)))
  show wpAny _ _ (storeInDict s.heap.objs.size (.str name tk) name v) _ _ _
  have was : (s.heap.push (dictOf [] 0)).get? x = some (excObj C t none .none) := Heap.get?_push_of_some _ there
  refine HandSPX.store_in_new ⟨_, #[], _, (Heap.get?_update_ne _ _ _ _ fresh.symm).trans (Heap.get?_push_at rfl rfl), rfl, fun e he => absurd he (by simp), fun _ => rfl⟩ fun h' tk' named kept => ?_
  refine hq h' tk' s.heap.objs.size (fun b o hb ho => ?_) (Nat.le_refl _) fresh.symm ?_ named
  · exact (kept.2 b (Nat.ne_of_lt (Heap.lt_size ho))).trans ((Heap.get?_update_ne _ _ _ _ hb).trans (Heap.get?_push_of_some _ ho))
  · exact (kept.2 x fresh).trans (Heap.get?_update_self _ was rfl)
end
end LampX
end PySem
namespace Lamp
open PySem PySem.Spec PyProof.Rows L2
/-- what the written part says of an exception class of the program -/
structure EC (K : PySem.W.Frag) (C : Addr) (B newId initId : String) (tail : List Value) : Prop where
  F : ExcBaseFacts B newId initId tail
  S : StoreFacts B tail "object.__setattr__" "object"
  made : PySem.W.excInitIn K C tail newId = true
  over : PySem.W.excOver K C tail = true
  sa : PySem.W.findIn K (.ref C) "__setattr__" = some (some (.builtin "object.__setattr__"))
  ga : PySem.W.findIn K (.ref C) "__getattribute__" = some (some (.builtin "BaseException.__getattribute__"))
  gg : PySem.W.findIn K (.ref C) "__getattr__" = some none
  exC : PySem.W.subIn K (.ref C) (.type "BaseException") = some true
  hd : PySem.W.hasDictIn K C = true
  kp : PySem.W.keepIn K (.ref C) = true
  cls : PySem.W.findIn K (.ref C) "__class__" = some (some (.builtin "object.__class__"))
  obj : PySem.W.mroIn K C (.type "object") = some true
section
variable {X : Cx} {pins : List (Addr × Obj)} {σ : L2.St} {H : Hp} {s : Shared} {a C : Addr} {f : Str} {y : V} {u : Value} {Q : Unit → Shared → Prop} {E : Value → Shared → Prop} {A : Around} {B newId initId : String} {tail : List Value}
theorem store1 (T : EC X.K C B newId initId tail) (I : Inv X pins σ H s) (e : H a = some (exo a C none)) (ht : PySem.W.takerIn X.K C f = some none) (ry : RelV y u)
    (h : ∀ dx s', H dx = none → dx ≠ a → Inv X pins σ (upd (upd H dx (exd dx [(f, y)])) a (exo a C (some dx))) s' → Q () s') : wpAny (model X.prog X.w) A (setAttr (.ref a) f u) Q E s := by
  obtain ⟨t1, there⟩ := exo_at I.hok e
  refine PySem.W.set_plain I.kIn (ox := PySem.W.excObj C t1 none .none) (od := none) ⟨there, rfl, rfl, trivial⟩ T.sa ?_
  refine PySem.LampX.firstField (s := { s with toks := s.toks + 1 }) T.S I.kIn there T.over ht T.hd fun h' tk' dx kept new other now named => ?_
  have free : H dx = none := I.hok.fresh new
  have notNew : ∀ {b : Addr} {o : Obj}, s.heap.get? b = some o → b ≠ dx := fun {b o} q => Nat.ne_of_lt (Nat.lt_of_lt_of_le (Heap.lt_size q) new)
  have notA : ∀ {b : Addr}, H b = none → b ≠ a := fun {b} n z => by rw [z, e] at n; cases n
  have un : Un X.fs [] H (upd (upd H dx (exd dx [(f, y)])) a (exo a C (some dx))) s.heap h' :=
    ⟨fun b o q n _ _ => kept b o (notA n) q, fun b o q n _ _ => ⟨o.slots, kept b o (notA n) q⟩, fun b o q n _ => by rw [upd_ne (notA n), upd_ne (notNew q)]; exact n,
      fun b o q _ => by
        by_cases hb : b = a
        · subst hb; exact ⟨_, now⟩
        · exact ⟨o, kept b o hb q⟩,
      fun b xs q => by rw [upd_ne (at_ne e q exo_tup), upd_ne (ne_of_none q free)]; exact q,
      fun b o v q => by rw [upd_ne (at_ne e q exo_frz), upd_ne (ne_of_none q free)]; exact q,
      fun b ps q => ⟨#[], by rw [upd_ne (at_ne e q exo_tbl), upd_ne (ne_of_none q free), q]; simp⟩⟩
  refine h dx _ free other (I.un (t' := tk') un fun b o q => ?_)
  by_cases hb : b = a
  · subst hb
    rw [upd_same] at q
    cases q
    exact exo_ok now
  · rw [upd_ne hb] at q
    by_cases hbd : b = dx
    · subst hbd
      rw [upd_same] at q
      cases q
      exact exd_ok named (relO_put (fs := []) ry fun g => True.intro)
    · rw [upd_ne hbd] at q
      refine (I.hok b o q).stay (fun c v hc z => kept c v ?_ z) (fun c hc => ?_) fun c xs hc => ?_
      · rcases hc with rfl | hc
        · exact hb
        · exact at_ne e hc exo_own
      · rw [upd_ne (at_ne e hc exo_own), upd_ne (ne_of_none hc free)]; exact hc
      · rw [upd_ne (at_ne e hc exo_tup), upd_ne (ne_of_none hc free)]; exact hc
end
/-- self.f = e in an exception's __init__ -/
def tStore1 (K : PySem.W.Frag) (f : Str) (to te : TE) : TS := fun D σ H => te σ H fun y H1 => to σ H1 fun x H2 => ∃ (a C : Addr), x = .ref a ∧ (∃ (B newId initId : String) (tail : List Value), EC K C B newId initId tail) ∧ PySem.W.takerIn K C f = some none ∧
  H2 a = some (exo a C none) ∧ ∀ dx, H2 dx = none → dx ≠ a → D.nx σ (upd (upd H2 dx (exd dx [(f, y)])) a (exo a C (some dx)))
theorem ps_store1 {X : Cx} {o e : Expr} {to te : TE} {f : Str} {p pos : Pos} (ho : PE X o to) (he : PE X e te) (hs : swapsWith e (some (.Attribute o f p)) pos.line X.env = pure false := by rfl) : PS X (.Assign [.Attribute o f p] e pos) (tStore1 X.K f to te) := by
  refine ⟨fun pins s σ H D I h => plainObj_wpAny_Assign_Attribute (thn (he.run pins s σ H _ I h) fun v s1 ⟨y, H1, I1, r1, q1⟩ => thn (ho.run pins s1 σ H1 _ I1 q1) fun u s2 ⟨x, H2, I2, r2, told⟩ => ?_) hs⟩
  obtain ⟨a, C, ex, ⟨B, newId, initId, tail, T⟩, ht, ea, q⟩ := told
  subst ex
  have eu : u = Value.ref a := r2
  subst eu
  exact store1 T I2 ea ht r1 fun dx s' n ne J => ⟨σ, _, J, q dx n ne⟩
end Lamp
set_option Elab.async false
set_option linter.all false
set_option maxRecDepth 100000
set_option maxHeartbeats 4000000
namespace Lamp
open PySem PySem.Spec PyProof.Rows L2
/-- the promise of an __init__ that keeps its one argument under f -/
def spInit (K : PySem.W.Frag) (C : Addr) (f : Str) : Sp := fun vs H Q _ => ∃ (a : Addr) (y : V), vs = [.ref a, y] ∧ (∃ (B newId initId : String) (tail : List Value), EC K C B newId initId tail) ∧ PySem.W.takerIn K C f = some none ∧ H a = some (exo a C none) ∧
  ∀ dx, H dx = none → dx ≠ a → Q .non (upd (upd H dx (exd dx [(f, y)])) a (exo a C (some dx)))
section
variable {P : Program} {w : World} {K : PySem.W.Frag} {mg : Str → Option Value} {base : Heap}
theorem ok_init {fI C : Addr} {fd : FuncData} {st : Stmt} {qual f : Str} {p1 p2 p3 p4 : Pos} (F : Fun K "__init__" qual st fI fd) (S : FnScope ["self", f] ["self", f] (defScope st))
    (hb : defBody st = [.Assign [.Attribute (.Name "self" p1) f p2] (.Name f p3) p4]) (v0 : (defScope st).names.lookup ("self" : Str) = some NameKind.local) (v1 : (defScope st).names.lookup f = some NameKind.local)
    (d1 : (f == ("__debug__" : Str)) = false) (d2 : (f == ("__classdict__" : Str)) = false) : FnOk P w K mg base CX0 1 fI fd ["self", f] (spInit K C f) := by
  refine F.ok S (fun vs H Q E h => ?_) (fun cdv A outer s H vs Q E hr h => ?_)
  · obtain ⟨a, y, rfl, _⟩ := h
    rfl
  · obtain ⟨a, y, rfl, T, ht, ha, q⟩ := h
    rw [hb]
    refine ⟨_, pss_one (ps_store1 (pv 0 rfl (Or.inl v0)) (pv 1 rfl (Or.inl v1) d1 d2)), ?_⟩
    exact ⟨_, rfl, _, rfl, a, C, rfl, T, ht, ha, q⟩
end
/-- C(e), C(f=e): a new exception with the field f -/
def tMkE (C : Addr) (f : Str) (ta : TE) : TE := fun σ H Q => ta σ H fun y H1 => ∀ a dx, H1 a = none → H1 dx = none → dx ≠ a → Q (.ref a) (upd (upd (upd H1 a (exo a C none)) dx (exd dx [(f, y)])) a (exo a C (some dx)))
section
variable {X : Cx} {C fI : Addr} {fd : FuncData} {f x : Str} {B newId initId : String} {tail : List Value} {p pos kpos : Pos} {e : Expr} {ta : TE}
theorem run_mkE {pins : List (Addr × Obj)} {σ : L2.St} {H : Hp} {s : Shared} {Q : VK} {u : Value} {y : V} {us : List Value} {kw : List (Str × Value)} {k : Nat} (T : EC X.K C B newId initId tail) (iC : PySem.W.findIn X.K (.ref C) "__init__" = some (some (.ref fI))) (tI : PySem.W.typeIn X.K (.ref fI) = some (.type "function"))
    (ht : PySem.W.takerIn X.K C f = some none) (F1 : FnOk X.prog X.w X.K X.mg X.base CX0 k fI fd ["self", f] (spInit X.K C f)) (hr : Room (k + 1) X.A)
    (hb : ∀ (s : Shared) (v : Value), X.K.In s.heap → BindsTo s fd ⟨v :: us, kw⟩ [("self", v), (f, u)]) (I : Inv X pins σ H s) (r : RelV y u) (short : us.length ≤ sizeLine)
    (h : ∀ a dx, H a = none → H dx = none → dx ≠ a → Q (.ref a) (upd (upd (upd H a (exo a C none)) dx (exd dx [(f, y)])) a (exo a C (some dx)))) :
    wpAny (model X.prog X.w) X.A (call (.ref C) us kw) (EP X pins σ Q) X.xe s := by
  obtain ⟨nm, N, qn, bs, bm, hdct, sn, sub, ab, col, dd, k0, k1, k2, k3, k5, hC, hT⟩ := PySem.W.excInit_of I.kIn T.made
  obtain ⟨hp, g, dr, tk, os⟩ := s
  have above : hp.objs.size ≤ hp.objs.size + 1 := Nat.le_succ _
  have new : H (hp.objs.size + 1) = none := I.hok.fresh above
  have kept : ∀ b o, hp.get? b = some o → ((hp.push (PySem.W.kdv_tup us)).push (PySem.HandSPX.excO C hp.objs.size)).get? b = some o := fun b o e => Heap.get?_push_of_some _ (Heap.get?_push_of_some _ e)
  have there : ((hp.push (PySem.W.kdv_tup us)).push (PySem.HandSPX.excO C hp.objs.size)).get? (hp.objs.size + 1) = some (PySem.HandSPX.excO C hp.objs.size) := by heap_get
  have I2 : Inv X pins σ (upd H (hp.objs.size + 1) (exo (hp.objs.size + 1) C none)) ⟨(hp.push (PySem.W.kdv_tup us)).push (PySem.HandSPX.excO C hp.objs.size), g, dr, tk, os⟩ :=
    I.laid (t' := tk) (a := hp.objs.size + 1) (o := exo (hp.objs.size + 1) C none) (h' := (hp.push (PySem.W.kdv_tup us)).push (PySem.HandSPX.excO C hp.objs.size)) kept above (exo_ok there)
  have asked : spInit X.K C f [.ref (hp.objs.size + 1), y] (upd H (hp.objs.size + 1) (exo (hp.objs.size + 1) C none)) (fun v H2 => v = .non ∧ Q (.ref (hp.objs.size + 1)) H2) E0 :=
    ⟨_, y, rfl, ⟨B, newId, initId, tail, T⟩, ht, upd_same, fun dx hn ne => ⟨rfl, h _ dx new (by rw [upd_ne ne] at hn; exact hn) ne⟩⟩
  refine wpAny_call (PySem.LampX.excCalled T.F hT hC (PySem.W.looks_findIn I.kIn iC) (fun self => PySem.W.bind_fn I.kIn self tI) short
    (codeAny_mono (F1.run _ X.stack _ _ ⟨Value.ref (hp.objs.size + 1) :: us, kw⟩ [Value.ref (hp.objs.size + 1), u] _ _ E0 ?rm ?ev (hb _ _ I2.kIn) (.cons (show RelV (V.ref _) (Value.ref _) from rfl) (.cons r .nil)) asked) fun res s' told => ?_))
  case rm => exact hr.make C us kw
  case ev => exact I2.env0.make C us kw
  match res, told with
  | .error _, told => exact False.elim told
  | .ok .next, told => exact False.elim told
  | .ok .brk, told => exact False.elim told
  | .ok .cont, told => exact False.elim told
  | .ok (.ret v), told =>
    obtain ⟨z, H', I3, rv, ez, q3⟩ := I2.after told
    subst ez
    exact ⟨rv, ⟨V.ref (hp.objs.size + 1), H', I3, rfl, q3⟩⟩
theorem pe_mkE {k : Nat} (T : EC X.K C B newId initId tail) (iC : PySem.W.findIn X.K (.ref C) "__init__" = some (some (.ref fI))) (tI : PySem.W.typeIn X.K (.ref fI) = some (.type "function")) (ht : PySem.W.takerIn X.K C f = some none)
    (F1 : FnOk X.prog X.w X.K X.mg X.base CX0 k fI fd ["self", f] (spInit X.K C f)) (hr : Room (k + 1) X.A) (hb : ∀ (s : Shared) (v u : Value), X.K.In s.heap → BindsTo s fd ⟨[v, u], []⟩ [("self", v), (f, u)]) (hg : Gl X x) (hm : X.mg x = some (.ref C))
    (ha : PE X e ta) (hs : starEach [e] X.env = (false, eval e X.env) :: starEach [] X.env := by rfl) (hdb : (x == ("__debug__" : Str)) = false := by decide) : PE X (.Call (.Name x p) [e] [] pos) (tMkE C f ta) := by
  refine ⟨fun pins s σ H Q I h => wpAny_Call_Name_kw (ld_glob I hg hm (PySem.W.callWith_K (h₀ := X.base) I.ok.mod.kin T.kp ?_ hs (by rfl)) hdb)⟩
  rw [hs]
  show wpAny _ _ (spliced ((false, eval e X.env) :: backTo pos (starEach [] X.env))) _ _ s
  refine Calls.spliced_cons (thn (ha.run pins s σ H _ I h) fun u s1 ⟨y, H1, I1, r1, q1⟩ => Calls.spliced_nil ⟨I1.kIn, ?_⟩)
  exact run_mkE (us := [u]) (kw := []) T iC tI ht F1 hr (fun s v hk => hb s v u hk) I1 r1 (by show 1 ≤ sizeLine; decide) q1
/-- the same with keywords: their values, one -/
def tMkK (C : Addr) (f : Str) (tk : TA) : TE := fun σ H Q => tk σ H fun zs H1 => ∃ y, zs = [y] ∧ ∀ a dx, H1 a = none → H1 dx = none → dx ≠ a → Q (.ref a) (upd (upd (upd H1 a (exo a C none)) dx (exd dx [(f, y)])) a (exo a C (some dx)))
theorem pe_mkK {k : Nat} {kws : List Keyword} {tk : TA} (T : EC X.K C B newId initId tail) (iC : PySem.W.findIn X.K (.ref C) "__init__" = some (some (.ref fI))) (tI : PySem.W.typeIn X.K (.ref fI) = some (.type "function")) (ht : PySem.W.takerIn X.K C f = some none)
    (F1 : FnOk X.prog X.w X.K X.mg X.base CX0 k fI fd ["self", f] (spInit X.K C f)) (hr : Room (k + 1) X.A) (hb : ∀ (s : Shared) (v u : Value), X.K.In s.heap → BindsTo s fd ⟨[v], [(f, u)]⟩ [("self", v), (f, u)]) (hg : Gl X x) (hm : X.mg x = some (.ref C))
    (hkw : PK X kws tk) (hall : (backToKw pos (keywordEach kws X.env)).all (·.1.isSome) = true := by rfl) (hks : (backToKw pos (keywordEach kws X.env)).filterMap (·.1) = [f] := by rfl) (hdb : (x == ("__debug__" : Str)) = false := by decide)
    (hpl : ((backTo pos (starEach [] X.env)).any (·.1) || (backToKw pos (keywordEach kws X.env)).any (·.1.isNone)) = false := by rfl) : PE X (.Call (.Name x p) [] kws pos) (tMkK C f tk) := by
  refine ⟨fun pins s σ H Q I h => ?_⟩
  refine wpAny_Call_Name_kw (ld_glob I hg hm ?_ hdb)
  refine PySem.W.callWith_KW0 (h₀ := X.base) I.ok.mod.kin T.kp hall (thn (hkw.run pos pins s σ H _ I h) fun ws s2 told => ?_) hpl
  obtain ⟨zs, H2, I2, rz, y, ez, q2⟩ := told
  subst ez
  rw [hks]
  cases rz with
  | @cons _ u _ us r rest =>
    cases rest
    exact ⟨I2.kIn, run_mkE (us := []) (kw := [(f, u)]) T iC tI ht F1 hr (fun s v hk => hb s v u hk) I2 r (Nat.zero_le _) q2⟩
end
/-- C() where the program gives no __init__: a new exception -/
theorem pe_mk0 {X : Cx} {C : Addr} {x : Str} {B newId initId : String} {tail : List Value} {p pos : Pos} (F : ExcBaseFacts B newId initId tail) (q : PySem.W.excIn X.K C tail newId = true) (gC : X.mg x = some (.ref C)) (kC : PySem.W.keepIn X.K (.ref C) = true) (hg : Gl X x)
    (hdb : (x == ("__debug__" : Str)) = false := by decide) : PE X (.Call (.Name x p) [] [] pos) (fun _ H Q => ∀ a, H a = none → Q (.ref a) (upd H a (exo a C none))) := by
  refine ⟨fun pins s σ H Q I h => wpAny_Call_Name_kw (ld_glob I hg gC (PySem.W.callWith_K0 I.kIn kC ?_) hdb)⟩
  show wpAny _ _ (call (.ref C) []) _ _ _
  obtain ⟨bm, N, nm, qn, bs, hdct, sn, sub, ab, col, dd, k0, k1, k2, k3, k5, mN, hC, hN, hni, T⟩ := exc_obj I.kIn q
  obtain ⟨hp, g, dr, tk, os⟩ := s
  refine wpAny_call_exc_subT F T hC hN hni (fun h' a hm => ?_) (by show 0 ≤ sizeLine; exact Nat.zero_le _)
  have new : H a = none := I.hok.gone hm.new
  obtain ⟨t, there, _, _⟩ := hm.there
  exact ⟨.ref a, upd H a (exo a C none), I.laidN (t' := tk) hm.keeps hm.new new (exo_ok there), rfl, h a new⟩
end Lamp
set_option Elab.async false
set_option linter.all false
set_option maxRecDepth 100000
set_option maxHeartbeats 1000000
namespace Lamp
open PySem PySem.Spec PyProof.Rows L2
/-- an exception of the class at C stands at a -/
def XAt (H : Hp) (a C : Addr) : Prop := H a = some (exo a C none) ∨ ∃ dx fs, H a = some (exo a C (some dx)) ∧ H dx = some (exd dx fs)
/-- .. with its fields -/
def XFld (H : Hp) (a C : Addr) (f : Str) (y : V) : Prop := ∃ dx, H a = some (exo a C (some dx)) ∧ H dx = some (exd dx [(f, y)])
theorem XFld.at {H : Hp} {a C : Addr} {f : Str} {y : V} (h : XFld H a C f y) : XAt H a C := by
  obtain ⟨dx, h1, h2⟩ := h
  exact .inr ⟨dx, _, h1, h2⟩
theorem XFld.same {H H' : Hp} {a C : Addr} {f : Str} {y : V} (h : XFld H a C f y) (s : Same H H') : XFld H' a C f y := by
  obtain ⟨dx, h1, h2⟩ := h
  exact ⟨dx, s _ _ h1, s _ _ h2⟩
theorem XAt.same {H H' : Hp} {a C : Addr} (h : XAt H a C) (s : Same H H') : XAt H' a C := by
  rcases h with h | ⟨dx, fs, h1, h2⟩
  · exact .inl (s _ _ h)
  · exact .inr ⟨dx, fs, s _ _ h1, s _ _ h2⟩
theorem xat_inst {X : Cx} {pins : List (Addr × Obj)} {σ : L2.St} {H : Hp} {s : Shared} {a C : Addr} (I : Inv X pins σ H s) (h : XAt H a C) : ∃ ox od, PySem.W.InstAt s.heap a ox C od := by
  rcases h with h | ⟨dx, fs, h1, h2⟩
  · obtain ⟨t, there⟩ := exo_at I.hok h
    exact ⟨_, none, there, rfl, rfl, trivial⟩
  · obtain ⟨t, there⟩ := exo_at I.hok h1
    obtain ⟨mA, ⟨o, _, _, ho, _⟩, _⟩ := exd_at I.hok h2
    exact ⟨_, some o, there, rfl, rfl, ho⟩
/-- what is asked of object's own __class__ -/
structure ClsG (K : PySem.W.Frag) : Prop where
  get : PySem.W.specialIn K (.builtin "object.__class__") "__get__" = some (some (.builtin "getset_descriptor.__get__"))
  tak : PySem.W.takesIn K (.builtin "object.__class__") = some true
/-- isinstance(e, c), e an exception of the program -/
def rIsX (K : PySem.W.Frag) : List V → Hp → VK → Prop := fun xs H Q => ∃ (a C : Addr) (c : V) (u : Value) (b : Bool), xs = [.ref a, c] ∧ XAt H a C ∧ (∃ (B newId initId : String) (tail : List Value), EC K C B newId initId tail) ∧ ClsV c u ∧ PySem.W.kitOne K (.ref C) u = some b ∧ Q (.bl b) H
theorem call_isX {X : Cx} (G : ClsG X.K) : CallR X (.builtin "isinstance") (rIsX X.K) := by
  intro pins s σ H xs us Q I r h
  obtain ⟨a, C, c, cv, b, rfl, hx, ⟨B, newId, initId, tail, T⟩, hc, hk, q⟩ := h
  obtain ⟨u1, u2, rfl, r1, r2⟩ := vals2 r
  have e1 : u1 = Value.ref a := r1
  subst e1
  have e2 := hc.eq r2
  subst e2
  obtain ⟨ox, od, J⟩ := xat_inst I hx
  have isCls : (PySem.W.clsIn X.K C).isSome = true := by
    obtain ⟨cd, hcd, _⟩ := PySem.W.any_some T.hd
    rw [hcd]
    rfl
  exact PySem.W.kia_one (PySem.W.kitx_exc isCls T.ga T.gg T.exC T.cls G.get G.tak T.obj) I.kIn J hk (fun z => nomatch z) fun tk => ⟨.bl b, H, I.tok tk, rfl, q⟩
/-- e.f -/
def tXFld (K : PySem.W.Frag) (f : Str) (te : TE) : TE := fun σ H Q => te σ H fun x H1 => ∃ (a C : Addr) (y : V), x = .ref a ∧ XFld H1 a C f y ∧ (∃ (B newId initId : String) (tail : List Value), EC K C B newId initId tail) ∧ PySem.W.findIn K (.ref C) f = some none ∧ Q y H1
theorem pe_xfld {X : Cx} {e : Expr} {te : TE} {pos : Pos} {f : Str} (he : PE X e te) (hb : attributeBase e f X.env (eval e X.env) = eval e X.env := by rfl) : PE X (.Attribute e f pos) (tXFld X.K f te) := by
  refine ⟨fun pins s σ H Q I h => attr_of hb (thn (he.run pins s σ H _ I h) fun u s1 ⟨x, H1, I1, r1, told⟩ => ?_)⟩
  obtain ⟨a, C, y, ex, ⟨dx, h1, h2⟩, ⟨B, newId, initId, tail, T⟩, hno, q⟩ := told
  subst ex
  have eu : u = Value.ref a := r1
  subst eu
  obtain ⟨t, there⟩ := exo_at I1.hok h1
  obtain ⟨mA, named, rel⟩ := exd_at I1.hok h2
  obtain ⟨od, hod, look⟩ := lookIn_ns named
  have rf := rel f
  rw [lookup_put, if_pos rfl] at rf
  obtain ⟨v, hv, rv⟩ := RelO.some_of (v := y) (o := mA f) rf
  have J : PySem.W.InstAt s1.heap a _ C (some od) := ⟨there, rfl, rfl, hod⟩
  exact HandSPX.exc_get I1.kIn J T.ga T.gg T.exC (PySem.W.findObj_own T.hd hno rfl (by rw [look, hv])) (handed_of rv) ⟨y, H1, I1.tok _, rv, q⟩
end Lamp
set_option Elab.async false
set_option linter.all false
set_option maxRecDepth 100000
set_option maxHeartbeats 1000000
namespace Lamp
open PySem PySem.Spec PyProof.Rows L2
theorem same_of {q : Addr} {H : Hp} {o : HO} (h : H q = none) : Same H (upd H q o) := fun b u e => by rw [upd_ne (ne_of_none e h)]; exact e
theorem same_seqT {K : PySem.W.Frag} {H H' : Hp} {a : Addr} {xs : List V} (e : Same H H') (h : SqT K H a xs) : SqT K H' a xs := by
  rcases h with (h | ⟨o, h⟩) | h
  · exact .inl (.inl (e _ _ h))
  · exact .inl (.inr ⟨o, e _ _ h⟩)
  · exact .inr h
mutual
theorem dp_same {K : PySem.W.Frag} {H H' : Hp} (e : Same H H') : ∀ (d : PyData) (v : V), Dp K H v d → Dp K H' v d
  | .none, _, h => by cases h; exact .non
  | .bool _, _, h => by cases h; exact .bl _
  | .int _, _, h => by cases h; exact .int _
  | .str _, _, h => by cases h; exact .str _
  | .list ds, _, h => by
    cases h with
    | lst hs ha => exact .lst (e.seq hs) (dpAll_same e ds _ ha)
  | .tuple ds, _, h => by
    cases h with
    | tup hs ha => exact .tup (same_seqT e hs) (dpAll_same e ds _ ha)
  | .dict _, _, h => by cases h
theorem dpAll_same {K : PySem.W.Frag} {H H' : Hp} (e : Same H H') : ∀ (ds : List PyData) (vs : List V), DpAll K H vs ds → DpAll K H' vs ds
  | [], _, h => by cases h; exact .nil
  | d :: ds, _, h => by
    cases h with
    | cons h1 h2 => exact .cons (dp_same e d _ h1) (dpAll_same e ds _ h2)
end
theorem dq_same {K : PySem.W.Frag} {H H' : Hp} (e : Same H H') {d : PyData} {v : V} (h : Dq K H v d) : Dq K H' v d := by
  cases h with
  | plain h => exact .plain (dp_same e d v h)
  | dict h1 h2 => exact .dict (e _ _ h1) h2
theorem dpAll_len {K : PySem.W.Frag} {H : Hp} : ∀ {ds : List PyData} {vs : List V}, DpAll K H vs ds → vs.length = ds.length
  | [], _, h => by cases h; rfl
  | d :: ds, _, h => by
    cases h with
    | cons h1 h2 => rw [List.length_cons, List.length_cons, dpAll_len h2]
/-! the drawing list, and all else -/
/-- at p: the drawing list of a case -/
def Pail (H : Hp) (p : Addr) : Prop := ∃ x y z : Int, H p = some (.lst [.int x, .int y, .int z]) ∧ 0 ≤ x ∧ 0 ≤ y ∧ y < 2147483648
/-- all but p stands as it stood -/
def But (p : Addr) (H H' : Hp) : Prop := ∀ b o, b ≠ p → H b = some o → H' b = some o
theorem But.refl (p : Addr) (H : Hp) : But p H H := fun _ _ _ h => h
theorem But.trans {p : Addr} {H H1 H2 : Hp} (a : But p H H1) (b : But p H1 H2) : But p H H2 := fun c o n h => b c o n (a c o n h)
theorem But.of {p : Addr} {H H1 : Hp} (a : Same H H1) : But p H H1 := fun b o _ h => a b o h
theorem But.at {p : Addr} {H : Hp} {o : HO} : But p H (upd H p o) := fun b u n h => by rw [upd_ne n]; exact h
theorem But.new {p q : Addr} {H : Hp} {o : HO} (h : H q = none) : But p H (upd H q o) := fun b u _ e => by
  rw [upd_ne (ne_of_none e h)]
  exact e
theorem Pail.same {H H' : Hp} {p : Addr} (h : Pail H p) (s : Same H H') : Pail H' p := by
  obtain ⟨x, y, z, e, r⟩ := h
  exact ⟨x, y, z, s _ _ e, r⟩
theorem Pail.ne {H : Hp} {p q : Addr} (h : Pail H p) (e : H q = none) : q ≠ p := by
  obtain ⟨x, y, z, hp, _⟩ := h
  intro z
  rw [z, hp] at e
  cases e
theorem But.del {p : Addr} {H H' : Hp} (b : But p H H') : Same (delH H p) (delH H' p) := fun a o h => by
  by_cases e : a = p
  · rw [e, delH_same] at h; cases h
  · rw [delH_ne e] at h ⊢
    exact b a o e h
theorem del_sub {p : Addr} {H : Hp} : Same (delH H p) H := fun a o h => by
  by_cases e : a = p
  · rw [e, delH_same] at h; cases h
  · rw [delH_ne e] at h
    exact h
/-! data made, beside the drawing list at p -/
section
variable (K : PySem.W.Frag) (p : Addr)
def EvP (te : TE) (d : PyData) : Prop := ∀ (σ : L2.St) (H : Hp), Pail H p → ∀ Q : VK, (∀ v H', Same H H' → Dp K (delH H' p) v d → Q v H') → te σ H Q
def EvPs (ta : TA) (ds : List PyData) : Prop := ∀ (σ : L2.St) (H : Hp), Pail H p → ∀ Q : List V → Hp → Prop, (∀ vs H', Same H H' → DpAll K (delH H' p) vs ds → Q vs H') → ta σ H Q
def EvQ (te : TE) (d : PyData) : Prop := ∀ (σ : L2.St) (H : Hp), Pail H p → ∀ Q : VK, (∀ v H', Same H H' → Dq K (delH H' p) v d → Q v H') → te σ H Q
def EvQs (ta : TA) (ds : List PyData) : Prop := ∀ (σ : L2.St) (H : Hp), Pail H p → ∀ Q : List V → Hp → Prop, (∀ vs H', Same H H' → Paired (Dq K (delH H' p)) vs ds → Q vs H') → ta σ H Q
end
section
variable {K : PySem.W.Frag} {p : Addr} {te : TE} {ta : TA} {d : PyData} {ds : List PyData}
theorem evp_non : EvP K p (tC .non) .none := fun σ H _ Q q => q _ H (Same.refl H) .non
theorem evp_bl {b : Bool} : EvP K p (tC (.bl b)) (.bool b) := fun σ H _ Q q => q _ H (Same.refl H) (.bl b)
theorem evp_int {i : Int} : EvP K p (tC (.int i)) (.int i) := fun σ H _ Q q => q _ H (Same.refl H) (.int i)
theorem evp_str {x : Str} : EvP K p (tC (.str x)) (.str x) := fun σ H _ Q q => q _ H (Same.refl H) (.str x)
theorem evp_neg {i : Int} (h : EvP K p te (.int i)) : EvP K p (tUn (rU fun i => .int (-i)) te) (.int (-i)) := fun σ H hp Q q => h σ H hp _ fun v H' s hd => by
  cases hd
  exact ⟨i, rfl, q _ H' s (.int _)⟩
theorem evp_pow {i j : Int} (hc : CPow i j) : EvP K p (tOp (rI CPow fun i j => .int (i ^ j.toNat)) (tC (.int i)) (tC (.int j))) (.int (i ^ j.toNat)) := fun σ H hp Q q => ⟨i, j, rfl, rfl, hc, q _ H (Same.refl H) (.int _)⟩
theorem evps_nil : EvPs K p tNil [] := fun σ H _ Q q => q _ H (Same.refl H) .nil
theorem evps_cons (h1 : EvP K p te d) (h2 : EvPs K p ta ds) : EvPs K p (tCons te ta) (d :: ds) := fun σ H hp Q q => h1 σ H hp _ fun v H1 s1 d1 => h2 σ H1 (hp.same s1) _ fun vs H2 s2 d2 =>
  q _ H2 (s1.trans s2) (.cons (dp_same (But.of s2).del d v d1) d2)
theorem evp_tup (h : EvPs K p ta ds) (hl : ds.length ≤ 100) : EvP K p (tTup ta) (.tuple ds) := fun σ H hp Q q => h σ H hp _ fun vs H1 s1 d1 => by
  have hlen := dpAll_len d1
  refine ⟨Nat.le_of_lt (small1000 (by omega)), fun r hr => ?_⟩
  have ne := (hp.same s1).ne hr
  have s2 : Same H1 (upd H1 r (.tup vs)) := same_of hr
  exact q _ _ (s1.trans s2) (.tup (.inl (.inl (by rw [delH_ne ne, upd_same]))) (dpAll_same (But.of s2).del ds vs d1))
theorem evp_lst (h : EvPs K p ta ds) (hl : ds.length ≤ 100) : EvP K p (tLst ta) (.list ds) := fun σ H hp Q q => h σ H hp _ fun vs H1 s1 d1 => by
  have hlen := dpAll_len d1
  refine ⟨Nat.le_of_lt (small1000 (by omega)), fun r hr => ?_⟩
  have ne := (hp.same s1).ne hr
  have s2 : Same H1 (upd H1 r (.lst vs)) := same_of hr
  exact q _ _ (s1.trans s2) (.lst (.inl (.inl (by rw [delH_ne ne, upd_same]))) (dpAll_same (But.of s2).del ds vs d1))
theorem evq_of (h : EvP K p te d) : EvQ K p te d := fun σ H hp Q q => h σ H hp Q fun v H' s hd => q v H' s (.plain hd)
theorem evq_d0 : EvQ K p tDNewK (.dict []) := fun σ H hp Q q r hr => q _ _ (same_of hr) (.dict (kvs := []) (by rw [delH_ne (hp.ne hr), upd_same]) rfl)
theorem evq_d1 {k : Str} {i : Int} : EvQ K p (tDisp [(tC (.str k), tC (.int i))]) (.dict [(.str k, .int i)]) := fun σ H hp Q q r hr => by
  refine ⟨upd_same, [(Sum.inr k, V.int i)], rfl, (by show 1 ≤ 15; decide), q _ _ (fun b o e => ?_) (.dict (kvs := [(Sum.inr k, V.int i)]) ?_ rfl)⟩
  · rw [upd_ne (ne_of_none e hr), upd_ne (ne_of_none e hr)]; exact e
  · rw [delH_ne (hp.ne hr), upd_same]
    rfl
theorem evqs_nil : EvQs K p tNil [] := fun σ H _ Q q => q _ H (Same.refl H) .nil
theorem paired_same {H H' : Hp} (e : Same H H') {vs : List V} {ds : List PyData} (h : Paired (Dq K H) vs ds) : Paired (Dq K H') vs ds := L2.Paired.mapP h fun _ _ x => dq_same e x
theorem evqs_cons (h1 : EvQ K p te d) (h2 : EvQs K p ta ds) : EvQs K p (tCons te ta) (d :: ds) := fun σ H hp Q q => h1 σ H hp _ fun v H1 s1 d1 => h2 σ H1 (hp.same s1) _ fun vs H2 s2 d2 =>
  q _ H2 (s1.trans s2) (.cons (dq_same (But.of s2).del d1) d2)
theorem paired_app {α β : Type} {R : α → β → Prop} : ∀ {xs ys : List α} {us ws : List β}, Paired R xs us → Paired R ys ws → Paired R (xs ++ ys) (us ++ ws)
  | _, _, _, _, .nil, s => s
  | _, _, _, _, .cons r t, s => .cons r (paired_app t s)
theorem paired_mem {α β : Type} {R : α → β → Prop} : ∀ {xs : List α} {us : List β} {x : α}, Paired R xs us → x ∈ xs → ∃ u, u ∈ us ∧ R x u
  | _, _, _, .nil, h => by cases h
  | _, _, _, .cons r t, h => by
    rcases List.mem_cons.mp h with e | e
    · subst e; exact ⟨_, List.mem_cons_self .., r⟩
    · obtain ⟨u, h1, h2⟩ := paired_mem t e
      exact ⟨u, List.mem_cons_of_mem _ h1, h2⟩
end
/-- what repr shows of it fits -/
def okD (d : PyData) : Bool := d.showable && decide (d.depth ≤ 60) && decide (d.shown.length ≤ sizeLine)
theorem okD_of {d : PyData} (h : okD d = true) : d.showable = true ∧ d.depth ≤ 60 ∧ d.shown.length ≤ sizeLine := by
  unfold okD at h
  simp only [Bool.and_eq_true, decide_eq_true_eq] at h
  exact ⟨h.1.1, h.1.2, h.2⟩
end Lamp
set_option Elab.async false
set_option linter.all false
set_option maxRecDepth 100000
set_option maxHeartbeats 1000000
namespace Lamp
open PySem PySem.Spec PyProof.Rows L2
/-! division by any number but 0; tuples laid by tuple(..) that have no dict of their own; dict(..) of a tuple of pairs; defs called by keywords alone, in the opposite order -/
theorem rd_same {H H' : Hp} {a : Addr} {u : HO} (h : Rd H a u) (e : Same H H') : Rd H' a u := by
  rcases h with h | ⟨o, h⟩
  · exact .inl (e _ _ h)
  · exact .inr ⟨o, e _ _ h⟩
def CDivG (_ j : Int) : Prop := j ≠ 0 ∧ j.natAbs.log2 < 9000
def Bare (H : Hp) (t : Addr) (xs : List V) : Prop := ∃ o : Obj, H t = some (.frz o (.tup xs)) ∧ o.dict = none
theorem Bare.rd {H : Hp} {t : Addr} {xs : List V} (h : Bare H t xs) : Rd H t (.tup xs) := by
  obtain ⟨o, e, _⟩ := h
  exact .inr ⟨o, e⟩
theorem Bare.same {H H' : Hp} {t : Addr} {xs : List V} (h : Bare H t xs) (e : Same H H') : Bare H' t xs := by
  obtain ⟨o, h, d⟩ := h
  exact ⟨o, e _ _ h, d⟩
def rTupB (K : PySem.W.Frag) : List V → Hp → VK → Prop := fun xs H Q => ∃ p ys, xs = [.ref p] ∧ SqL K H p ys ∧ ∀ (l : Addr) (o : Obj), H l = none → o.dict = none → Q (.ref l) (upd H l (.frz o (.tup ys)))
/-- dict(..) of a bare tuple of pairs -/
def rDictT (K : PySem.W.Frag) : List V → Hp → VK → Prop := fun xs H Q => ∃ (a : Addr) (ps : List Addr) (kvs : List (Key × V)), xs = [.ref a] ∧ Bare H a (ps.map V.ref) ∧ Paired (fun p kv => SqT K H p [kV kv.1, kv.2]) ps kvs ∧
  ∀ p, H p = none → Q (.ref p) (upd H p (.dK (mergeK [] kvs)))
section
variable {X : Cx}
theorem op_fdivG : OpR X (binaryOp .FloorDiv) (rI CDivG fun i j => .int (i.fdiv j)) := opI fun i j _ _ _ _ _ hc q => floordiv_int hc.1 q (.inl (PyProof.noPylong_of_log2 hc.2))
theorem call_tupB : CallR X (.type "tuple") (rTupB X.K) := by
  intro pins s σ H xs us Q I r h
  obtain ⟨p, ys, rfl, hq, q⟩ := h
  obtain ⟨u, rfl, rx⟩ := vals1 r
  cases rx
  obtain ⟨its, r', pl, hz⟩ := I.list hq
  have hlen := r'.length
  refine call_tuple_list pl.isList (fun h' kp => ?_) (by simp only [List.size_toArray] <;> omega)
  have I1 : Inv X pins σ H { s with heap := h' } := I.kept (t' := s.toks) kp
  obtain ⟨o, eo⟩ : ∃ o : Obj, o = { cls := .type "tuple", data := .seq its.toArray } := ⟨_, rfl⟩
  have I2 : Inv X pins σ (upd H h'.objs.size (.frz o (.tup ys))) { s with heap := h'.push { cls := .type "tuple", data := .seq its.toArray } } :=
    I1.laid (t' := s.toks) (fun b o e => Heap.get?_push_of_some _ e) (Nat.le_refl _) (show ObjOk X.prog X.w _ _ _ (.frz o (.tup ys)) from ⟨by rw [eo]; exact Heap.get?_push_size _ rfl, hz, its, r', IsTup.new _ _⟩)
  exact ⟨.ref h'.objs.size, _, I2, rfl, q _ o (I1.hok.fresh (Nat.le_refl _)) (by rw [eo])⟩
theorem call_dictT (hcalm : X.calm = true) : CallR X (.type "dict") (rDictT X.K) := by
  intro pins s σ H xs us Q I r h
  obtain ⟨a, ps, kvs, rfl, ⟨o, ho, hd⟩, hp, q⟩ := h
  obtain ⟨u, rfl, rx⟩ := vals1 r
  cases rx
  obtain ⟨hget, hz, its, rv, o2, ho2, hc2, n2, hdat2⟩ := (show ObjOk X.prog X.w H s.heap a (.frz o (.tup (ps.map V.ref))) from I.hok a _ ho)
  rw [hget] at ho2
  cases ho2
  have ei := refs_at rv
  subst ei
  rw [List.length_map] at hz
  obtain ⟨prs, rel, hl, hpr⟩ := pairs_of I hp
  obtain ⟨vs, hvs⟩ : ∃ vs : List (Value × Value), vs.length = prs.length ∧ ∀ (j : Nat) (k v : Value), vs[j]? = some (k, v) → ∃ q : Key × Value, prs[j]? = some q ∧ q.2 = v ∧ keyIs q.1 k = true ∧ ∃ b, ps[j]? = some b ∧ IsTup s.heap b #[k, v] := by
    have all : ∀ j : Nat, ∃ kv : Value × Value, j < prs.length → ∃ q : Key × Value, prs[j]? = some q ∧ q.2 = kv.2 ∧ keyIs q.1 kv.1 = true ∧ ∃ b, ps[j]? = some b ∧ IsTup s.heap b #[kv.1, kv.2] := fun j => by
      by_cases hj : j < prs.length
      · obtain ⟨b, u, e1, e2, e3⟩ := hpr j prs[j] (List.getElem?_eq_getElem hj)
        exact ⟨(u, prs[j].2), fun _ => ⟨prs[j], List.getElem?_eq_getElem hj, rfl, e3, b, e1, e2⟩⟩
      · exact ⟨(.none, .none), fun z => absurd z hj⟩
    refine ⟨(List.range prs.length).map fun j => (all j).choose, by rw [List.length_map, List.length_range], fun j k v e => ?_⟩
    rw [List.getElem?_map] at e
    by_cases hj : j < prs.length
    · rw [List.getElem?_range hj] at e
      have e' : (all j).choose = (k, v) := Option.some.inj e
      have z := (all j).choose_spec hj
      rw [e'] at z
      exact z
    · rw [List.getElem?_eq_none (by rw [List.length_range]; omega)] at e
      cases e
  obtain ⟨hvl, hva⟩ := hvs
  refine PySem.call_dict_pairs (knd := mixKind X.prog X.w) (kvs := prs) (PairArg.tuple a (ps.map Value.ref).toArray (fun j => ps.getD j 0) vs) (I.ok.hd hcalm) ⟨⟨o, n2, hget, hc2, hd, hdat2⟩, by simp [hvl, hl], fun j k v e => ?_⟩ ⟨hvl.symm, fun j k v e => ?_⟩ (by rw [hvl, hl]; exact hz) fun h' tk hd' k => ?_
  · obtain ⟨q, e1, e2, e3, b, eb, et⟩ := hva j k v e
    have eg : ps.getD j 0 = b := by rw [List.getD_eq_getElem?_getD, eb]; rfl
    refine ⟨?_, .inl ?_⟩
    · show (ps.map Value.ref).toArray[j]? = some (Value.ref (ps.getD j 0))
      rw [eg, List.getElem?_toArray, List.getElem?_map, eb]
      rfl
    · show s.heap.IsTuple (ps.getD j 0) #[k, v]
      rw [eg]
      exact et
  · obtain ⟨q, e1, e2, e3, b, eb, et⟩ := hva j k v e
    exact ⟨q.1, by rw [e1, ← e2], e3⟩
  · have hm : (s.heap.objs.size == sysModules) = false := beq_eq_false_iff_ne.mpr (Nat.ne_of_gt I.big)
    have hlen : (mergeK [] kvs).length ≤ sizeLine := by
      refine Nat.le_trans (length_mergeK kvs []) ?_
      rw [List.length_nil, Nat.zero_add, rel.length, hl]
      exact hz
    exact ⟨.ref s.heap.objs.size, upd H s.heap.objs.size (.dK (mergeK [] kvs)), I.laid (t' := tk) (fun b o e => k b o (by simp) e) (Nat.le_refl _) (show ObjOk X.prog X.w _ _ _ (.dK (mergeK [] kvs)) from ⟨hlen, hm, merged [] prs, KV.merge rel .nil, hd'⟩), rfl, q _ (I.hok.fresh (Nat.le_refl _))⟩
end
theorem vals_rev : ∀ {vs : List V} {us : List Value}, Vals vs us → Vals vs.reverse us.reverse
  | _, _, .nil => .nil
  | _, _, .cons r t => by
    rw [List.reverse_cons, List.reverse_cons]
    exact (vals_rev t).append (.cons r .nil)
/-- what is known of a def that is called by keywords alone, in the opposite order -/
structure DrB (P : Program) (w : World) (K : PySem.W.Frag) (mg : Str → Option Value) (base : Heap) (sp : Sp) (x : Str) (ps : List Str) (k : Nat) : Prop where
  ex : ∃ (f : Addr) (fd : FuncData), FnOk P w K mg base CX0 k f fd ps sp ∧ (∀ (s : Shared) (us : List Value), us.length = ps.length → BindsTo s fd ⟨[], ps.reverse.zip us⟩ (ps.zip us.reverse)) ∧ mg x = some (.ref f) ∧ PySem.W.keepIn K (.ref f) = true
def tCallB (sp : Sp) (tk : TA) : TE := fun σ H Q => tk σ H fun zs H1 => sp zs.reverse H1 Q E0
section
variable {X : Cx} {sp : Sp} {x : Str} {ps : List Str} {k j : Nat} {tk : TA} {p pos : Pos} {kws : List Keyword}
theorem pe_drB (Z : DrB X.prog X.w X.K X.mg X.base sp x ps k) (hk : k ≤ j) (hr : Room j X.A) (hg : Gl X x) (hkw : PK X kws tk)
    (hall : (backToKw pos (keywordEach kws X.env)).all (·.1.isSome) = true := by rfl) (hks : (backToKw pos (keywordEach kws X.env)).filterMap (·.1) = ps.reverse := by rfl) (hdb : (x == ("__debug__" : Str)) = false := by decide)
    (hpl : ((backTo pos (starEach [] X.env)).any (·.1) || (backToKw pos (keywordEach kws X.env)).any (·.1.isNone)) = false := by rfl) : PE X (.Call (.Name x p) [] kws pos) (tCallB sp tk) := by
  obtain ⟨f, fd, F, b, m, kp⟩ := Z.ex
  refine ⟨fun pins s σ H Q I h => ?_⟩
  refine wpAny_Call_Name_kw (ld_glob I hg m ?_ hdb)
  refine PySem.W.callWith_KW0 (h₀ := X.base) I.ok.mod.kin kp hall ?_ hpl
  refine thn (hkw.run pos pins s σ H _ I h) fun ws s2 ⟨zs, H2, I2, rz, q⟩ => ⟨I2.kIn, ?_⟩
  rw [hks]
  have r2 := vals_rev rz
  have hl : ws.reverse.length = ps.length := by rw [← r2.length]; exact F.len _ _ _ _ q
  refine wpAny_call (codeAny_mono (F.run X.A X.stack s2 H2 ⟨[], ps.reverse.zip ws⟩ ws.reverse zs.reverse Q E0 (hr.mono hk) I2.env0 (b s2 ws (by rw [← hl, List.length_reverse])) r2 q) fun res s' told => ?_)
  match res, told with
  | .error _, told => exact False.elim told
  | .ok (.ret u), told => exact I2.after told
  | .ok .next, told => exact False.elim told
  | .ok .brk, told => exact False.elim told
  | .ok .cont, told => exact False.elim told
end
end Lamp
set_option Elab.async false
set_option linter.all false
set_option maxRecDepth 100000
namespace Lamp
open PySem PySem.Spec PyProof.Rows L2
def top (i : Nat) : Stmt := PySem.Challenge.pw_lamprounds_k20_doors_of_functions.main.body.getD i (.Pass ⟨0, 0, 0, 0⟩)
abbrev sBegun : Stmt := top 152
abbrev sCast : Stmt := top 153
abbrev sAny : Stmt := top 154
def spBegun (K : PySem.W.Frag) : Sp := fun vs H Q _ => ∃ (a : Addr) (ns : List Int) (t : Int), vs = [.ref a, .int t] ∧ SqL K H a (ns.map V.int) ∧ ns.length ≤ 63 ∧ (∀ z ∈ ns, Builtin.Int.intBits z ≤ 1048576) ∧ 0 ≤ t ∧ t ≤ 100 ∧
  ∀ H' p, Same H H' → H p = none → Pail H' p → Q (.ref p) H'
def spCast : Sp := fun vs H Q _ => ∃ (p : Addr) (m : Int), vs = [.ref p, .int m] ∧ 0 < m ∧ m < 1073741824 ∧ Pail H p ∧ ∀ (r : Int) H', 0 ≤ r → r < m → Pail H' p → But p H H' → Q (.int r) H'
theorem ints_at {ns : List Int} {i : Nat} {y : V} (h : (ns.map V.int)[i]? = some y) : ∃ z, ns[i]? = some z ∧ y = .int z := by
  rw [List.getElem?_map] at h
  cases e : ns[i]? with
  | none => rw [e] at h; cases h
  | some z => rw [e] at h; exact ⟨z, rfl, (Option.some.inj h).symm⟩
theorem cut_ints (ns : List Int) (lo hi : Option Int) : ∃ ms : List Int, cutV (ns.map V.int) lo hi = ms.map V.int := by
  unfold cutV
  exact ⟨_, by rw [← List.map_drop, ← List.map_take]⟩
/-! reading a term without allocation -/
section
variable {σ : L2.St} {H : Hp} {K : PySem.W.Frag} {ta tb : TE} {i j : Int} {x y z : V}
theorem lv_I0 {g : Int → Int → V} : ∀ Q : VK, Q (g i j) H → rI0 g (.int i) (.int j) H Q := fun _ q => ⟨i, j, rfl, rfl, q⟩
theorem lv_I {C : Int → Int → Prop} {g : Int → Int → V} (h : C i j) : ∀ Q : VK, Q (g i j) H → rI C g (.int i) (.int j) H Q := fun _ q => ⟨i, j, rfl, rfl, h, q⟩
theorem lv_ix {p : Addr} {xs : List V} (h : H p = some (.lst xs)) (e : atI xs i = some z) : ∀ Q : VK, Q z H → rIxL K (.ref p) (.int i) H Q := fun _ q => ⟨p, xs, i, z, rfl, rfl, SqL.of h, e, q⟩
theorem lv_int (h : Val ta σ H (.int i)) : Val (tCB (fun xs H Q => (∃ i, xs = [.int i] ∧ Q (.int i) H) ∨ ∃ k, xs = [.bl k] ∧ Q (.int (if k then 1 else 0)) H) (tCons ta tNil)) σ H (.int i) := fun Q q => h _ (Or.inl ⟨i, rfl, q⟩)
theorem lv_ixS {p : Addr} {xs : List V} (h : SqL K H p xs) (e : atI xs i = some z) : ∀ Q : VK, Q z H → rIxL K (.ref p) (.int i) H Q := fun _ q => ⟨p, xs, i, z, rfl, rfl, h, e, q⟩
theorem lv_if {t : TT} {b : Bool} (h : Ans t σ H b) (h1 : b = true → Val ta σ H x) (h2 : b = false → Val tb σ H x) : Val (tIf t ta tb) σ H x := by
  intro Q q
  refine h _ ?_
  cases b with
  | true => exact h1 rfl Q q
  | false => exact h2 rfl Q q
theorem lv_len {p : Addr} {ys : List V} (h : Val ta σ H (.ref p)) (hs : SqL K H p ys) : Val (tCB (fun xs H Q => ∃ p ys, xs = [.ref p] ∧ (SqL K H p ys ∨ SqT K H p ys) ∧ Q (.int ys.length) H) (tCons ta tNil)) σ H (.int ys.length) :=
  fun Q q => h _ ⟨p, ys, rfl, .inl hs, q⟩
theorem lv_abs (h : Val ta σ H (.int i)) : Val (tCB (fun xs H Q => ∃ i, xs = [.int i] ∧ Q (.int (if i < 0 then -i else i)) H) (tCons ta tNil)) σ H (.int (if i < 0 then -i else i)) := fun Q q => h _ ⟨i, rfl, q⟩
theorem lv_lst3 {tc : TE} {D : Ends} (h1 : Val ta σ H x) (h2 : Val tb σ H y) (h3 : Val tc σ H z) (q : ∀ p, H p = none → D.rt (.ref p) (upd H p (.lst [x, y, z]))) : tRet (tLst (tCons ta (tCons tb (tCons tc tNil)))) D σ H :=
  h1 _ (h2 _ (h3 _ ⟨by show 3 ≤ sizeLine; decide, q⟩))
theorem lv_op1 {r : R2} (ha : Val ta σ H x) (hb : Val tb σ H y) (hr : ∀ Q : VK, Q z H → r x y H Q) : Val (tOp r ta tb) σ H z := val_op ha hb hr
end
section
variable {σ : L2.St} {H : Hp} {D : Ends} {te ta tb : TE} {t1 t2 t3 : TS} {c : TT} {v : V} {i : Nat}
theorem sq_no (h : Ans c σ H false) (q : t2 D σ H) : tSeq (tIfS c t1 tNext) t2 D σ H := st_seq (st_no h q)
theorem sq_yes (h : Ans c σ H true) (q : t1 { D with nx := t2 D } σ H) : tSeq (tIfS c t1 t3) t2 D σ H := st_seq (st_yes h q)
theorem sq_set (h : Val te σ H v) (q : t2 D (σ.set i (some v)) H) : tSeq (tAsg te (gName i)) t2 D σ H := st_seq (st_set h q)
theorem sq_setL {p : Addr} {xs : List V} {k : Int} {j : Nat} (h : Val te σ H v) (ha : Val ta σ H (.ref p)) (hb : Val tb σ H (.int k)) (hp : H p = some (.lst xs)) (hj : ixN xs.length k = some j)
    (q : t2 D σ (upd H p (.lst (xs.set j v)))) : tSeq (tAsg te (gSub ta tb rSetL)) t2 D σ H := h _ (ha _ (hb _ ⟨p, xs, k, j, rfl, rfl, hp, hj, q⟩))
theorem sq_for {K : PySem.W.Frag} {g : TG} (P : Addr → Hp → Prop) (h : ∀ Q : VK, (∀ a H1, P a H1 → Q (.ref a) H1) → te σ H Q)
    (k : ∀ a H1, P a H1 → ∃ (xs : List V) (Pv : Nat → L2.St → Hp → Prop), SqL K H1 a xs ∧ Pv 0 σ H1 ∧ (∀ i σ H, i ≤ xs.length → Pv i σ H → SqL K H a xs) ∧ (∀ i x σ H, xs[i]? = some x → Pv i σ H → g x σ H fun σ2 H2 => t1 { D with nx := Pv (i + 1), ct := Pv (i + 1), bk := t2 D } σ2 H2) ∧ ∀ σ H, Pv xs.length σ H → t2 D σ H) :
    tSeq (tFor (iList K te) g t1) t2 D σ H := h _ fun a H1 p => by
  obtain ⟨xs, Pv, h1, h2, h3, h4, h5⟩ := k a H1 p
  exact ⟨a, rfl, ⟨xs, h1⟩, for_list (D := { D with nx := t2 D }) Pv h2 h3 h4 h5⟩
theorem an_gt {x y : Int} {b : Bool} (ha : Val ta σ H (.int x)) (hb : Val tb σ H (.int y)) (e : decide (y < x) = b) : Ans (tTest (tOp (rI0 fun i j => .bl (decide (j < i))) ta tb)) σ H b :=
  ans_cmp ha hb fun Q q => ⟨x, y, rfl, rfl, (show Q (.bl (decide (y < x))) H by rw [e]; exact q)⟩
theorem an_lt {x y : Int} {b : Bool} (ha : Val ta σ H (.int x)) (hb : Val tb σ H (.int y)) (e : decide (x < y) = b) : Ans (tTest (tOp (rI0 fun i j => .bl (decide (i < j))) ta tb)) σ H b :=
  ans_cmp ha hb fun Q q => ⟨x, y, rfl, rfl, (show Q (.bl (decide (x < y))) H by rw [e]; exact q)⟩
theorem an_ge {x y : Int} {b : Bool} (ha : Val ta σ H (.int x)) (hb : Val tb σ H (.int y)) (e : decide (y ≤ x) = b) : Ans (tTest (tOp (rI0 fun i j => .bl (decide (j ≤ i))) ta tb)) σ H b :=
  ans_cmp ha hb fun Q q => ⟨x, y, rfl, rfl, (show Q (.bl (decide (y ≤ x))) H by rw [e]; exact q)⟩
end
theorem mulR {i j : Int} (h : j < 2 ^ 64 ∧ -(2 ^ 64) < j) : CMul i j := .inr ⟨h.2, h.1⟩
theorem mulL {i j : Int} (h : i < 2 ^ 64 ∧ -(2 ^ 64) < i) : CMul i j := .inl ⟨h.2, h.1⟩
local macro_rules | `(tactic| walk_at "lv") => `(tactic| first
  | exact val_var rfl
  | exact val_c
  | (refine' lv_int ?ha; (case ha => walk_at "lv"))
  | (refine' lv_op1 ?ha ?hb ?hr; (case ha => walk_at "lv"); (case hb => walk_at "lv"); (case hr => first | exact fun _ q => ⟨_, _, rfl, rfl, q⟩ | (refine' lv_ix ?hh ?ee; (case hh => assumption); (case ee => rfl)) | exact fun _ q => ⟨_, _, rfl, rfl, mulR ⟨by decide, by decide⟩, q⟩ | exact fun _ q => ⟨_, _, rfl, rfl, mulL ⟨by decide, by decide⟩, q⟩ | exact fun _ q => ⟨_, _, rfl, rfl, (show CDiv _ _ from ⟨by omega, by omega⟩), q⟩ | exact fun _ q => ⟨_, _, rfl, rfl, mulL (by omega), q⟩ | exact fun _ q => ⟨_, _, rfl, rfl, mulR (by omega), q⟩ | exact fun _ q => ⟨_, _, rfl, rfl, (show (0 : Int) < _ by omega), q⟩)))
section
variable {P : Program} {w : World} {K : PySem.W.Frag} {mg : Str → Option Value} {base : Heap}
theorem pyl {x m : Int} (h0 : 0 < m) (h1 : m < 1073741824) : Builtin.divisionGoesByPylong x m = false := by
  have hl : m.natAbs.log2 < 30 := PySem.Flt.log2_lt_of (by decide) (by omega)
  have hm : ¬ ((if (m == 0) = true then 0 else m.natAbs.log2 / 30 + 1) > 300) := by
    split
    · decide
    · omega
  show (decide ((if (m == 0) = true then 0 else m.natAbs.log2 / 30 + 1) > 300) && _) = false
  rw [decide_eq_false hm, Bool.false_and]
theorem scBegun : FnScope ["_law_script", "_law_turn", "_law_own", "_law_state", "_law_cell"] ["_law_script", "_law_turn"] (defScope sBegun) := ⟨rfl, rfl, rfl, by decide +kernel, rfl, by decide +kernel, by decide +kernel⟩
theorem scCast : FnScope ["_law_pail", "_law_many", "_law_figure", "_law_state"] ["_law_pail", "_law_many"] (defScope sCast) := ⟨rfl, rfl, rfl, by decide +kernel, rfl, by decide +kernel, by decide +kernel⟩
theorem ok_cast {f : Addr} {fd : FuncData} {k : Nat} (F : Fun K "_law_cast" "_law_cast" sCast f fd) (mi : mg "int" = none) (md : mg "divmod" = none) : FnOk P w K mg base CX0 (k + 1) f fd ["_law_pail", "_law_many"] spCast := by
  refine F.ok scCast (fun vs H Q E h => ?_) (fun cdv A outer s H vs Q E hr h => ?_)
  · obtain ⟨p, m, rfl, _⟩ := h
    rfl
  · obtain ⟨p, m, rfl, h0, h1, ⟨x, y, z, hp, hx, hy, hy2⟩, q⟩ := h
    refine ⟨_, pss_cons (ps_if (pt_cmpR op_gt (pe_ix ix_list (pv 0) pe_int (fun _ _ => rfl)) pe_int (nomark _))
        (pss_cons (ps_asg (pe_callB call_divmodW (by rfl) md (by decide +kernel) (pa_cons (pe_ix ix_list (pv 0) pe_int (fun _ _ => rfl)) (pa_cons (pv 1) pa_nil)))
            (pg_tup rfl (pgs_cons (pg_sub (pv 0) pe_int set_list) (pgs_cons (pg_name (i := 2) scCast.nd rfl (.inl rfl)) pgs_nil))))
          (pss_one (ps_ret (pv 2)))) pss_nil)
      (pss_cons (ps_asg (pe_op op_add (pe_ix ix_list (pv 0) pe_int (fun _ _ => rfl)) pe_int) (pg_sub (pv 0) pe_int set_list))
      (pss_cons (ps_set (i := 3) scCast.nd rfl (.inl rfl) (pe_op op_mod (pe_callTy call_int1 (by rfl) mi (by decide +kernel) (pa_cons (pe_op op_add (pe_op op_add (pe_op op_mul (pe_ix ix_list (pv 0) pe_int (fun _ _ => rfl)) (pe_op op_add pe_int (pe_op op_mul pe_int (pe_ix ix_list (pv 0) pe_int (fun _ _ => rfl))))) (pe_op op_mul pe_int (pe_ix ix_list (pv 0) pe_int (fun _ _ => rfl)))) pe_int) pa_nil)) pe_int))
      (pss_cons (ps_asg (pe_op op_mod (pe_callTy call_int1 (by rfl) mi (by decide +kernel) (pa_cons (pe_op op_add (pe_op op_add (pe_op op_mul (pv 3) pe_int) (pe_op op_mul pe_int (pe_ix ix_list (pv 0) pe_int (fun _ _ => rfl)))) pe_int) pa_nil)) pe_int) (pg_sub (pv 0) pe_int set_list))
      (pss_one (ps_ret (pe_op op_mod (pe_callTy call_int1 (by rfl) mi (by decide +kernel) (pa_cons (pe_op op_fdiv (pe_ix ix_list (pv 0) pe_int (fun _ _ => rfl)) pe_int) pa_nil)) (pv 1))))))), ?_⟩
    by_cases hx0 : 0 < x
    · refine sq_yes (an_gt (x := x) (by walk_at "lv") val_c (decide_eq_true hx0)) ?_
      refine ⟨.ref p, rfl, p, _, 0, .int x, rfl, rfl, SqL.of hp, rfl, _, rfl, x, m, rfl, ⟨h0, pyl h0 h1⟩, fun t nt => ?_⟩
      have ntp : p ≠ t := ne_of_none hp nt
      refine ⟨t, _, rfl, SqT.of upd_same, rfl, _, _, rfl, ?_⟩
      refine ⟨.ref p, rfl, p, [.int x, .int y, .int z], 0, 0, rfl, rfl, (by rw [upd_ne ntp]; exact hp), rfl, ?_⟩
      refine ⟨_, _, rfl, rfl, ?_⟩
      refine ⟨_, rfl, ?_⟩
      refine q _ _ (Int.emod_nonneg _ (by omega)) (Int.emod_lt_of_pos _ h0) ⟨_, _, _, upd_same, Int.ediv_nonneg hx (by omega), hy, hy2⟩ ?_
      exact (But.new nt).trans But.at
    · refine sq_no (an_gt (x := x) (by walk_at "lv") val_c (decide_eq_false hx0)) ?_
      refine sq_setL (by walk_at "lv") (val_var rfl) val_c hp rfl ?_
      have hp1 : (upd H p (.lst [.int x, .int y, .int (z + 1)])) p = some (.lst [.int x, .int y, .int (z + 1)]) := upd_same
      refine sq_set (by walk_at "lv") ?_
      obtain ⟨Y, hY⟩ : ∃ Y : Int, ((y * (36809 + 2 * (z + 1)) + 5303 * (z + 1) + 7) % 2147483629 * 45413 + 3 * (z + 1) + 1) % 2147483587 = Y := ⟨_, rfl⟩
      refine sq_setL (v := .int Y) (j := 1) ?hv (val_var rfl) val_c hp1 rfl ?_
      case hv =>
        rw [← hY]
        walk_at "lv"
      have hY0 : 0 ≤ Y := by rw [← hY]; exact Int.emod_nonneg _ (by decide)
      have hY1 : Y < 2147483587 := by rw [← hY]; exact Int.emod_lt_of_pos _ (by decide)
      have hp2 : (upd (upd H p (.lst [.int x, .int y, .int (z + 1)])) p (.lst [.int x, .int Y, .int (z + 1)])) p = some (.lst [.int x, .int Y, .int (z + 1)]) := upd_same
      refine st_ret (v := .int (Y / 256 % m)) ?_ ?_
      · walk_at "lv"
      · exact q _ _ (Int.emod_nonneg _ (by omega)) (Int.emod_lt_of_pos _ h0) ⟨_, _, _, upd_same, hx, hY0, by omega⟩ (But.at.trans But.at)
theorem ok_begun {f : Addr} {fd : FuncData} {k : Nat} (F : Fun K "_law_begun" "_law_begun" sBegun f fd) (mi : mg "int" = none) (ml : mg "len" = none) (ma : mg "abs" = none) : FnOk P w K mg base CX0 (k + 1) f fd ["_law_script", "_law_turn"] (spBegun K) := by
  refine F.ok scBegun (fun vs H Q E h => ?_) (fun cdv A outer s H vs Q E hr h => ?_)
  · obtain ⟨a, ns, t, rfl, _⟩ := h
    rfl
  · obtain ⟨a, ns, t, rfl, hS, hlen, hbits, ht0, ht1, q⟩ := h
    refine ⟨_, pss_cons (ps_set (i := 2) scBegun.nd rfl (.inl rfl) (pe_ifExp (pt_cmpR op_lt (pv 1) (pe_callB call_len_seq (by rfl) ml PySem.boot_len (pa_cons (pv 0) pa_nil)) (nomark _)) (pe_ix ix_list (pv 0) (pv 1) (fun _ _ => rfl)) pe_int))
      (pss_cons (ps_set (i := 3) scBegun.nd rfl (.inl rfl) (pe_op op_add pe_int (pe_op op_mul pe_int (pv 1))))
      (pss_cons (ps_for PassesOwn.never rfl (pi_list (pe_slice sl_list (pv 0) po_none (po_some pe_int))) (pg_name (i := 4) scBegun.nd rfl (.inl rfl))
        (pss_one (ps_set (i := 3) scBegun.nd rfl (.inl rfl) (pe_op op_mod (pe_callTy call_int1 (by rfl) mi (by decide +kernel) (pa_cons (pe_op op_add (pe_op op_add (pe_op op_mul (pv 3) pe_int) (pe_op op_mul (pv 4) pe_int)) pe_int) pa_nil)) pe_int))))
      (pss_one (ps_ret (pe_lst (pa_cons (pe_ifExp (PW.pt (pw_or (pt_cmpR op_lt (pv 2) pe_int (nomark _)) (pw_or1 (pt_cmpR op_ge (pv 2) (pe_op op_pow pe_int pe_int) (nomark _))))) (pe_callB call_abs (by rfl) ma (by decide +kernel) (pa_cons (pv 2) pa_nil)) pe_int)
        (pa_cons (pe_op op_mod (pe_callTy call_int1 (by rfl) mi (by decide +kernel) (pa_cons (pe_op op_add (pe_op op_add (pe_op op_mul (pv 3) pe_int) (pe_op op_mulX (pv 2) (pv 2))) (pe_op op_mul pe_int (pv 1))) pa_nil)) pe_int)
          (pa_cons pe_int pa_nil)))))))), ?_⟩
    -- own
    have hown : ∃ own : Int, Builtin.Int.intBits own ≤ 1048576 ∧ ∀ hlt : Bool, decide (t < (ns.length : Int)) = hlt → (hlt = true → atI (ns.map V.int) t = some (.int own)) ∧ (hlt = false → own = 0) := by
      by_cases hl : t < (ns.length : Int)
      · have hj : t.toNat < ns.length := by omega
        refine ⟨ns[t.toNat], hbits _ (List.getElem_mem hj), fun b hb => ⟨fun _ => ?_, fun e => ?_⟩⟩
        · exact L2.at_of (j := t.toNat) (by omega) (by rw [List.getElem?_map, List.getElem?_eq_getElem hj]; rfl)
        · rw [decide_eq_true hl] at hb
          rw [e] at hb
          cases hb
      · refine ⟨0, by decide, fun b hb => ⟨fun e => ?_, fun _ => rfl⟩⟩
        rw [decide_eq_false hl] at hb
        rw [e] at hb
        cases hb
    obtain ⟨own, hob, how⟩ := hown
    obtain ⟨b, hb⟩ : ∃ b, decide (t < (ns.length : Int)) = b := ⟨_, rfl⟩
    have how := how b hb
    refine sq_set (v := .int own) (lv_if (b := b) (an_lt (val_var rfl) (lv_len (val_var rfl) hS) (by rw [List.length_map]; exact hb)) (fun e => val_op (val_var rfl) (val_var rfl) (lv_ixS hS (how.1 e))) (fun e => by rw [how.2 e]; exact val_c)) ?_
    refine sq_set (by walk_at "lv") ?_
    -- the loop
    refine sq_for (fun c H1 => H c = none ∧ H1 = upd H c (.lst (cutV (ns.map V.int) none (some 6)))) (fun Q q => ⟨.ref a, rfl, 6, rfl, a, ns.map V.int, rfl, hS, fun c nc => q c _ ⟨nc, rfl⟩⟩) ?_
    rintro c H1 ⟨nc, rfl⟩
    obtain ⟨ms, hms⟩ := cut_ints ns none (some 6)
    have sm : Same H (upd H c (.lst (cutV (ns.map V.int) none (some 6)))) := fun b o e => by rw [upd_ne (ne_of_none e nc)]; exact e
    rw [hms] at sm ⊢
    refine ⟨ms.map V.int, fun i σ H' => ∃ (st : Int) (v4 : Option V), σ = [some (.ref a), some (.int t), some (.int own), some (.int st), v4] ∧ 0 ≤ st ∧ st < 2147483648 ∧ H' = upd H c (.lst (ms.map V.int)), SqL.of upd_same,
      ⟨60013 + 7727 * t, none, rfl, by omega, by omega, rfl⟩, (fun i σ H' _ ⟨_, _, _, _, _, e⟩ => by rw [e]; exact SqL.of upd_same), ?_, ?_⟩
    · rintro i y σ H' hi ⟨st, v4, rfl, hs0, hs1, rfl⟩
      obtain ⟨z, hz, rfl⟩ := ints_at hi
      show tAsg _ _ _ _ _
      refine st_set (v := .int ((st * 30269 + z * 7 + 13) % 2147483629)) (by walk_at "lv") ?_
      exact ⟨_, _, rfl, Int.emod_nonneg _ (by decide), Int.lt_of_lt_of_le (Int.emod_lt_of_pos _ (by decide)) (by decide), rfl⟩
    · rintro σ H' ⟨st, v4, rfl, hs0, hs1, rfl⟩
      have hX : ∃ X : Int, 0 ≤ X ∧ ((own < 0 ∧ X = -own) ∨ (¬ own < 0 ∧ (10 : Int) ^ 18 ≤ own ∧ X = own) ∨ (¬ own < 0 ∧ ¬ (10 : Int) ^ 18 ≤ own ∧ X = 0)) := by
        by_cases h1 : own < 0
        · exact ⟨-own, by omega, .inl ⟨h1, rfl⟩⟩
        · by_cases h2 : (10 : Int) ^ 18 ≤ own
          · exact ⟨own, by omega, .inr (.inl ⟨h1, h2, rfl⟩)⟩
          · exact ⟨0, by omega, .inr (.inr ⟨h1, h2, rfl⟩)⟩
      obtain ⟨X, hX0, hX⟩ := hX
      refine lv_lst3 (x := .int X) (y := .int ((st * 53 + own * own + 17 * t) % 2147483629)) (z := .int 0) ?_ ?_ val_c ?_
      · rcases hX with ⟨h1, e⟩ | ⟨h1, h2, e⟩ | ⟨h1, h2, e⟩
        · refine lv_if (b := true) (ans_or1 (an_lt (val_var rfl) val_c (decide_eq_true h1))) (fun _ => ?_) (fun z => Bool.noConfusion z)
          have e2 : (if own < 0 then -own else own) = X := by rw [if_pos h1, e]
          rw [← e2]
          exact lv_abs (val_var rfl)
        · refine lv_if (b := true) (ans_or (an_lt (val_var rfl) val_c (decide_eq_false h1)) (an_ge (y := 10 ^ 18) (val_var rfl) ?_ (decide_eq_true h2))) (fun _ => ?_) (fun z => Bool.noConfusion z)
          · exact val_op val_c val_c fun _ q => ⟨_, _, rfl, rfl, ⟨by decide, by decide, by decide⟩, q⟩
          · have e2 : (if own < 0 then -own else own) = X := by rw [if_neg h1, e]
            rw [← e2]
            exact lv_abs (val_var rfl)
        · refine lv_if (b := false) (ans_or (an_lt (val_var rfl) val_c (decide_eq_false h1)) (an_ge (y := 10 ^ 18) (val_var rfl) ?_ (decide_eq_false h2))) (fun z => Bool.noConfusion z) (fun _ => ?_)
          · exact val_op val_c val_c fun _ q => ⟨_, _, rfl, rfl, ⟨by decide, by decide, by decide⟩, q⟩
          · rw [e]
            exact val_c
      · refine val_op (lv_int (val_op (val_op (by walk_at "lv") (val_op (val_var rfl) (val_var rfl) (fun _ q => ⟨_, _, rfl, rfl, (show (Builtin.Int.intBits own : Int) + (Builtin.Int.intBits own : Int) ≤ 134217728 by omega), q⟩)) (fun _ q => ⟨_, _, rfl, rfl, q⟩)) (by walk_at "lv") (fun _ q => ⟨_, _, rfl, rfl, q⟩))) val_c (fun _ q => ⟨_, _, rfl, rfl, (show (0 : Int) < _ by decide), q⟩)
      · intro p np
        refine q _ p (fun b o e => ?_) (sm.free np) ⟨_, _, _, upd_same, hX0, Int.emod_nonneg _ (by decide), Int.lt_of_lt_of_le (Int.emod_lt_of_pos _ (by decide)) (by decide)⟩
        rw [upd_ne (ne_of_none (sm b o e) np)]
        exact sm b o e
end
def spAny : Sp := fun vs H Q _ => ∃ (p l : Addr) (xs : List V), vs = [.ref p, .ref l] ∧ l ≠ p ∧ H l = some (.lst xs) ∧ 0 < xs.length ∧ xs.length < 1000000 ∧ Pail H p ∧ ∀ (v : V) H', v ∈ xs → Pail H' p → But p H H' → Q v H'
section
variable {P : Program} {w : World} {K : PySem.W.Frag} {mg : Str → Option Value} {base : Heap}
theorem scAny : FnScope ["_law_pail", "_law_some"] ["_law_pail", "_law_some"] (defScope sAny) := ⟨rfl, rfl, rfl, by decide +kernel, rfl, by decide +kernel, by decide +kernel⟩
theorem ok_any {f fC : Addr} {fd fdC : FuncData} {k : Nat} (F : Fun K "_law_any_of" "_law_any_of" sAny f fd) (G : FnOk P w K mg base CX0 k fC fdC ["_law_pail", "_law_many"] spCast) (bC : Binds K fdC ["_law_pail", "_law_many"] []) (mC : mg "_law_cast" = some (.ref fC)) (kC : PySem.W.keepIn K (.ref fC) = true) (ml : mg "len" = none) :
    FnOk P w K mg base CX0 (k + 1) f fd ["_law_pail", "_law_some"] spAny := by
  refine F.ok scAny (fun vs H Q E h => ?_) (fun cdv A outer s H vs Q E hr h => ?_)
  · obtain ⟨p, l, xs, rfl, _⟩ := h
    rfl
  · obtain ⟨p, l, xs, rfl, hne, hl, h0, h1, hp, q⟩ := h
    refine ⟨_, pss_one (ps_ret (pe_ix ix_list (pv 1) (pe_call G hr rfl mC kC bC .nil pass0 (pa_cons (pv 0) (pa_cons (pe_callB call_len_seq (by rfl) ml PySem.boot_len (pa_cons (pv 1) pa_nil)) pa_nil))) (fun _ _ => rfl))), ?_⟩
    refine ⟨_, rfl, _, rfl, _, rfl, l, xs, rfl, .inl (SqL.of hl), p, (xs.length : Int), rfl, by omega, by omega, hp, fun r H' r0 r1 hp' bt => ?_⟩
    obtain ⟨j, ej⟩ : ∃ j : Nat, r = (j : Int) := ⟨r.toNat, by omega⟩
    have hj : j < xs.length := by omega
    have hl' : H' l = some (.lst xs) := bt l _ hne hl
    exact ⟨l, xs, r, xs[j], rfl, rfl, SqL.of hl', L2.at_of ej (List.getElem?_eq_getElem hj), q _ _ (List.getElem_mem hj) hp' bt⟩
end
end Lamp
set_option Elab.async false
set_option linter.all false
set_option maxRecDepth 100000
set_option maxHeartbeats 1000000
namespace Lamp
open PySem PySem.Spec PyProof.Rows L2
/-- all that the walk asks of an exception class whose __init__ keeps f -/
structure XC (P : Program) (w : World) (K : PySem.W.Frag) (mg : Str → Option Value) (C : Addr) (x f : Str) : Prop where
  T : ∃ (B newId initId : String) (tail : List Value), EC K C B newId initId tail
  hm : mg x = some (.ref C)
  nf : PySem.W.findIn K (.ref C) f = some none
  made : ∃ (fI : Addr) (fd : FuncData), PySem.W.findIn K (.ref C) "__init__" = some (some (.ref fI)) ∧ PySem.W.typeIn K (.ref fI) = some (.type "function") ∧ PySem.W.takerIn K C f = some none ∧
    (∀ base : Heap, FnOk P w K mg base CX0 1 fI fd ["self", f] (spInit K C f)) ∧ (∀ (s : Shared) (v u : Value), K.In s.heap → BindsTo s fd ⟨[v, u], []⟩ [("self", v), (f, u)]) ∧ (∀ (s : Shared) (v u : Value), K.In s.heap → BindsTo s fd ⟨[v], [(f, u)]⟩ [("self", v), (f, u)])
/-- .. that has no __init__ of the program -/
structure XN (K : PySem.W.Frag) (mg : Str → Option Value) (C : Addr) (x : Str) : Prop where
  T : ∃ (B newId initId : String) (tail : List Value), EC K C B newId initId tail ∧ PySem.W.excIn K C tail newId = true
  hm : mg x = some (.ref C)
section
variable {X : Cx} {C : Addr} {x f : Str} {p pos : Pos} {e : Expr} {ta : TE}
theorem pe_xc (Z : XC X.prog X.w X.K X.mg C x f) (hr : Room 2 X.A) (hg : Gl X x) (ha : PE X e ta) (hs : starEach [e] X.env = (false, eval e X.env) :: starEach [] X.env := by rfl) (hdb : (x == ("__debug__" : Str)) = false := by decide) :
    PE X (.Call (.Name x p) [e] [] pos) (tMkE C f ta) := by
  obtain ⟨fI, fd, h1, h2, h3, h4, h5, _⟩ := Z.made
  obtain ⟨B, newId, initId, tail, T⟩ := Z.T
  exact pe_mkE T h1 h2 h3 (h4 _) hr h5 hg Z.hm ha hs hdb
theorem pe_xk {kws : List Keyword} {tk : TA} (Z : XC X.prog X.w X.K X.mg C x f) (hr : Room 2 X.A) (hg : Gl X x) (hkw : PK X kws tk) (hall : (backToKw pos (keywordEach kws X.env)).all (·.1.isSome) = true := by rfl) (hks : (backToKw pos (keywordEach kws X.env)).filterMap (·.1) = [f] := by rfl)
    (hdb : (x == ("__debug__" : Str)) = false := by decide) (hpl : ((backTo pos (starEach [] X.env)).any (·.1) || (backToKw pos (keywordEach kws X.env)).any (·.1.isNone)) = false := by rfl) : PE X (.Call (.Name x p) [] kws pos) (tMkK C f tk) := by
  obtain ⟨fI, fd, h1, h2, h3, h4, _, h6⟩ := Z.made
  obtain ⟨B, newId, initId, tail, T⟩ := Z.T
  exact pe_mkK T h1 h2 h3 (h4 _) hr h6 hg Z.hm hkw hall hks hdb hpl
/-- C() -/
def tMkN (C : Addr) : TE := fun _ H Q => ∀ a, H a = none → Q (.ref a) (upd H a (exo a C none))
theorem pe_xn (Z : XN X.K X.mg C x) (hg : Gl X x) (hdb : (x == ("__debug__" : Str)) = false := by decide) : PE X (.Call (.Name x p) [] [] pos) (tMkN C) := by
  obtain ⟨B, newId, initId, tail, T, q⟩ := Z.T
  exact pe_mk0 T.F q Z.hm T.kp hg hdb
end
/-! rows of exceptions made -/
/-- a class with the field that its exceptions have -/
abbrev XSpec := Addr × Option Str
def XHas (H : Hp) (y : V) (a : Addr) (s : XSpec) : Prop := match s.2 with
  | some f => XFld H a s.1 f y
  | none => XAt H a s.1
theorem XHas.same {H H' : Hp} {y : V} {a : Addr} {s : XSpec} (h : XHas H y a s) (e : Same H H') : XHas H' y a s := by
  obtain ⟨C, f⟩ := s
  cases f with
  | none => exact XAt.same h e
  | some f => exact XFld.same h e
theorem XHas.at {H : Hp} {y : V} {a : Addr} {s : XSpec} (h : XHas H y a s) : XAt H a s.1 := by
  obtain ⟨C, f⟩ := s
  cases f with
  | none => exact h
  | some f => exact XFld.at h
def EvX (y : V) (te : TE) (σ : L2.St) (s : XSpec) : Prop := ∀ (H : Hp) (Q : VK), (∀ a H', Same H H' → XHas H' y a s → Q (.ref a) H') → te σ H Q
def EvXs (y : V) (ta : TA) (σ : L2.St) (ss : List XSpec) : Prop := ∀ (H : Hp) (Q : List V → Hp → Prop), (∀ (as : List Addr) H', Same H H' → Paired (XHas H' y) as ss → Q (as.map V.ref) H') → ta σ H Q
section
variable {y : V} {te : TE} {ta : TA} {σ : L2.St} {s : XSpec} {ss : List XSpec} {C : Addr} {f : Str}
theorem made_same {H : Hp} {a dx : Addr} (h1 : H a = none) (h2 : H dx = none) (ne : dx ≠ a) : Same H (upd (upd (upd H a (exo a C none)) dx (exd dx [(f, y)])) a (exo a C (some dx))) := fun b o e => by
  rw [upd_ne (ne_of_none e h1), upd_ne (ne_of_none e h2), upd_ne (ne_of_none e h1)]
  exact e
theorem made_has {H : Hp} {a dx : Addr} (ne : dx ≠ a) : XFld (upd (upd (upd H a (exo a C none)) dx (exd dx [(f, y)])) a (exo a C (some dx))) a C f y :=
  ⟨dx, upd_same, by rw [upd_ne ne, upd_same]⟩
theorem evx_e {i : Nat} (h : σ[i]? = some (some y)) : EvX y (tMkE C f (tVar i)) σ (C, some f) := fun H Q q => ⟨y, h, fun a dx h1 h2 ne => q a _ (made_same h1 h2 ne) (made_has ne)⟩
theorem evx_k {i : Nat} (h : σ[i]? = some (some y)) : EvX y (tMkK C f (tCons (tVar i) tNil)) σ (C, some f) := fun H Q q => ⟨y, h, y, rfl, fun a dx h1 h2 ne => q a _ (made_same h1 h2 ne) (made_has ne)⟩
theorem evx_n : EvX y (tMkN C) σ (C, none) := fun H Q q a h => q a _ (same_of h) (.inl upd_same)
theorem evxs_nil : EvXs y tNil σ [] := fun H Q q => q [] H (Same.refl H) .nil
theorem evxs_cons (h1 : EvX y te σ s) (h2 : EvXs y ta σ ss) : EvXs y (tCons te ta) σ (s :: ss) := fun H Q q => h1 H _ fun a H1 s1 x1 => h2 H1 _ fun as H2 s2 x2 => q (a :: as) H2 (s1.trans s2) (.cons (x1.same s2) x2)
theorem xs_same {H H' : Hp} (e : Same H H') {as : List Addr} (h : Paired (XHas H y) as ss) : Paired (XHas H' y) as ss := L2.Paired.mapP h fun _ _ x => x.same e
variable {t2 : TS} {D : Ends} {H : Hp} {i : Nat} {ss0 : List XSpec}
theorem sq_lstX (h : EvXs y ta σ ss) (hl : ss.length ≤ 100) (k : ∀ l (as : List Addr) H', H' l = some (.lst (as.map V.ref)) → Same H H' → Paired (XHas H' y) as ss → t2 D (σ.set i (some (.ref l))) H') : tSeq (tAsg (tLst ta) (gName i)) t2 D σ H :=
  h H _ fun as H1 s1 x1 => by
    have hlen := Paired.length x1
    refine ⟨Nat.le_of_lt (small1000 (by rw [List.length_map]; omega)), fun r hr => ?_⟩
    exact k r as _ upd_same (s1.trans (same_of hr)) (xs_same (same_of hr) x1)
theorem cat_X {as0 : List Addr} {l0 : Addr} {Q : VK} (hx : σ[i]? = some (some (.ref l0))) (h0 : H l0 = some (.lst (as0.map V.ref))) (x0 : Paired (XHas H y) as0 ss0) (h : EvXs y ta σ ss) (hl : ss.length ≤ 100) (hl0 : ss0.length ≤ 100)
    (k : ∀ l (as : List Addr) H', H' l = some (.lst (as.map V.ref)) → Same H H' → Paired (XHas H' y) as (ss0 ++ ss) → Q (.ref l) H') : tOp rCat (tVar i) (tLst ta) σ H Q := by
  refine ⟨_, hx, h H _ fun as H1 s1 x1 => ?_⟩
  have hlen := Paired.length x1
  have hlen0 := Paired.length x0
  refine ⟨Nat.le_of_lt (small1000 (by rw [List.length_map]; omega)), fun r hr => ?_⟩
  have s2 : Same H1 (upd H1 r (.lst (as.map V.ref))) := same_of hr
  refine ⟨l0, r, as0.map V.ref, as.map V.ref, rfl, rfl, s2 _ _ (s1 _ _ h0), upd_same, Nat.le_of_lt (small1000 (by rw [List.length_map, List.length_map]; omega)), fun r2 hr2 => ?_⟩
  have s3 : Same (upd H1 r (.lst (as.map V.ref))) (upd (upd H1 r (.lst (as.map V.ref))) r2 (.lst (as0.map V.ref ++ as.map V.ref))) := same_of hr2
  exact k r2 (as0 ++ as) _ (by rw [List.map_append, upd_same]) ((s1.trans s2).trans s3) (paired_app (xs_same ((s1.trans s2).trans s3) x0) (xs_same (s2.trans s3) x1))
theorem sq_catX {as0 : List Addr} {l0 : Addr} (hx : σ[i]? = some (some (.ref l0))) (h0 : H l0 = some (.lst (as0.map V.ref))) (x0 : Paired (XHas H y) as0 ss0) (h : EvXs y ta σ ss) (hl : ss.length ≤ 100) (hl0 : ss0.length ≤ 100)
    (k : ∀ l (as : List Addr) H', H' l = some (.lst (as.map V.ref)) → Same H H' → Paired (XHas H' y) as (ss0 ++ ss) → t2 D (σ.set i (some (.ref l))) H') : tSeq (tAsg (tOp rCat (tVar i) (tLst ta)) (gName i)) t2 D σ H := cat_X hx h0 x0 h hl hl0 k
theorem st_catX {as0 : List Addr} {l0 : Addr} (hx : σ[i]? = some (some (.ref l0))) (h0 : H l0 = some (.lst (as0.map V.ref))) (x0 : Paired (XHas H y) as0 ss0) (h : EvXs y ta σ ss) (hl : ss.length ≤ 100) (hl0 : ss0.length ≤ 100)
    (k : ∀ l (as : List Addr) H', H' l = some (.lst (as.map V.ref)) → Same H H' → Paired (XHas H' y) as (ss0 ++ ss) → D.rt (.ref l) H') : tRet (tOp rCat (tVar i) (tLst ta)) D σ H := cat_X hx h0 x0 h hl hl0 k
end
end Lamp
set_option Elab.async false
set_option linter.all false
set_option maxRecDepth 100000
set_option maxHeartbeats 1000000
namespace Lamp
open PySem PySem.Spec PyProof.Rows L2
/-! argument lists that make nothing -/
def VA (ta : TA) (σ : L2.St) (H : Hp) (vs : List V) : Prop := ∀ Q : List V → Hp → Prop, Q vs H → ta σ H Q
section
variable {K : PySem.W.Frag} {te : TE} {ta : TA} {σ : L2.St} {H : Hp} {v : V} {vs vs0 : List V} {t2 : TS} {D : Ends} {i : Nat} {l0 : Addr}
theorem va_nil : VA tNil σ H [] := fun Q q => q
theorem va_cons (h1 : Val te σ H v) (h2 : VA ta σ H vs) : VA (tCons te ta) σ H (v :: vs) := fun Q q => h1 _ (h2 _ q)
theorem sq_lstV (h : VA ta σ H vs) (hl : vs.length ≤ 100) (k : ∀ l H', H' l = some (.lst vs) → Same H H' → t2 D (σ.set i (some (.ref l))) H') : tSeq (tAsg (tLst ta) (gName i)) t2 D σ H :=
  h _ ⟨Nat.le_of_lt (small1000 (by omega)), fun r hr => k r _ upd_same (same_of hr)⟩
theorem cat_V {Q : VK} (hx : σ[i]? = some (some (.ref l0))) (h0 : H l0 = some (.lst vs0)) (h : VA ta σ H vs) (hl : vs.length ≤ 100) (hl0 : vs0.length ≤ 100)
    (k : ∀ l H', H' l = some (.lst (vs0 ++ vs)) → Same H H' → Q (.ref l) H') : tOp rCat (tVar i) (tLst ta) σ H Q := by
  refine ⟨_, hx, h _ ⟨Nat.le_of_lt (small1000 (by omega)), fun r hr => ?_⟩⟩
  have s2 : Same H (upd H r (.lst vs)) := same_of hr
  exact ⟨l0, r, vs0, vs, rfl, rfl, s2 _ _ h0, upd_same, Nat.le_of_lt (small1000 (by omega)), fun r2 hr2 => k r2 _ upd_same (s2.trans (same_of hr2))⟩
theorem sq_catV (hx : σ[i]? = some (some (.ref l0))) (h0 : H l0 = some (.lst vs0)) (h : VA ta σ H vs) (hl : vs.length ≤ 100) (hl0 : vs0.length ≤ 100)
    (k : ∀ l H', H' l = some (.lst (vs0 ++ vs)) → Same H H' → t2 D (σ.set i (some (.ref l))) H') : tSeq (tAsg (tOp rCat (tVar i) (tLst ta)) (gName i)) t2 D σ H := cat_V hx h0 h hl hl0 k
theorem st_catV (hx : σ[i]? = some (some (.ref l0))) (h0 : H l0 = some (.lst vs0)) (h : VA ta σ H vs) (hl : vs.length ≤ 100) (hl0 : vs0.length ≤ 100)
    (k : ∀ l H', H' l = some (.lst (vs0 ++ vs)) → Same H H' → D.rt (.ref l) H') : tRet (tOp rCat (tVar i) (tLst ta)) D σ H := cat_V hx h0 h hl hl0 k
theorem v_isX {a C D' : Addr} {b : Bool} (h : σ[i]? = some (some (.ref a))) (hx : XAt H a C) (T : ∃ (B newId initId : String) (tail : List Value), EC K C B newId initId tail) (hk : PySem.W.kitOne K (.ref C) (.ref D') = some b) :
    Val (tCB (rIsX K) (tCons (tVar i) (tCons (tC (.ref D')) tNil))) σ H (.bl b) := fun Q q => ⟨_, h, a, C, _, _, b, rfl, hx, T, .own D', hk, q⟩
theorem v_isT {a C : Addr} {n : String} {b : Bool} (h : σ[i]? = some (some (.ref a))) (hx : XAt H a C) (T : ∃ (B newId initId : String) (tail : List Value), EC K C B newId initId tail) (hk : PySem.W.kitOne K (.ref C) (.type n) = some b) :
    Val (tCB (rIsX K) (tCons (tVar i) (tCons (tC (.ty n)) tNil))) σ H (.bl b) := fun Q q => ⟨_, h, a, C, _, _, b, rfl, hx, T, .ty n, hk, q⟩
end
end Lamp
set_option Elab.async false
set_option linter.all false
set_option maxRecDepth 100000
set_option maxHeartbeats 1000000
namespace Lamp
open PySem PySem.Spec PyProof.Rows L2
abbrev sVast : Stmt := top 155
theorem But.step {p : Addr} {H H1 H2 : Hp} (a : But p H H1) (b : But p H1 H2) : But p H H2 := a.trans b
def spVast : Sp := fun vs H Q _ => ∃ (p : Addr) (m : Int), vs = [.ref p, .int m] ∧ 0 < m ∧ Pail H p ∧ ∀ (r : Int) H', 0 ≤ r → r < m → Pail H' p → But p H H' → Q (.int r) H'
def big : Int := 10 ^ 39
def spPlace : Sp := fun vs H Q _ => ∃ (p : Addr), vs = [.ref p] ∧ Pail H p ∧ ∀ (r : Int) H', -big ≤ r → r ≤ big → Pail H' p → But p H H' → Q (.int r) H'
section
variable {σ : L2.St} {H : Hp} {D : Ends} {t1 t2 : TS} {j : Nat}
theorem sq_forRn {n : Nat} (hn : n ≤ 1000) (Pv : Nat → L2.St → Hp → Prop) (h0 : Pv 0 σ H) (hs : ∀ (i : Nat) (σ' : L2.St) (H' : Hp), i < n → Pv i σ' H' → t1 { D with nx := Pv (i + 1), ct := Pv (i + 1), bk := t2 D } (σ'.set j (some (.int (i : Int)))) H')
    (hd : ∀ σ' H', Pv n σ' H' → t2 D σ' H') {te : TE} (he : Val te σ H (.int (n : Int))) : tSeq (tFor (iRng1 (tCons te tNil)) (gName j) t1) t2 D σ H := by
  refine he _ ⟨(n : Int), rfl, by omega, by omega, ?_⟩
  have e0 : ((n : Int)).toNat = n := by omega
  rw [e0]
  refine for_range (D := { D with nx := t2 D }) (lo := 0) (n := n) Pv h0 (fun i σ' H' hi p => ?_) hd
  have e1 : (0 : Int) + (i : Int) = (i : Int) := Int.zero_add _
  rw [e1]
  exact hs i σ' H' hi p
theorem sq_setR {te : TE} {i : Nat} (R : V → Hp → Prop) (h : ∀ Q : VK, (∀ v H', R v H' → Q v H') → te σ H Q) (k : ∀ v H', R v H' → t2 D (σ.set i (some v)) H') : tSeq (tAsg te (gName i)) t2 D σ H := h _ fun v H' r => k v H' r
theorem st_setR {te : TE} {i : Nat} (R : V → Hp → Prop) (h : ∀ Q : VK, (∀ v H', R v H' → Q v H') → te σ H Q) (k : ∀ v H', R v H' → D.nx (σ.set i (some v)) H') : tAsg te (gName i) D σ H := h _ fun v H' r => k v H' r
end
section
variable {P : Program} {w : World} {K : PySem.W.Frag} {mg : Str → Option Value} {base : Heap}
theorem scVast : FnScope ["_law_pail", "_law_many", "_law_found", "_law_turn"] ["_law_pail", "_law_many"] (defScope sVast) := ⟨rfl, rfl, rfl, by decide +kernel, rfl, by decide +kernel, by decide +kernel⟩
/-- what is known of the drawing def -/
structure Dr (P : Program) (w : World) (K : PySem.W.Frag) (mg : Str → Option Value) (base : Heap) (sp : Sp) (x : Str) (ps : List Str) (k : Nat) : Prop where
  ex : ∃ (f : Addr) (fd : FuncData), FnOk P w K mg base CX0 k f fd ps sp ∧ Binds K fd ps [] ∧ mg x = some (.ref f) ∧ PySem.W.keepIn K (.ref f) = true
theorem pe_dr {X : Cx} {sp : Sp} {x : Str} {ps : List Str} {k j : Nat} {e : Expr} {es : List Expr} {t : TA} {p pos : Pos} (Z : Dr X.prog X.w X.K X.mg X.base sp x ps k) (hk : k ≤ j) (hr : Room j X.A) (hg : Gl X x) (ha : PA X (e :: es) t) (hdb : (x == ("__debug__" : Str)) = false := by decide)
    (he : starEach (e :: es) X.env = (false, eval e X.env) :: starEach es X.env := by rfl) (hpl : (backTo pos (starEach es X.env)).any (·.1) = false := by rfl) : PE X (.Call (.Name x p) (e :: es) [] pos) (tCallG sp t) := by
  obtain ⟨f, fd, F, b, m, kp⟩ := Z.ex
  have z := pe_call (pos := pos) (p := p) F (hr.mono hk) hg m kp b .nil pass0 ha hdb he hpl
  refine ⟨fun pins s σ H Q I h => z.run pins s σ H Q I ?_⟩
  unfold tCall
  simp only [List.append_nil]
  exact h
theorem ok_vast {f : Addr} {fd : FuncData} (F : Fun K "_law_vast" "_law_vast" sVast f fd) (C : Dr P w K mg base spCast "_law_cast" ["_law_pail", "_law_many"] 1) (mi : mg "int" = none) (mr : mg "range" = none) : FnOk P w K mg base CX0 2 f fd ["_law_pail", "_law_many"] spVast := by
  refine F.ok scVast (fun vs H Q E h => ?_) (fun cdv A outer s H vs Q E hr h => ?_)
  · obtain ⟨p, m, rfl, _⟩ := h
    rfl
  · obtain ⟨p, m, rfl, h0, hp, q⟩ := h
    refine ⟨_, pss_cons (ps_set (i := 2) scVast.nd rfl (.inl rfl) pe_int) (pss_cons (ps_for PassesOwn.never rfl (pi_range1 rfl mr (pa_cons pe_int pa_nil)) (pg_name (i := 3) scVast.nd rfl (.inl rfl))
        (pss_one (ps_set (i := 2) scVast.nd rfl (.inl rfl) (pe_op op_add (pe_op op_mul (pv 2) pe_int) (pe_dr C (Nat.le_refl _) hr rfl (pa_cons (pv 0) (pa_cons pe_int pa_nil)))))))
      (pss_one (ps_ret (pe_op op_mod (pe_callTy call_int1 (by rfl) mi (by decide +kernel) (pa_cons (pv 2) pa_nil)) (pv 1))))), ?_⟩
    refine sq_set (v := .int 0) val_c ?_
    refine sq_forRn (n := 6) (by decide) (fun i σ' H' => ∃ (z : Int) (b : Option V), σ' = [some (.ref p), some (.int m), some (.int z), b] ∧ Pail H' p ∧ But p H H') ⟨0, none, rfl, hp, But.refl p H⟩ ?_ ?_ val_c
    · rintro i σ' H0 hi ⟨z, b, rfl, hp0, bt0⟩
      refine ⟨_, rfl, z, 1000003, rfl, rfl, mulR ⟨by decide, by decide⟩, _, rfl, p, 1000003, rfl, by decide, by decide, hp0, fun r H1 r0 r1 hp1 bt1 => ⟨_, _, rfl, rfl, ?_⟩⟩
      exact ⟨_, _, rfl, hp1, bt0.trans bt1⟩
    · rintro σ' H0 ⟨z, b, rfl, hp0, bt0⟩
      refine st_ret (v := .int (z % m)) (val_op (lv_int (val_var rfl)) (val_var rfl) fun _ q => ⟨_, _, rfl, rfl, h0, q⟩) ?_
      exact q _ _ (Int.emod_nonneg _ (by omega)) (Int.emod_lt_of_pos _ h0) hp0 bt0
end
end Lamp
set_option Elab.async false
set_option linter.all false
set_option maxRecDepth 100000
set_option maxHeartbeats 1000000
namespace Lamp
open PySem PySem.Spec PyProof.Rows L2
/-! a chart: places with levels -/
def enc (ps : List (Int × Int)) : List (Key × V) := ps.map fun q => (Sum.inl q.1, V.int q.2)
def putI (ps : List (Int × Int)) (k v : Int) : List (Int × Int) := if ps.any (fun q => decide (q.1 = k)) then ps.map (fun q => if q.1 = k then (q.1, v) else q) else ps ++ [(k, v)]
theorem enc_put (ps : List (Int × Int)) (k v : Int) : putK (enc ps) (Sum.inl k) (V.int v) = enc (putI ps k v) := by
  have e1 : ((enc ps).any fun kv => decide (kv.1 = Sum.inl k)) = ps.any (fun q => decide (q.1 = k)) := by
    unfold enc
    rw [List.any_map]
    congr 1
    funext q
    show decide ((Sum.inl q.1 : Key) = Sum.inl k) = decide (q.1 = k)
    rw [key_ll]
    by_cases h : q.1 = k <;> simp [h]
  unfold putK putI
  rw [e1]
  split
  · unfold enc
    rw [List.map_map, List.map_map]
    congr 1
    funext q
    show (if (Sum.inl q.1 : Key) = Sum.inl k then _ else _) = _
    by_cases h : q.1 = k
    · rw [if_pos (by rw [h])]
      show _ = (Sum.inl (if q.1 = k then (q.1, v) else q).1, V.int (if q.1 = k then (q.1, v) else q).2)
      rw [if_pos h]
    · rw [if_neg (fun z => h (Sum.inl.inj z))]
      show _ = (Sum.inl (if q.1 = k then (q.1, v) else q).1, V.int (if q.1 = k then (q.1, v) else q).2)
      rw [if_neg h]
  · unfold enc
    rw [List.map_append]
    rfl
/-- what holds of a chart: no place twice, levels and places in their bounds -/
structure Chart (p : Int) (ps : List (Int × Int)) : Prop where
  nd : (ps.map (·.1)).Nodup
  lv : ∀ q ∈ ps, 1 ≤ q.2 ∧ q.2 < p
  pl : ∀ q ∈ ps, -big ≤ q.1 ∧ q.1 ≤ big
theorem Chart.put {p : Int} {ps : List (Int × Int)} (C : Chart p ps) {k v : Int} (h1 : 1 ≤ v ∧ v < p) (h2 : -big ≤ k ∧ k ≤ big) : Chart p (putI ps k v) ∧ (putI ps k v).length ≤ ps.length + 1 := by
  unfold putI
  split
  · refine ⟨⟨?_, fun q hq => ?_, fun q hq => ?_⟩, by rw [List.length_map]; omega⟩
    · rw [List.map_map]
      have e : ((fun q : Int × Int => q.1) ∘ fun q => if q.1 = k then (q.1, v) else q) = fun q => q.1 := by
        funext q
        show (if q.1 = k then (q.1, v) else q).1 = q.1
        split <;> rfl
      rw [e]
      exact C.nd
    · obtain ⟨q0, h0, rfl⟩ := List.mem_map.mp hq
      split
      · exact h1
      · exact C.lv q0 h0
    · obtain ⟨q0, h0, rfl⟩ := List.mem_map.mp hq
      split
      · exact C.pl q0 h0
      · exact C.pl q0 h0
  · rename_i hn
    have hk : k ∉ ps.map (·.1) := fun z => by
      obtain ⟨q, hq, e⟩ := List.mem_map.mp z
      exact hn (List.any_eq_true.mpr ⟨q, hq, decide_eq_true e⟩)
    refine ⟨⟨?_, fun q hq => ?_, fun q hq => ?_⟩, by rw [List.length_append]; exact Nat.le_refl _⟩
    · rw [List.map_append]
      exact List.nodup_append.mpr ⟨C.nd, by simp, fun a ha b hb => by simp at hb; subst hb; exact fun e => hk (e ▸ ha)⟩
    · rcases List.mem_append.mp hq with h | h
      · exact C.lv q h
      · simp at h; subst h; exact h1
    · rcases List.mem_append.mp hq with h | h
      · exact C.pl q h
      · simp at h; subst h; exact h2
theorem enc_get : ∀ {ps : List (Int × Int)} {k : Int}, k ∈ ps.map (·.1) → ∃ v, valV (enc ps) (Sum.inl k) = some (V.int v) ∧ (k, v) ∈ ps
  | [], k, h => by simp at h
  | q :: ps, k, h => by
    by_cases e : q.1 = k
    · refine ⟨q.2, ?_, by rw [← e]; exact List.mem_cons_self ..⟩
      exact valV_pos (p := (Sum.inl q.1, V.int q.2)) (by show (Sum.inl q.1 : Key) = Sum.inl k; rw [e])
    · have h' : k ∈ ps.map (·.1) := by
        rcases List.mem_cons.mp h with z | z
        · exact absurd z.symm e
        · exact z
      obtain ⟨v, h1, h2⟩ := enc_get h'
      refine ⟨v, ?_, List.mem_cons_of_mem _ h2⟩
      rw [← h1]
      exact valV_neg (p := (Sum.inl q.1, V.int q.2)) (fun z => e (Sum.inl.inj z))
/-- a picture of p levels: ascending places, levels from 1 to p - 1, few -/
structure IsPic (p : Int) (ls : List (Int × Int)) : Prop where
  asc : (ls.map (·.1)).Pairwise (· < ·)
  lv : ∀ q ∈ ls, 1 ≤ q.2 ∧ q.2 < p
  pl : ∀ q ∈ ls, -big ≤ q.1 ∧ q.1 ≤ big
  few : ls.length ≤ 5
/-- .. of whatever places, with as many lamps as are let -/
structure IsPicW (p : Int) (ls : List (Int × Int)) : Prop where
  asc : (ls.map (·.1)).Pairwise (· < ·)
  lv : ∀ q ∈ ls, 1 ≤ q.2 ∧ q.2 < p
  few : ls.length ≤ 400
theorem IsPic.w {p : Int} {ls : List (Int × Int)} (h : IsPic p ls) : IsPicW p ls := ⟨h.asc, h.lv, Nat.le_trans h.few (by decide)⟩
theorem lt_of_le_nodup : ∀ {xs : List Int}, xs.Pairwise (· ≤ ·) → xs.Nodup → xs.Pairwise (· < ·)
  | [], _, _ => .nil
  | x :: xs, h, n => by
    cases h with
    | cons h1 h2 =>
      cases n with
      | cons n1 n2 => exact .cons (fun y hy => by have a := h1 y hy; have b := n1 y hy; omega) (lt_of_le_nodup h2 n2)
/-- at t: a picture's tuple of pairs -/
def PicAt (K : PySem.W.Frag) (H : Hp) (t : Addr) (ls : List (Int × Int)) : Prop := ∃ as : List Addr, Rd H t (.tup (as.map V.ref)) ∧ Paired (fun a (q : Int × Int) => H a = some (.tup [.int q.1, .int q.2])) as ls
/-- .. the tuple having no dict of its own -/
def PicB (K : PySem.W.Frag) (H : Hp) (t : Addr) (ls : List (Int × Int)) : Prop := ∃ as : List Addr, Bare H t (as.map V.ref) ∧ Paired (fun a (q : Int × Int) => H a = some (.tup [.int q.1, .int q.2])) as ls
theorem PicB.at {K : PySem.W.Frag} {H : Hp} {t : Addr} {ls : List (Int × Int)} (h : PicB K H t ls) : PicAt K H t ls := by
  obtain ⟨as, h1, h2⟩ := h
  exact ⟨as, h1.rd, h2⟩
theorem PicB.same {K : PySem.W.Frag} {H H' : Hp} {t : Addr} {ls : List (Int × Int)} (h : PicB K H t ls) (e : Same H H') : PicB K H' t ls := by
  obtain ⟨as, h1, h2⟩ := h
  exact ⟨as, h1.same e, L2.Paired.mapP h2 fun a q z => e _ _ z⟩
theorem PicAt.same {K : PySem.W.Frag} {H H' : Hp} {t : Addr} {ls : List (Int × Int)} (h : PicAt K H t ls) (e : Same H H') : PicAt K H' t ls := by
  obtain ⟨as, h1, h2⟩ := h
  exact ⟨as, rd_same h1 e, L2.Paired.mapP h2 fun a q z => e _ _ z⟩
def spPicture (K : PySem.W.Frag) : Sp := fun vs H Q _ => ∃ (p : Addr) (lv : Int) (n : Nat), vs = [.ref p, .int lv, .int (n : Int)] ∧ 2 ≤ lv ∧ lv ≤ 7 ∧ n ≤ 5 ∧ Pail H p ∧ ∀ (t : Addr) (ls : List (Int × Int)) H', IsPic lv ls → PicB K (delH H' p) t ls → H t = none → Pail H' p → But p H H' → Q (.ref t) H'
section
variable {P : Program} {w : World} {K : PySem.W.Frag} {mg : Str → Option Value} {base : Heap}
end
end Lamp
set_option Elab.async false
set_option linter.all false
set_option maxRecDepth 100000
set_option maxHeartbeats 1000000
namespace Lamp
open PySem PySem.Spec PyProof.Rows L2
/-- the parts of a round -/
structure Parts where
  lv : Int
  ls : List (Int × Int)
  fin : Int
/-- as they are drawn -/
structure Parts.Ok (r : Parts) : Prop where
  lv : r.lv = 2 ∨ r.lv = 3 ∨ r.lv = 5 ∨ r.lv = 7
  pic : IsPic r.lv r.ls
  lo : -big ≤ r.fin
  hi : r.fin ≤ big
/-- at l: the list of a round's parts, its picture at t -/
def PartsAt (K : PySem.W.Frag) (H : Hp) (l t : Addr) (r : Parts) : Prop := H l = some (.lst [.int r.lv, .ref t, .int r.fin]) ∧ PicB K H t r.ls
theorem PartsAt.same {K : PySem.W.Frag} {H H' : Hp} {l t : Addr} {r : Parts} (h : PartsAt K H l t r) (e : Same H H') : PartsAt K H' l t r := ⟨e _ _ h.1, h.2.same e⟩
end Lamp
set_option Elab.async false
set_option linter.all false
set_option maxRecDepth 100000
set_option maxHeartbeats 1000000
namespace Lamp
open PySem PySem.Spec PyProof.Rows L2
/-! enumerate of a tuple -/
theorem enum_new {v : Value} {o : Obj} {Hh : Heap → Prop} (B : Begins v o Hh) : Meets (Builtin.«enumerate.__new__» ⟨[.type "enumerate", v], []⟩) (fun _ R s => Hh s.heap ∧
    R (.ok (.ret (.ref (s.heap.push o).objs.size))) { s with heap := (s.heap.push o).push { cls := .type "enumerate", data := .fields #[.none, .bool false, .ref s.heap.objs.size, rawInt 0, .none, .none] } }) :=
  .of_wp fun P w A R s told => by
    obtain ⟨hp, gs, dp, tk, ou⟩ := s
    obtain ⟨there, goal⟩ := told
    have under := sub_enumerate
    have starts : ∀ {A1 : Around} {E : Value → Shared → Prop} {Q : Value → Shared → Prop}, Q (.ref hp.objs.size) ⟨hp.push o, gs, dp, tk, ou⟩ → wpAny (model P w) A1 (pyIter v) Q E ⟨hp, gs, dp, tk, ou⟩ :=
      fun q => B.iter P w _ _ ⟨hp, gs, dp, tk, ou⟩ _ there q
    wp_walk using starts
    refine wpAny_stack_any fun st => wpAny_pure ?_
    split
    · rename_i c _ _ _ _ _
      cases hc : (c == Value.type "enumerate") <;> (wp_walk using starts; exact ⟨_, rfl, goal⟩)
    · wp_walk using starts
      exact ⟨_, rfl, goal⟩
theorem enum_call {P : Program} {w : World} {A : Around} {E : Value → Shared → Prop} {s : Shared} {v : Value} {o : Obj} {Hh : Heap → Prop} {Q : Value → Shared → Prop} (B : Begins v o Hh) (there : Hh s.heap)
    (goal : ∀ h', IsEnum h' (s.heap.objs.size + 1) s.heap.objs.size 0 .none → h'.get? s.heap.objs.size = some o → (∀ b u, s.heap.get? b = some u → h'.get? b = some u) → Q (.ref (s.heap.objs.size + 1)) { s with heap := h' }) :
    wpAny (model P w) A (call (.type "enumerate") [v]) Q E s := by
  have two : (s.heap.push o).objs.size = s.heap.objs.size + 1 := Heap.size_push ..
  have isE : IsEnum ((s.heap.push o).push { cls := .type "enumerate", data := .fields #[.none, .bool false, .ref s.heap.objs.size, rawInt 0, .none, .none] }) (s.heap.objs.size + 1) s.heap.objs.size 0 .none := by
    rw [← two]
    exact Heap.get?_push_size (s.heap.push o) rfl
  refine callType_new F.called_enumerate (by decide) (F.typeCall_enumerate_1 _) (F.newCall_enumerate_1 _) (fun z => F.args_object_init_2 z _) F.entry_enumerate_new (enum_new B) ⟨there, ?_⟩
  show _ ∧ _
  rw [two]
  exact ⟨⟨_, isE, rfl⟩, goal _ isE (Heap.get?_push_of_some _ (Heap.get?_push_size _ B.free)) fun b u z => Heap.get?_push_of_some _ (Heap.get?_push_of_some _ z)⟩
/-- the pairs of index and item of the tuple at a -/
def Itn (K : PySem.W.Frag) (a : Addr) : It where
  go i H := ∃ (xs : List V) (x : V), SqT K H a xs ∧ xs[i]? = some x
  yld i H v H' := ∃ T x, v = .ref T ∧ H T = none ∧ H' = upd H T (.tup [.int (i : Nat), x]) ∧ ∀ xs, SqT K H a xs → xs[i]? = some x
  stop i H := ∃ xs : List V, SqT K H a xs ∧ xs.length ≤ i
theorem turn_enumT {P : Program} {w : World} {K : PySem.W.Frag} {parts : List Expr} {n : Nat} {at_ : Pos} (a e it : Addr) :
    Turn P w K (.Tuple parts n at_) (Itn K a) [e, it] e (fun i h => (∃ old, IsEnum h e it ((i : Nat) : Int) old) ∧ h.IsTupleIter it a i ∧ e ≠ it) where
  mem := List.mem_cons_self ..
  obj := fun i h st b hb => by
    obtain ⟨⟨old, he⟩, ⟨o, ho, hc, hd⟩, _⟩ := st
    rcases (by simpa using hb : b = e ∨ b = it) with z | z
    · rw [z]; exact ⟨_, he, fun v q => nomatch q⟩
    · rw [z]; exact ⟨o, ho, fun v q => by rw [hd] at q; cases q⟩
  keep := fun i h h' st k => ⟨let ⟨old, he⟩ := st.1; ⟨old, k e (by simp) _ he⟩, st.2.1.at fun o q => k it (by simp) o q, st.2.2⟩
  item := by
    intro X hP hw hK hc i pins s σ H E I hf st hg
    subst hP hw hK
    obtain ⟨⟨old, he⟩, hit, hne⟩ := st
    obtain ⟨xs, x, hq, hx⟩ := hg
    obtain ⟨its, rv, p, hz⟩ := I.tuple hq
    obtain ⟨u, hu, ru⟩ := rv.get hx
    have hlen := rv.length
    have hi : i < its.length := (List.getElem?_eq_some_iff.mp hu).1
    have tup : s.heap.IsTuple a its.toArray := p
    have ae : a ≠ e := fun z => by
      obtain ⟨o, ho, hco, _⟩ := tup
      rw [z, he] at ho
      cases ho
      exact absurd (show Value.type "enumerate" = .type "tuple" from hco) (by decide)
    have ait : a ≠ it := fun z => by
      obtain ⟨o, ho, hco, _⟩ := tup
      obtain ⟨o2, ho2, hc2, _⟩ := hit
      rw [z, ho2] at ho
      cases ho
      rw [hc2] at hco
      exact absurd hco (by decide)
    have le : e < s.heap.objs.size := Heap.lt_size he
    have li : it < s.heap.objs.size := by obtain ⟨_, q, _⟩ := hit; exact Heap.lt_size q
    have D := Draws.tuple (prog := X.prog) (w := X.w) (A := X.A.in1) (I.ok.hd hc) it a ait its.toArray
    refine wpAny_pyNext_enum_itemD D he ⟨hit, tup⟩ (by simpa using hi) hne (by simp; exact ⟨hne, fun z => ae z.symm⟩) fun y h' tk hy ho st' hT hsz hk => ?_
    have ey : y = u := by
      have : its[i]? = some y := by simpa using hy
      rw [hu] at this
      exact (Option.some.inj this).symm
    subst ey
    obtain ⟨hit', tup'⟩ := st'
    refine ⟨_, rfl, wpAny_letOwnedTupleGo_enum (s := { s with heap := h', toks := tk + 1 }) ho fun h2 he2 sb => ?_⟩
    have hT2 : h2.get? s.heap.objs.size = some { cls := .type "tuple", data := .seq #[.int i tk, y] } := (sb.2 _ (Nat.ne_of_gt le)).trans hT
    have made : ObjOk X.prog X.w (upd H s.heap.objs.size (.tup [.int (i : Nat), x])) h2 s.heap.objs.size (.tup [.int (i : Nat), x]) :=
      ⟨by show 2 ≤ sizeLine; decide, [.int i tk, y], .cons ⟨_, rfl⟩ (.cons ru .nil), ⟨_, hT2, rfl, _, rfl⟩⟩
    have I1 : Inv X pins σ (upd H s.heap.objs.size (.tup [.int (i : Nat), x])) { s with heap := h2, toks := tk + 1 } :=
      I.turnedNew (ch := [e, it]) (fun b ob hb q => (sb.2 b (fun z => hb (by simp [z]))).trans (hk b ob (fun z => hb (by simp [z])) (fun z => hb (by simp [z])) q)) hf (Nat.le_refl _) made
    refine ⟨.ref s.heap.objs.size, _, I1, rfl, ⟨_, x, rfl, I.hok.fresh (Nat.le_refl _), rfl, fun ys hy => by rw [I.tuple_inj hy hq]; exact hx⟩, ⟨⟨y, ?_⟩, hit'.at fun o q => (sb.2 it (Ne.symm hne)).trans q, hne⟩, fun b hb => ?_⟩
    · rw [show ((i + 1 : Nat) : Int) = (i : Int) + 1 by omega]
      exact he2
    · have lb : b < s.heap.objs.size := by
        rcases (by simpa using hb : b = e ∨ b = it) with z | z
        · rw [z]; exact le
        · rw [z]; exact li
      rw [upd_ne (Nat.ne_of_lt lb)]
      exact (hf b hb).1
  done := by
    intro X hP hw hK hc i pins s σ H E I hf st hg
    subst hP hw hK
    obtain ⟨⟨old, he⟩, hit, hne⟩ := st
    obtain ⟨xs, hq, hx⟩ := hg
    obtain ⟨its, rv, p, hz⟩ := I.tuple hq
    obtain ⟨f0, f1, f2, f3, f4, f5⟩ := hf it (by simp)
    have hl := rv.length
    have tup : s.heap.IsTuple a its.toArray := p
    unfold pyNext
    refine wpAny_bind (wpAny_attempt (wpAny_callSpecial?_slot (name := Str.ofString "__next__") ⟨_, he, rfl⟩ F.slot_enumerate_next
      (wpAny_call_entry F.slot_enumerate_next ⟨_, he, rfl⟩ F.entry_enumerate_next ?_ (F.args_enumerate_next_1 _))))
    show wpAny _ _ (field (.ref e) 2 >>= _) _ _ _
    refine wpAny_bind (wpAny_field he rfl (x := .ref it) rfl ?_)
    refine wpAny_bind (wpAny_nextOf_tuple_end (I.ok.hd hc) hit tup (by simp; omega) fun h' ex eb so => ?_)
    obtain ⟨o, ho, hcs⟩ := so
    refine wpAny_bind (wpAny_isInstance (T := "StopIteration") (b := true) ⟨o, ho, hcs⟩ isSubtype_stop ?_)
    exact wpAny_pure ⟨rfl, I.turned (t' := s.toks) (fun b o hb q => eb b o hb q) f0 f1 f3 f4 f5⟩
  self := fun A i s Q E st h => let ⟨⟨_, he⟩, _⟩ := st; wpAny_pyIter_enum he h
def iEnumT (K : PySem.W.Frag) (ta : TA) : TI := fun σ H R => ta σ H fun vs H1 => ∃ a xs, vs = [.ref a] ∧ SqT K H1 a xs ∧ R (Itn K a) H1
theorem pi_enumT {X : Cx} {e : Expr} {ta : TA} {p pos at_ : Pos} {parts : List Expr} {n : Nat} (hg : Gl X "enumerate") (hm : X.mg "enumerate" = none) (ha : PA X [e] ta) (hs : starEach [e] X.env = [(false, eval e X.env)] := by rfl) :
    PI X (.Tuple parts n at_) (.Call (.Name "enumerate" p) [e] [] pos) (iEnumT X.K ta) := by
  refine ⟨fun pins s σ H R I h => ?_⟩
  refine Call_ (ld_blt I hg hm boot_enumerate (PyProof.Rows.callWith_type1 (thn (ha.run pos pins s σ H _ I h) fun us s1 ⟨vs, H1, I1, r1, a, xs, ex, hq, q⟩ => ?_) hs rfl))
  subst ex
  cases r1 with
  | cons r rr =>
    cases rr
    cases r
    obtain ⟨its, rv, p', hz⟩ := I1.tuple hq
    have tup : s1.heap.IsTuple a its.toArray := p'
    refine enum_call (begins_tuple a its.toArray) tup fun h' he hi hk => wpAny_pyIter_enum he ?_
    have I2 : Inv X pins σ H1 { s1 with heap := h' } := I1.kept (t' := s1.toks) hk
    refine ⟨s1.heap.objs.size + 1, [s1.heap.objs.size + 1, s1.heap.objs.size], _, _, H1, rfl, I2, turn_enumT a (s1.heap.objs.size + 1) s1.heap.objs.size, ⟨⟨.none, he⟩, ⟨_, hi, rfl, rfl⟩, Nat.succ_ne_self _⟩, fun b hb => ?_, q⟩
    have lb : s1.heap.objs.size ≤ b := by
      rcases (by simpa using hb : b = s1.heap.objs.size + 1 ∨ b = s1.heap.objs.size) with z | z
      · rw [z]; exact Nat.le_add_right _ _
      · rw [z]; exact Nat.le_refl _
    exact I1.fpOk lb (I1.hok.fresh lb)
/-- for i, x in enumerate(t): body told by what holds ahead of each turn -/
theorem for_enumT {K : PySem.W.Frag} {a : Addr} {xs : List V} {g : TG} {tb : TS} {D : Ends} {σ : L2.St} {H : Hp} (Pv : Nat → L2.St → Hp → Prop) (h0 : Pv 0 σ H) (hl : ∀ i σ H, i ≤ xs.length → Pv i σ H → SqT K H a xs)
    (hs : ∀ i x σ H T, xs[i]? = some x → Pv i σ H → H T = none → g (.ref T) σ (upd H T (.tup [.int (i : Nat), x])) fun σ2 H2 => tb { D with nx := Pv (i + 1), ct := Pv (i + 1), bk := D.nx } σ2 H2) (hd : ∀ σ H, Pv xs.length σ H → D.nx σ H) :
    ∃ W : Nat → Nat → L2.St → Hp → Prop, (∃ m, W 0 m σ H) ∧ ∀ i m σ H, W i m σ H →
      ((Itn K a).stop i H ∧ D.nx σ H) ∨ ((Itn K a).go i H ∧ ∃ N : L2.St → Hp → Prop, (∀ σ' H', N σ' H' → ∃ m', m' < m ∧ W (i + 1) m' σ' H') ∧ ∀ x H', (Itn K a).yld i H x H' → g x σ H' fun σ2 H2 => tb { D with nx := N, ct := N, bk := D.nx } σ2 H2) := by
  refine ⟨fun i m σ H => m + i = xs.length ∧ Pv i σ H, ⟨xs.length, rfl, h0⟩, fun i m σ H z => ?_⟩
  obtain ⟨hm, p⟩ := z
  have q := hl i σ H (by omega) p
  cases m with
  | zero =>
    have e : i = xs.length := by omega
    subst e
    exact .inl ⟨⟨xs, q, Nat.le_refl _⟩, hd _ _ p⟩
  | succ m =>
    have lt : i < xs.length := by omega
    refine .inr ⟨⟨xs, xs[i], q, by simp [lt]⟩, Pv (i + 1), fun σ' H' p' => ⟨m, Nat.lt_succ_self _, by omega, p'⟩, fun v H' y => ?_⟩
    obtain ⟨T, x, rfl, hT, rfl, hx⟩ := y
    exact hs i x σ H T (hx xs q) p hT
end Lamp
set_option Elab.async false
set_option linter.all false
set_option maxRecDepth 100000
set_option maxHeartbeats 1000000
namespace Lamp
open PySem PySem.Spec PyProof.Rows L2
abbrev sIsInt : Stmt := top 29
abbrev sIsLevels : Stmt := top 30
abbrev sIsLamp : Stmt := top 31
abbrev sWrong : Stmt := top 32
def spIsInt : Sp := fun vs H Q _ => ∃ i : Int, vs = [.int i] ∧ Q (.bl true) H
def goodLv (lv : Int) : Prop := lv = 2 ∨ lv = 3 ∨ lv = 5 ∨ lv = 7
def spIsLevels : Sp := fun vs H Q _ => ∃ lv : Int, vs = [.int lv] ∧ goodLv lv ∧ Q (.bl true) H
def spIsLamp : Sp := fun vs H Q _ => ∃ (lv x y : Int) (a : Addr), vs = [.int lv, .ref a] ∧ H a = some (.tup [.int x, .int y]) ∧ 0 < y ∧ y < lv ∧ Q (.bl true) H
def spWrong (K : PySem.W.Frag) : Sp := fun vs H Q _ => ∃ (lv : Int) (t : Addr) (ls : List (Int × Int)), vs = [.int lv, .ref t] ∧ PicAt K H t ls ∧ IsPicW lv ls ∧ ∀ H', Same H H' → Q .non H'
section
variable {P : Program} {w : World} {K : PySem.W.Frag} {mg : Str → Option Value} {base : Heap}
theorem scIsInt : FnScope ["value"] ["value"] (defScope sIsInt) := ⟨rfl, rfl, rfl, by decide +kernel, rfl, by decide +kernel, by decide +kernel⟩
theorem scIsLevels : FnScope ["value"] ["value"] (defScope sIsLevels) := ⟨rfl, rfl, rfl, by decide +kernel, rfl, by decide +kernel, by decide +kernel⟩
theorem scIsLamp : FnScope ["levels", "value", "place", "level"] ["levels", "value"] (defScope sIsLamp) := ⟨rfl, rfl, rfl, by decide +kernel, rfl, by decide +kernel, by decide +kernel⟩
theorem scWrong : FnScope ["levels", "lamps", "index", "lamp"] ["levels", "lamps"] (defScope sWrong) := ⟨rfl, rfl, rfl, by decide +kernel, rfl, by decide +kernel, by decide +kernel⟩
theorem isi_ii (H : Hp) (i : Int) {Q : VK} (q : Q (.bl true) H) : rIsi K [.int i, .ty "int"] H Q := ⟨_, _, .type "int", .type "int", true, rfl, .ty "int", .base (.int i), kit_ty (by decide +kernel), q⟩
theorem isi_ib (H : Hp) (i : Int) {Q : VK} (q : Q (.bl false) H) : rIsi K [.int i, .ty "bool"] H Q := ⟨_, _, .type "int", .type "bool", false, rfl, .ty "bool", .base (.int i), kit_ty (by decide +kernel), q⟩
theorem isi_tt {H : Hp} {a : Addr} {xs : List V} (h : H a = some (.tup xs)) {Q : VK} (q : Q (.bl true) H) : rIsi K [.ref a, .ty "tuple"] H Q := ⟨_, _, .type "tuple", .type "tuple", true, rfl, .ty "tuple", .base (.tup h), kit_ty (by decide +kernel), q⟩
theorem isi_tR {H : Hp} {a : Addr} {xs : List V} (h : Rd H a (.tup xs)) {Q : VK} (q : Q (.bl true) H) : rIsi K [.ref a, .ty "tuple"] H Q := by
  rcases h with h | ⟨o, h⟩
  · exact isi_tt h q
  · exact ⟨_, _, .type "tuple", .type "tuple", true, rfl, .ty "tuple", .fTuple h, kit_ty (by decide +kernel), q⟩
theorem isi_ss {H : Hp} {x : Str} {Q : VK} (q : Q (.bl true) H) : rIsi K [.str x, .ty "str"] H Q := ⟨_, _, .type "str", .type "str", true, rfl, .ty "str", .base (.str x), kit_ty (by decide +kernel), q⟩
theorem v_isii {te : TE} {σ : L2.St} {H : Hp} {i : Int} (h : Val te σ H (.int i)) : Val (tCB (rIsi K) (tCons te (tCons (tC (.ty "int")) tNil))) σ H (.bl true) := fun Q q => h _ (isi_ii H i q)
theorem v_isib {te : TE} {σ : L2.St} {H : Hp} {i : Int} (h : Val te σ H (.int i)) : Val (tCB (rIsi K) (tCons te (tCons (tC (.ty "bool")) tNil))) σ H (.bl false) := fun Q q => h _ (isi_ib H i q)
theorem ok_isInt {f : Addr} {fd : FuncData} (F : Fun K "is_integer" "is_integer" sIsInt f fd) (mis : mg "isinstance" = none) (mi : mg "int" = none) (mb : mg "bool" = none) : FnOk P w K mg base CX0 1 f fd ["value"] spIsInt := by
  refine F.ok scIsInt (fun vs H Q E h => ?_) (fun cdv A outer s H vs Q E hr h => ?_)
  · obtain ⟨i, rfl, _⟩ := h
    rfl
  · obtain ⟨i, rfl, q⟩ := h
    refine ⟨_, pss_one (ps_ret (pe_and (pe_callB call_isi (by rfl) mis (by decide +kernel) (pa_cons (pv 0) (pa_cons (pe_bltn (v := .ty "int") (by rfl) mi (by decide +kernel) rfl) pa_nil)))
      (pe_one (pe_not (pe_callB call_isi (by rfl) mis (by decide +kernel) (pa_cons (pv 0) (pa_cons (pe_bltn (v := .ty "bool") (by rfl) mb (by decide +kernel) rfl) pa_nil))))))), ?_⟩
    refine v_isii (val_var rfl) _ ⟨true, rfl, iteT ?_⟩
    exact v_isib (val_var rfl) _ ⟨false, rfl, q⟩
theorem ok_isLevels {f aL : Addr} {fd : FuncData} (F : Fun K "is_levels" "is_levels" sIsLevels f fd) (I : Dr P w K mg base spIsInt "is_integer" ["value"] 1) (mL : mg "LEVELS" = some (.ref aL)) (four : ∀ H, SqT K H aL [.int 2, .int 3, .int 5, .int 7]) : FnOk P w K mg base CX0 2 f fd ["value"] spIsLevels := by
  refine F.ok scIsLevels (fun vs H Q E h => ?_) (fun cdv A outer s H vs Q E hr h => ?_)
  · obtain ⟨i, rfl, _⟩ := h
    rfl
  · obtain ⟨i, rfl, hg, q⟩ := h
    refine ⟨_, pss_one (ps_ret (pe_and (pe_dr I (Nat.le_refl _) hr rfl (pa_cons (pv 0) pa_nil)) (pe_one (pe_cmpR op_in_seq (pv 0) (pe_glob (v := .ref aL) rfl mL rfl) (by rfl))))), ?_⟩
    refine ⟨_, rfl, i, rfl, true, rfl, ?_⟩
    show _
    refine ⟨_, rfl, aL, _, rfl, .inr (four H), rfl, by decide, ?_⟩
    have e : inV (V.int i) [.int 2, .int 3, .int 5, .int 7] = true := by
      rcases hg with rfl | rfl | rfl | rfl <;> decide
    rw [e]
    exact q
theorem ok_isLamp {f : Addr} {fd : FuncData} (F : Fun K "is_lamp" "is_lamp" sIsLamp f fd) (I : Dr P w K mg base spIsInt "is_integer" ["value"] 1) (mis : mg "isinstance" = none) (mt : mg "tuple" = none) (ml : mg "len" = none) : FnOk P w K mg base CX0 2 f fd ["levels", "value"] spIsLamp := by
  refine F.ok scIsLamp (fun vs H Q E h => ?_) (fun cdv A outer s H vs Q E hr h => ?_)
  · obtain ⟨lv, x, y, a, rfl, _⟩ := h
    rfl
  · obtain ⟨lv, x, y, a, rfl, ha, h0, h1, q⟩ := h
    refine ⟨_, pss_cons (ps_if (PW.pt (pw_or (pt_not (pt_val (pe_callB call_isi (by rfl) mis (by decide +kernel) (pa_cons (pv 1) (pa_cons (pe_bltn (v := .ty "tuple") (by rfl) mt (by decide +kernel) rfl) pa_nil)))))
          (pw_or1 (pt_cmpR op_ne (pe_callB call_len_seq (by rfl) ml PySem.boot_len (pa_cons (pv 1) pa_nil)) pe_int (nomark _))))) pss_never pss_nil)
      (pss_cons (ps_asg (pv 1) (pg_tup rfl (pgs_cons (pg_name (i := 2) scIsLamp.nd rfl (.inl rfl)) (pgs_cons (pg_name (i := 3) scIsLamp.nd rfl (.inl rfl)) pgs_nil))))
      (pss_one (ps_ret (pe_and (pe_dr I (Nat.le_refl _) hr rfl (pa_cons (pv 2) pa_nil)) (pe_and (pe_dr I (Nat.le_refl _) hr rfl (pa_cons (pv 3) pa_nil)) (pe_one (pe_chain op_lt op_lt pe_int (pv 3) (pv 0)))))))), ?_⟩
    refine sq_no ?_ ?_
    · refine ans_or (ans_not (b := true) (ans_val fun Q q => ⟨_, rfl, isi_tt ha q⟩)) (ans_ne (x := .int 2) (y := .int 2) (fun Q q => ⟨_, rfl, a, _, rfl, .inr (SqT.of ha), q⟩) val_c rfl rfl)
    · refine ⟨_, rfl, a, _, rfl, SqT.of ha, rfl, _, _, rfl, _, _, rfl, rfl, ?_⟩
      refine ⟨_, rfl, x, rfl, true, rfl, ?_⟩
      show _
      refine ⟨_, rfl, y, rfl, true, rfl, ?_⟩
      show _
      refine ⟨_, rfl, 0, y, rfl, rfl, true, ?_, ?_⟩
      · show V.bl (decide (0 < y)) = _
        rw [decide_eq_true h0]
      · show _
        refine ⟨_, rfl, y, lv, rfl, rfl, ?_⟩
        show Q (.bl (decide (y < lv))) H
        rw [decide_eq_true h1]
        exact q
theorem pair_get {K : PySem.W.Frag} {H : Hp} {t : Addr} {ls : List (Int × Int)} (h : PicAt K H t ls) : ∃ as : List Addr, Rd H t (.tup (as.map V.ref)) ∧ as.length = ls.length ∧ ∀ (i : Nat) (a : Addr) (q : Int × Int), as[i]? = some a → ls[i]? = some q → H a = some (.tup [.int q.1, .int q.2]) := by
  obtain ⟨as, h1, h2⟩ := h
  refine ⟨as, h1, Paired.length h2, fun i a q ha hq => ?_⟩
  obtain ⟨q', hq', e⟩ := paired_get h2 ha
  rw [hq] at hq'
  cases hq'
  exact e
theorem asc_at {ls : List (Int × Int)} (h : (ls.map (·.1)).Pairwise (· < ·)) {i : Nat} {q r : Int × Int} (h1 : ls[i]? = some q) (h2 : ls[i + 1]? = some r) : q.1 < r.1 := by
  rw [List.pairwise_iff_getElem] at h
  obtain ⟨l1, e1⟩ := List.getElem?_eq_some_iff.mp h1
  obtain ⟨l2, e2⟩ := List.getElem?_eq_some_iff.mp h2
  have z := h i (i + 1) (by rw [List.length_map]; exact l1) (by rw [List.length_map]; exact l2) (Nat.lt_succ_self i)
  rw [List.getElem_map, List.getElem_map, e1, e2] at z
  exact z
theorem ok_wrong {f : Addr} {fd : FuncData} (F : Fun K "wrong_lamp" "wrong_lamp" sWrong f fd) (L : Dr P w K mg base spIsLamp "is_lamp" ["levels", "value"] 2) (me : mg "enumerate" = none) : FnOk P w K mg base CX0 3 f fd ["levels", "lamps"] (spWrong K) := by
  refine F.ok scWrong (fun vs H Q E h => ?_) (fun cdv A outer s H vs Q E hr h => ?_)
  · obtain ⟨lv, t, ls, rfl, _⟩ := h
    rfl
  · obtain ⟨lv, t, ls, rfl, hp, hi, q⟩ := h
    obtain ⟨as, ht, hlen, hat⟩ := pair_get hp
    refine ⟨_, pss_cons (ps_for PassesOwn.never rfl (pi_enumT rfl me (pa_cons (pv 1) pa_nil)) (pg_tup rfl (pgs_cons (pg_name (i := 2) scWrong.nd rfl (.inl rfl)) (pgs_cons (pg_name (i := 3) scWrong.nd rfl (.inl rfl)) pgs_nil)))
        (pss_cons (ps_if (pt_not (pt_val (pe_dr L (Nat.le_refl _) hr rfl (pa_cons (pv 0) (pa_cons (pv 3) pa_nil))))) pss_never pss_nil)
        (pss_one (ps_if (PW.pt (pw_and (pt_cmpR op_gt (pv 2) pe_int (nomark _)) (pw_and1 (pt_cmpR op_le (pe_ix ix_tup (pv 3) pe_int (fun _ _ => rfl)) (pe_ix ix_tup (pe_ix ix_tup (pv 1) (pe_op op_sub (pv 2) pe_int) (fun _ _ => rfl)) pe_int (fun _ _ => rfl)) (nomark _))))) pss_never pss_nil))))
      (pss_one (ps_ret pe_non)), ?_⟩
    refine ⟨_, rfl, t, _, rfl, .inl ht, for_enumT (xs := as.map V.ref) (fun i σ H' => ∃ x y, σ = [some (.int lv), some (.ref t), x, y] ∧ Same H H') ⟨_, _, rfl, Same.refl H⟩ (fun i σ H' _ z => ?_) (fun i x σ H' T hx z hT => ?_) (fun σ H' z => ?_)⟩
    · obtain ⟨_, _, _, s⟩ := z
      exact .inl (rd_same ht s)
    · obtain ⟨x0, y0, rfl, s⟩ := z
      have s1 := s.trans (same_of (o := .tup [V.int (i : Nat), x]) hT)
      rw [List.getElem?_map] at hx
      cases ea : as[i]? with
      | none => rw [ea] at hx; cases hx
      | some a =>
        rw [ea] at hx
        have ex : x = V.ref a := (Option.some.inj hx).symm
        subst ex
        have li : i < ls.length := by
          rw [← hlen]
          exact (List.getElem?_eq_some_iff.mp ea).1
        have eq := List.getElem?_eq_getElem li
        have lev := hi.lv _ (List.getElem_mem li)
        have h1 := s1 _ _ (hat i a _ ea eq)
        refine ⟨T, _, rfl, SqT.of upd_same, rfl, _, _, rfl, _, _, rfl, rfl, ?_⟩
        refine sq_no ?_ ?_
        · exact ans_not (b := true) (ans_val fun Q q => ⟨_, rfl, _, rfl, lv, _, _, a, rfl, h1, by omega, lev.2, q⟩)
        · refine st_no ?_ ?_
          · cases i with
            | zero => exact ans_and0 (an_gt (val_var rfl) val_c (decide_eq_false (by decide)))
            | succ j =>
              have lj : j < ls.length := by omega
              have ej := List.getElem?_eq_getElem lj
              have lja : j < as.length := by omega
              have eja := List.getElem?_eq_getElem lja
              have h2 := s1 _ _ (hat j _ _ eja ej)
              have lt := asc_at hi.asc ej eq
              refine ans_and (an_gt (val_var rfl) val_c (decide_eq_true (by omega))) (ans_cmp (x := .int ls[j+1].1) (y := .int ls[j].1) (val_op (val_var rfl) val_c fun Q q => ⟨a, _, 0, _, rfl, rfl, SqT.of h1, rfl, q⟩) ?_ fun Q q => ⟨_, _, rfl, rfl, ?_⟩)
              · refine val_op (x := .ref as[j]) (val_op (val_var rfl) (val_op (z := .int (j : Int)) (val_var rfl) val_c fun Q q => ⟨_, _, rfl, rfl, ?_⟩) fun Q q => ⟨t, _, (j : Int), _, rfl, rfl, .inl (rd_same ht s1), L2.at_of (j := j) rfl (by rw [List.getElem?_map, eja]; rfl), q⟩) val_c fun Q q => ⟨_, _, 0, _, rfl, rfl, SqT.of h2, rfl, q⟩
                have e : ((j + 1 : Nat) : Int) - 1 = (j : Int) := by omega
                show Q (.int (((j + 1 : Nat) : Int) - 1)) _
                rw [e]
                exact q
              · show Q (.bl (decide (ls[j+1].1 ≤ ls[j].1))) _
                rw [decide_eq_false (by omega)]
                exact q
          · exact ⟨_, _, rfl, s1⟩
    · obtain ⟨_, _, rfl, s⟩ := z
      exact q _ s
end
end Lamp
set_option Elab.async false
set_option linter.all false
set_option maxRecDepth 100000
set_option maxHeartbeats 1000000
namespace Lamp
open PySem PySem.Spec PyProof.Rows L2
open TL (tl tl_append ext_tl numL tl_ofString len_tl)
/-! numbers and rounds as texts -/
/-- an integer's text -/
def nS (i : Int) : Str := Str.ofString (toString i)
def sg (i : Int) : List Nat := if i < 0 then [45] else []
theorem tl_nS (i : Int) : tl (nS i) = sg i ++ numL i.natAbs := by
  cases i with
  | ofNat n =>
    have e : ¬ Int.ofNat n < 0 := by simp
    unfold sg
    rw [if_neg e]
    exact TL.tl_num n
  | negSucc n =>
    unfold sg
    rw [if_pos (Int.negSucc_lt_zero n)]
    show tl (Str.ofString ("-" ++ Nat.repr (n + 1))) = [45] ++ numL (n + 1)
    rw [tl_ofString, String.toList_append, List.map_append, Nat.toList_repr]
    rfl
theorem nS_sign {i : Int} {c : Nat} (h : c ∈ tl (nS i)) : c = 45 ∨ (48 ≤ c ∧ c ≤ 57) := by
  rw [tl_nS] at h
  rcases List.mem_append.mp h with h | h
  · unfold sg at h
    split at h
    · exact .inl (List.mem_singleton.mp h)
    · cases h
  · exact .inr (TL.numL_digits _ c h)
theorem nS_free {i : Int} {c : Nat} (h1 : c ≠ 45) (h2 : c < 48 ∨ 57 < c) : c ∉ tl (nS i) := fun z => by
  rcases nS_sign z with e | e
  · exact h1 e
  · omega
theorem nS_len {i : Int} (h : i.natAbs < 10 ^ 40) : (nS i).length ≤ 41 := by
  rw [len_tl, tl_nS, List.length_append]
  have h1 := TL.numL_len (by decide : 0 < 40) h
  have h2 : (sg i).length ≤ 1 := by
    unfold sg
    split <;> simp
  omega
theorem nS_read {i : Int} (h : i.natAbs < 10 ^ 40) : intText? (nS i) = some i := by
  have hl : (nS i).length ≤ 4300 := Nat.le_trans (nS_len h) (by decide)
  have e := tl_nS i
  unfold sg at e
  split at e
  · have z := PySem.intText_neg e (TL.numL_digits _) (TL.numL_ne _) hl
    have z2 : intText? (nS i) = some (-((NumText.digitsVal (numL i.natAbs) : Nat) : Int)) := z
    rw [TL.numL_val] at z2
    rw [z2]
    congr 1
    omega
  · rw [List.nil_append] at e
    have z := PySem.intText_digits (x := nS i) (by rw [show (nS i).cps.toList = _ from e]; exact TL.numL_digits _) (by rw [show (nS i).cps.toList = _ from e]; exact TL.numL_ne _) hl
    rw [show (nS i).cps.toList = _ from e, TL.numL_val] at z
    rw [z]
    congr 1
    omega
theorem nS_inj {i j : Int} (h1 : i.natAbs < 10 ^ 40) (h2 : j.natAbs < 10 ^ 40) (h : nS i = nS j) : i = j := by
  have e := nS_read h1
  rw [h, nS_read h2] at e
  exact (Option.some.inj e).symm
/-- without its sign -/
theorem tl_bare (i : Int) : tl (Txt.removeprefix (nS i) "-") = numL i.natAbs := by
  have hs : Builtin.Str.subAt (nS i) "-" 0 = decide (i < 0) := by
    unfold Builtin.Str.subAt
    have e : ((nS i).cps.extract 0 (0 + ("-" : Str).length)).toList = (tl (nS i)).take 1 := by
      rw [Array.toList_extract]
      rfl
    have e2 : (("-" : Str).cps).toList = [45] := rfl
    have e3 : ((nS i).cps.extract 0 (0 + ("-" : Str).length) == ("-" : Str).cps) = ((tl (nS i)).take 1 == [45]) := by
      rw [Bool.eq_iff_iff, beq_iff_eq, beq_iff_eq, ← e, ← e2]
      exact ⟨fun z => by rw [z], fun z => Array.toList_inj.mp z⟩
    rw [e3, tl_nS]
    unfold sg
    by_cases h : i < 0
    · rw [if_pos h, decide_eq_true h]
      rfl
    · rw [if_neg h, decide_eq_false h, List.nil_append]
      cases hn : numL i.natAbs with
      | nil => exact absurd hn (TL.numL_ne _)
      | cons c r =>
        have hd := TL.numL_digits i.natAbs c (by rw [hn]; exact List.mem_cons_self ..)
        show ([c] == [45]) = false
        rw [beq_eq_false_iff_ne]
        intro z
        have := (List.cons.inj z).1
        omega
  unfold Txt.removeprefix
  rw [hs]
  have e := tl_nS i
  unfold sg at e
  by_cases h : i < 0
  · rw [decide_eq_true h, if_pos rfl]
    rw [if_pos h] at e
    show tl (if ((nS i).length - ("-" : Str).length == (nS i).length) = true then nS i else Builtin.Str.strSub (nS i) ("-" : Str).length (nS i).length) = _
    have hl : (nS i).length ≠ 0 := by
      rw [len_tl, e]
      simp
    rw [if_neg (by rw [beq_iff_eq]; show ¬ (nS i).length - 1 = (nS i).length; omega), TL.tl_strSub_end, e]
    rfl
  · rw [decide_eq_false h, if_neg Bool.false_ne_true]
    rw [if_neg h] at e
    exact e
theorem dig_uni : ∀ c, c < 128 → 48 ≤ c → c ≤ 57 → Unicode.isDigit c = true := by decide +kernel
theorem all_tl (x : Str) (p : Nat → Bool) : x.cps.all p = (tl x).all p := by
  show x.cps.all p = x.cps.toList.all p
  simp
theorem bare_ascii (i : Int) : Txt.isascii (Txt.removeprefix (nS i) "-") = true := by
  unfold Txt.isascii
  rw [all_tl, tl_bare, List.all_eq_true]
  intro c hc
  have := TL.numL_digits _ c hc
  exact decide_eq_true (by omega)
theorem bare_digit (i : Int) : Txt.isdigit (Txt.removeprefix (nS i) "-") = true := by
  unfold Txt.isdigit
  rw [all_tl, len_tl, tl_bare, Bool.and_eq_true, List.all_eq_true]
  refine ⟨decide_eq_true ?_, fun c hc => ?_⟩
  · cases hn : numL i.natAbs with
    | nil => exact absurd hn (TL.numL_ne _)
    | cons c r => exact Nat.succ_pos _
  · have := TL.numL_digits _ c hc
    exact dig_uni c (by omega) this.1 this.2
/-- a lamp's word -/
def lampS (q : Int × Int) : Str := nS q.1 ++ ":" ++ nS q.2
theorem tl_lampS (q : Int × Int) : tl (lampS q) = tl (nS q.1) ++ 58 :: tl (nS q.2) := by
  unfold lampS
  rw [tl_append, tl_append, List.append_assoc]
  rfl
theorem lampS_free (q : Int × Int) : 32 ∉ tl (lampS q) := by
  rw [tl_lampS]
  intro h
  rcases List.mem_append.mp h with h | h
  · exact nS_free (by decide) (.inl (by decide)) h
  · rcases List.mem_cons.mp h with h | h
    · cases h
    · exact nS_free (by decide) (.inl (by decide)) h
theorem lampS_len {q : Int × Int} (h1 : q.1.natAbs < 10 ^ 40) (h2 : q.2.natAbs < 10 ^ 40) : (lampS q).length ≤ 83 := by
  rw [len_tl, tl_lampS, List.length_append, List.length_cons]
  have e1 := nS_len h1
  have e2 := nS_len h2
  rw [len_tl] at e1 e2
  omega
/-- the words behind the end -/
def tailWs (ls : List (Int × Int)) : List Str := match ls with
  | [] => ["dark"]
  | l :: r => "lamps" :: (l :: r).map lampS
def wordsS (lv : Int) (ls : List (Int × Int)) (fin : Int) : List Str := [("levels" : Str), nS lv, ("end" : Str), nS fin] ++ tailWs ls
def sheetS (lv : Int) (ls : List (Int × Int)) (fin : Int) : Str := Txt.join " " (wordsS lv ls fin)
theorem wordsS_free (lv : Int) (ls : List (Int × Int)) (fin : Int) : ∀ p ∈ wordsS lv ls fin, 32 ∉ tl p := by
  intro p hp
  unfold wordsS at hp
  rcases List.mem_append.mp hp with h | h
  · simp only [List.mem_cons, List.not_mem_nil, or_false] at h
    rcases h with rfl | rfl | rfl | rfl
    · decide
    · exact nS_free (by decide) (.inl (by decide))
    · decide
    · exact nS_free (by decide) (.inl (by decide))
  · cases ls with
    | nil =>
      rw [show tailWs [] = [("dark" : Str)] from rfl] at h
      rw [List.mem_singleton.mp h]
      decide
    | cons l r =>
      rcases List.mem_cons.mp h with h | h
      · rw [h]; decide
      · obtain ⟨q, _, rfl⟩ := List.mem_map.mp h
        exact lampS_free q
theorem sheet_split (lv : Int) (ls : List (Int × Int)) (fin : Int) : Txt.split (sheetS lv ls fin) " " = wordsS lv ls fin :=
  TL.split_join (y := (" " : Str)) (s := 32) (S := []) rfl (by rw [all_tl]; decide) (by unfold wordsS; simp) (wordsS_free lv ls fin)
theorem lamp_part (q : Int × Int) : Txt.partition (lampS q) ":" = (nS q.1, (":" : Str), nS q.2) :=
  TL.partition_app (y := (":" : Str)) (s := 58) (S := []) rfl (nS_free (by decide) (.inr (by decide)))
end Lamp
set_option Elab.async false
set_option linter.all false
set_option maxRecDepth 100000
set_option maxHeartbeats 1000000
namespace Lamp
open PySem PySem.Spec PyProof.Rows L2
open TL (tl tl_append ext_tl numL tl_ofString len_tl)
abbrev sRoundText : Stmt := top 39
/-! a round's text, put together as the program and as the law do -/
theorem nS_lenW {i : Int} (h : i.natAbs < 10 ^ 42) : (nS i).length ≤ 43 := by
  rw [TL.len_tl, tl_nS, List.length_append]
  have h1 := TL.numL_len (by decide : 0 < 42) h
  have h2 : (sg i).length ≤ 1 := by
    unfold sg
    split <;> simp
  omega
theorem lampS_lenW {q : Int × Int} (h1 : q.1.natAbs < 10 ^ 42) (h2 : q.2.natAbs < 10 ^ 42) : (lampS q).length ≤ 87 := by
  rw [TL.len_tl, tl_lampS, List.length_append, List.length_cons, ← TL.len_tl, ← TL.len_tl]
  have a := nS_lenW h1
  have b := nS_lenW h2
  omega
theorem le_lineW {n : Nat} (h : n ≤ 100000) : n ≤ sizeLine := by rw [sizeLine_eq]; omega
theorem fits {i : Int} (h1 : -big ≤ i) (h2 : i ≤ big) : i.natAbs < 10 ^ 42 := by
  have hb : big = 1000000000000000000000000000000000000000 := by decide
  rw [hb] at h1 h2
  omega
theorem fits_log {i : Int} (h : i.natAbs < 10 ^ 42) : i.natAbs.log2 < 1920 := Nat.lt_trans (PySem.Flt.log2_lt_of (k := 140) (by decide) (Nat.lt_of_lt_of_le h (by decide))) (by decide)
theorem tl_sheet (lv : Int) (ls : List (Int × Int)) (fin : Int) : tl (sheetS lv ls fin) = TL.joinL [32] ((wordsS lv ls fin).map tl) := by
  unfold sheetS
  rw [TL.join_eq, TL.tl_join]
  rfl
theorem tl_levels : tl ("levels " : Str) = tl ("levels" : Str) ++ [32] := rfl
theorem tl_end : tl (" end " : Str) = [32] ++ (tl ("end" : Str) ++ [32]) := rfl
theorem tl_darks : tl (" dark" : Str) = [32] ++ tl ("dark" : Str) := rfl
theorem tl_lampss : tl (" lamps " : Str) = [32] ++ (tl ("lamps" : Str) ++ [32]) := rfl
theorem tl_lamps : tl ("lamps " : Str) = tl ("lamps" : Str) ++ [32] := rfl
theorem tl_space : tl (" " : Str) = [32] := rfl
theorem tl_none : tl Str.empty = [] := rfl
theorem sheet_dark (lv fin : Int) : Str.empty ++ ("levels " : Str) ++ nS lv ++ (" end " : Str) ++ nS fin ++ (" dark" : Str) = sheetS lv [] fin := by
  refine ext_tl ?_
  rw [tl_sheet]
  simp only [tl_append, tl_levels, tl_end, tl_darks, tl_none, List.nil_append, List.append_assoc]
  rfl
theorem sheet_lamps (lv fin : Int) (l : Int × Int) (r : List (Int × Int)) : Str.empty ++ ("levels " : Str) ++ nS lv ++ (" end " : Str) ++ nS fin ++ (" lamps " : Str) ++ Txt.join (" " : Str) ((l :: r).map lampS) = sheetS lv (l :: r) fin := by
  refine ext_tl ?_
  rw [tl_sheet]
  simp only [tl_append, tl_levels, tl_end, tl_lampss, tl_none, List.nil_append, List.append_assoc, TL.join_eq, TL.tl_join, tl_space]
  rfl
theorem empty_app (x : Str) : Str.empty ++ x = x := ext_tl (by rw [tl_append]; rfl)
theorem len_app (x y : Str) : (x ++ y).length = x.length + y.length := by
  rw [len_tl, tl_append, List.length_append, ← len_tl, ← len_tl]
theorem lampsum : ∀ {ls : List (Int × Int)}, (∀ q ∈ ls, q.1.natAbs < 10 ^ 42 ∧ q.2.natAbs < 10 ^ 42) → ((ls.map lampS).map (·.length)).sum ≤ 87 * ls.length
  | [], _ => Nat.zero_le _
  | q :: r, h => by
    have h1 := h q (List.mem_cons_self ..)
    have h2 := lampS_lenW h1.1 h1.2
    have h3 := lampsum (ls := r) fun p hp => h p (List.mem_cons_of_mem _ hp)
    rw [List.map_cons, List.map_cons, List.sum_cons, List.length_cons]
    omega
theorem joinlen : ∀ (ps : List (List Nat)), (TL.joinL [32] ps).length ≤ (ps.map (·.length)).sum + ps.length
  | [] => Nat.le_refl _
  | [p] => by show p.length ≤ _; simp
  | p :: q :: r => by
    have h := joinlen (q :: r)
    show (p ++ ([32] ++ TL.joinL [32] (q :: r))).length ≤ _
    rw [List.length_append, List.length_append, List.map_cons, List.sum_cons, List.length_cons (a := p)]
    have e : ([32] : List Nat).length = 1 := rfl
    rw [e]
    omega
theorem joined_len {ls : List (Int × Int)} (h : ∀ q ∈ ls, q.1.natAbs < 10 ^ 42 ∧ q.2.natAbs < 10 ^ 42) : (Txt.join (" " : Str) (ls.map lampS)).length ≤ 88 * ls.length := by
  rw [len_tl, TL.join_eq, TL.tl_join, tl_space]
  have h1 := joinlen ((ls.map lampS).map tl)
  have h2 := lampsum h
  have h3 : (((ls.map lampS).map tl).map (·.length)).sum = ((ls.map lampS).map (·.length)).sum := by
    rw [List.map_map]
    congr 1
  rw [h3] at h1
  simp only [List.length_map] at h1
  omega
theorem sheet_len {lv : Int} {ls : List (Int × Int)} {fin : Int} (h0 : lv.natAbs < 10 ^ 42) (h1 : fin.natAbs < 10 ^ 42) (h : ∀ q ∈ ls, q.1.natAbs < 10 ^ 42 ∧ q.2.natAbs < 10 ^ 42) : (sheetS lv ls fin).length ≤ 130 + 88 * ls.length := by
  have e1 := nS_lenW h0
  have e2 := nS_lenW h1
  cases ls with
  | nil =>
    rw [← sheet_dark]
    simp only [len_app]
    have c1 : (Str.empty).length = 0 := rfl
    have c2 : ("levels " : Str).length = 7 := rfl
    have c3 : (" end " : Str).length = 5 := rfl
    have c4 : (" dark" : Str).length = 5 := rfl
    omega
  | cons l r =>
    rw [← sheet_lamps]
    have e3 := joined_len h
    simp only [len_app]
    have c1 : (Str.empty).length = 0 := rfl
    have c2 : ("levels " : Str).length = 7 := rfl
    have c3 : (" end " : Str).length = 5 := rfl
    have c4 : (" lamps " : Str).length = 7 := rfl
    omega
theorem le_line {n : Nat} (h : n ≤ 1000) : n ≤ sizeLine := Nat.le_of_lt (small1000 h)
/-- parts whose text is short -/
structure Fit (lv : Int) (ls : List (Int × Int)) (fin : Int) : Prop where
  lv : lv.natAbs < 10 ^ 42
  fin : fin.natAbs < 10 ^ 42
  few : ls.length ≤ 128
  all : ∀ q ∈ ls, q.1.natAbs < 10 ^ 42 ∧ q.2.natAbs < 10 ^ 42
def spRoundText (K : PySem.W.Frag) : Sp := fun vs H Q _ => ∃ (lv fin : Int) (t : Addr) (ls : List (Int × Int)), vs = [.int lv, .ref t, .int fin] ∧ Fit lv ls fin ∧ PicAt K H t ls ∧ ∀ H', Same H H' → Q (.str (sheetS lv ls fin)) H'
section
variable {P : Program} {w : World} {K : PySem.W.Frag} {mg : Str → Option Value} {base : Heap}
theorem scRoundText : FnScope ["levels", "lamps", "end", "words", "place", "level"] ["levels", "lamps", "end"] (defScope sRoundText) := ⟨rfl, rfl, rfl, by decide +kernel, rfl, by decide +kernel, by decide +kernel⟩
section
variable {σ : L2.St} {H : Hp} {te : TE} {ts : List TE} {acc y : Str} {i : Int} {Q : Str → Hp → Prop}
theorem js_c (hl : (acc ++ y).length ≤ sizeLine) (k : tJs ts (acc ++ y) σ H Q) : tJs (tC (.str y) :: ts) acc σ H Q := ⟨y, rfl, hl, k⟩
theorem js_i (h : Val te σ H (.int i)) (hi : i.natAbs < 10 ^ 42) (hl : (acc ++ nS i).length ≤ sizeLine) (k : tJs ts (acc ++ nS i) σ H Q) : tJs (tFmt te :: ts) acc σ H Q := h _ (.inr ⟨i, rfl, fits_log hi, _, rfl, hl, k⟩)
theorem js_s (h : Val te σ H (.str y)) (hy : y.length ≤ sizeLine) (hl : (acc ++ y).length ≤ sizeLine) (k : tJs ts (acc ++ y) σ H Q) : tJs (tFmt te :: ts) acc σ H Q := h _ (.inl ⟨y, rfl, hy, _, rfl, hl, k⟩)
end
/-- the texts one behind the other, as a value -/
def tJ (ts : List TE) : TE := fun σ H Q => tJs ts Str.empty σ H fun out H1 => Q (.str out) H1
theorem pe_js {X : Cx} {v1 v2 : Expr} {rest : List Expr} {ts : List TE} {pos : Pos} (h : PJ X (v1 :: v2 :: rest) ts) : PE X (.JoinedStr (v1 :: v2 :: rest) pos) (tJ ts) := pe_joined h
theorem ok_roundText {f : Addr} {fd : FuncData} (F : Fun K "round_text" "round_text" sRoundText f fd) : FnOk P w K mg base CX0 1 f fd ["levels", "lamps", "end"] (spRoundText K) := by
  refine F.ok scRoundText (fun vs H Q E h => ?_) (fun cdv A outer s H vs Q E hr h => ?_)
  · obtain ⟨lv, fin, t, ls, rfl, _⟩ := h
    rfl
  · obtain ⟨lv, fin, t, ls, rfl, hf, hp, q⟩ := h
    obtain ⟨as, ht, hlen, hat⟩ := pair_get hp
    have e1 := nS_lenW hf.lv
    have e2 := nS_lenW hf.fin
    have few := hf.few
    refine ⟨_, pss_cons (ps_if (pt_not (pt_truth (pv 1) (fun _ => rfl))) (pss_one (ps_ret (pe_js (.cons pe_str (.cons (pe_fmt (pv 0)) (.cons pe_str (.cons (pe_fmt (pv 2)) (.cons pe_str .nil)))))))) pss_nil)
      (pss_cons (ps_set (i := 3) scRoundText.nd rfl (.inl rfl) (pe_join pe_str (pe_lc (own := [("place", 4), ("level", 5)]) (g := gTup K 2 (gCons (gName 4) (gCons (gName 5) gNil))) (tt := tYes) rfl scRoundText.nd (pi_tup (pv 1))
          (blkOk_by (own := [("place", 4), ("level", 5)]) (N := ["levels", "lamps", "end", "words", "place", "level"]) (sc := defScope sRoundText) (by decide +kernel))
          (fun _ _ _ _ _ => pg_tup rfl (pgs_cons (pg_name (i := 4) scRoundText.nd rfl (Or.inl rfl)) (pgs_cons (pg_name (i := 5) scRoundText.nd rfl (Or.inl rfl)) pgs_nil))) (fun _ _ _ _ _ => pts_nil)
          (fun _ _ _ _ _ => pe_js (.cons (pe_fmt (pv 4)) (.cons pe_str (.cons (pe_fmt (pv 5)) .nil)))))))
      (pss_one (ps_ret (pe_js (.cons pe_str (.cons (pe_fmt (pv 0)) (.cons pe_str (.cons (pe_fmt (pv 2)) (.cons pe_str (.cons (pe_fmt (pv 3)) .nil)))))))))), ?_⟩
    have c0 : (Str.empty).length = 0 := rfl
    have c1 : ("levels " : Str).length = 7 := rfl
    have c2 : (" end " : Str).length = 5 := rfl
    have c3 : (" dark" : Str).length = 5 := rfl
    have c4 : (" lamps " : Str).length = 7 := rfl
    have c5 : (":" : Str).length = 1 := rfl
    cases ls with
    | nil =>
      have ea : as = [] := List.length_eq_zero_iff.mp hlen
      subst ea
      refine sq_yes (ans_not (b := false) (ans_tru (x := .ref t) (val_var rfl) (.inr (.inl ⟨_, .inl ht, rfl⟩)))) ?_
      refine js_c (by simp only [len_app]; exact le_lineW (by omega)) (js_i (val_var rfl) hf.lv (by simp only [len_app]; exact le_lineW (by omega)) (js_c (by simp only [len_app]; exact le_lineW (by omega))
        (js_i (val_var rfl) hf.fin (by simp only [len_app]; exact le_lineW (by omega)) (js_c (by simp only [len_app]; exact le_lineW (by omega)) ?_))))
      show Q (.str _) H
      rw [sheet_dark]
      exact q H (Same.refl H)
    | cons l r =>
      have el : (as.map V.ref).isEmpty = false := by
        cases as with
        | nil => cases hlen
        | cons _ _ => rfl
      refine sq_no (ans_not (b := true) (ans_tru (x := .ref t) (val_var rfl) (.inr (.inl ⟨_, .inl ht, by rw [el]; rfl⟩)))) ?_
      refine ⟨⟨_, rfl⟩, _, rfl, t, rfl, ⟨_, .inl ht⟩, fun D hD => ?_⟩
      refine lc_tup (K := K) (a := t) (xs := as.map V.ref) (fun i H' => Same H H' ∧ H' D = some (.lst ((((l :: r).take i).map lampS).map V.str))) ⟨same_of hD, upd_same⟩ (fun i H' _ z => .inl (rd_same ht z.1)) (fun i x H' hi z => ?_) (fun H' z => ?_)
      · obtain ⟨sb, hl⟩ := z
        rw [List.getElem?_map] at hi
        cases ea : as[i]? with
        | none => rw [ea] at hi; cases hi
        | some a =>
          rw [ea] at hi
          have ex : x = V.ref a := (Option.some.inj hi).symm
          subst ex
          have li : i < (l :: r).length := by
            rw [← hlen]
            exact (List.getElem?_eq_some_iff.mp ea).1
          have eq := List.getElem?_eq_getElem li
          have ha := sb _ _ (hat i a _ ea eq)
          have fq := hf.all _ (List.getElem_mem li)
          have f1 := nS_lenW fq.1
          have f2 := nS_lenW fq.2
          refine ⟨a, _, rfl, SqT.of ha, rfl, _, _, rfl, _, _, rfl, rfl, rfl, ?_⟩
          refine js_i (val_var rfl) fq.1 (by simp only [len_app]; exact le_lineW (by omega)) (js_c (by simp only [len_app]; exact le_lineW (by omega)) (js_i (val_var rfl) fq.2 (by simp only [len_app]; exact le_lineW (by omega)) ?_))
          refine ⟨_, hl, ?_, fun b o e => ?_, ?_⟩
          · rw [List.length_map, List.length_map, List.length_take]
            exact small1000 (by omega)
          · have nb : b ≠ D := fun z => by rw [z, hD] at e; cases e
            rw [upd_ne nb]
            exact sb _ _ e
          · rw [upd_same, List.take_add_one, eq, List.map_append, List.map_append, empty_app]
            rfl
      · obtain ⟨sb, hl⟩ := z
        rw [List.length_map, hlen, List.take_length] at hl
        have jl := joined_len hf.all
        refine ⟨_, D, (l :: r).map lampS, rfl, rfl, .inl (SqL.of hl), ?_, ?_⟩
        · have h1 := lampsum hf.all
          have h2 : (" " : Str).length = 1 := rfl
          rw [h2]
          simp only [List.length_map]
          omega
        · refine js_c (by simp only [len_app]; exact le_lineW (by omega)) (js_i (val_var rfl) hf.lv (by simp only [len_app]; exact le_lineW (by omega)) (js_c (by simp only [len_app]; exact le_lineW (by omega))
            (js_i (val_var rfl) hf.fin (by simp only [len_app]; exact le_lineW (by omega)) (js_c (by simp only [len_app]; exact le_lineW (by omega)) (js_s (y := Txt.join (" " : Str) ((l :: r).map lampS)) (val_var rfl) (le_lineW (by omega)) (by simp only [len_app]; exact le_lineW (by omega)) ?_)))))
          show Q (.str _) H'
          rw [sheet_lamps]
          exact q H' sb
end
end Lamp
set_option Elab.async false
set_option linter.all false
set_option maxRecDepth 100000
set_option maxHeartbeats 1000000
namespace Lamp
open PySem PySem.Spec PyProof.Rows L2
open TL (tl tl_append ext_tl numL tl_ofString len_tl)
/-! the texts' signs, the texts as data -/
def Asc (x : Str) : Prop := ∀ c ∈ tl x, c < 128
theorem asc_ok {x : Str} (h : Asc x) : PyData.strOk x = true := by
  unfold PyData.strOk
  rw [all_tl, List.all_eq_true]
  intro c hc
  have := h c hc
  exact decide_eq_true (by omega)
theorem asc_nS (i : Int) : Asc (nS i) := fun c hc => by
  rcases nS_sign hc with e | e <;> omega
theorem asc_app {x y : Str} (h1 : Asc x) (h2 : Asc y) : Asc (x ++ y) := fun c hc => by
  rw [tl_append] at hc
  rcases List.mem_append.mp hc with h | h
  · exact h1 c h
  · exact h2 c h
theorem asc_lampS (q : Int × Int) : Asc (lampS q) := asc_app (asc_app (asc_nS _) (by intro c hc; revert c; decide)) (asc_nS _)
theorem asc_tailWs {ls : List (Int × Int)} : ∀ x ∈ tailWs ls, Asc x := fun x hx => by
  cases ls with
  | nil =>
    rw [List.mem_singleton.mp (show x ∈ [("dark" : Str)] from hx)]
    intro c hc; revert c; decide
  | cons l r =>
    rcases List.mem_cons.mp hx with h | h
    · rw [h]
      intro c hc; revert c; decide
    · obtain ⟨q, _, rfl⟩ := List.mem_map.mp h
      exact asc_lampS q
theorem asc_joinL : ∀ {ps : List (List Nat)}, (∀ p ∈ ps, ∀ c ∈ p, c < 128) → ∀ c ∈ TL.joinL [32] ps, c < 128
  | [], _, c, hc => by cases hc
  | [p], h, c, hc => h p (List.mem_singleton.mpr rfl) c hc
  | p :: q :: r, h, c, hc => by
    rcases List.mem_append.mp (show c ∈ p ++ ([32] ++ TL.joinL [32] (q :: r)) from hc) with h1 | h1
    · exact h p (List.mem_cons_self ..) c h1
    · rcases List.mem_append.mp h1 with h2 | h2
      · rw [List.mem_singleton.mp h2]; decide
      · exact asc_joinL (fun z hz => h z (List.mem_cons_of_mem _ hz)) c h2
theorem asc_words {lv : Int} {ls : List (Int × Int)} {fin : Int} : ∀ x ∈ wordsS lv ls fin, Asc x := fun x hx => by
  unfold wordsS at hx
  rcases List.mem_append.mp hx with h | h
  · simp only [List.mem_cons, List.not_mem_nil, or_false] at h
    rcases h with rfl | rfl | rfl | rfl
    · intro c hc; revert c; decide
    · exact asc_nS _
    · intro c hc; revert c; decide
    · exact asc_nS _
  · exact asc_tailWs x h
theorem asc_sheet (lv : Int) (ls : List (Int × Int)) (fin : Int) : Asc (sheetS lv ls fin) := fun c hc => by
  rw [tl_sheet] at hc
  refine asc_joinL (fun p hp d hd => ?_) c hc
  obtain ⟨x, hx, rfl⟩ := List.mem_map.mp hp
  exact asc_words x hx d hd
def strsD (xs : List Str) : List PyData := xs.map PyData.str
def pairD (q : Int × Int) : PyData := .tuple [.int q.1, .int q.2]
theorem lay_strs : ∀ {xs : List Str}, (∀ x ∈ xs, Asc x) → PyData.canLayAll0 (strsD xs) = true ∧ PyData.depthAll (strsD xs) = 0
  | [], _ => ⟨rfl, rfl⟩
  | x :: xs, h => by
    obtain ⟨h1, h2⟩ := lay_strs (xs := xs) fun y hy => h y (List.mem_cons_of_mem _ hy)
    refine ⟨?_, ?_⟩
    · show (PyData.canLay0 (.str x) && PyData.canLayAll0 (strsD xs)) = true
      rw [h1, Bool.and_true]
      exact asc_ok (h x (List.mem_cons_self ..))
    · show max 0 (PyData.depthAll (strsD xs)) = 0
      rw [h2]
      rfl
theorem lay_pairs : ∀ (ls : List (Int × Int)), PyData.canLayAll0 (ls.map pairD) = true ∧ PyData.depthAll (ls.map pairD) ≤ 1
  | [] => ⟨rfl, Nat.zero_le _⟩
  | q :: r => by
    obtain ⟨h1, h2⟩ := lay_pairs r
    refine ⟨?_, ?_⟩
    · show (PyData.canLay0 (pairD q) && PyData.canLayAll0 (r.map pairD)) = true
      rw [h1, Bool.and_true]
      rfl
    · show max (PyData.depth (pairD q)) (PyData.depthAll (r.map pairD)) ≤ 1
      have e : PyData.depth (pairD q) = 1 := rfl
      rw [e]
      omega
theorem shaped_strs {xs : List Str} (h : ∀ x ∈ xs, Asc x) : SeqAt.shaped (.list (strsD xs)) = true := by
  obtain ⟨h1, h2⟩ := lay_strs h
  unfold SeqAt.shaped
  rw [Bool.and_eq_true]
  refine ⟨h1, decide_eq_true ?_⟩
  show PyData.depthAll (strsD xs) + 1 ≤ 64
  omega
theorem shaped_pairs (ls : List (Int × Int)) : SeqAt.shaped (.list (ls.map pairD)) = true ∧ SeqAt.shaped (.tuple (ls.map pairD)) = true := by
  obtain ⟨h1, h2⟩ := lay_pairs ls
  unfold SeqAt.shaped
  rw [Bool.and_eq_true, Bool.and_eq_true]
  refine ⟨⟨h1, decide_eq_true ?_⟩, ⟨h1, decide_eq_true ?_⟩⟩
  · show PyData.depthAll (ls.map pairD) + 1 ≤ 64
    omega
  · show PyData.depthAll (ls.map pairD) + 1 ≤ 64
    omega
theorem dp_strs {K : PySem.W.Frag} {H : Hp} : ∀ (xs : List Str), DpAll K H (xs.map V.str) (strsD xs)
  | [] => .nil
  | x :: xs => .cons (.str x) (dp_strs xs)
theorem dp_pairs {K : PySem.W.Frag} {H : Hp} : ∀ {as : List Addr} {ls : List (Int × Int)}, Paired (fun a (q : Int × Int) => H a = some (.tup [.int q.1, .int q.2])) as ls → DpAll K H (as.map V.ref) (ls.map pairD)
  | _, _, .nil => .nil
  | _, _, .cons h t => .cons (.tup (SqT.of h) (.cons (.int _) (.cons (.int _) .nil))) (dp_pairs t)
theorem dp_pic {K : PySem.W.Frag} {H : Hp} {t : Addr} {ls : List (Int × Int)} (h : PicAt K H t ls) : Dp K H (.ref t) (.tuple (ls.map pairD)) := by
  obtain ⟨as, h1, h2⟩ := h
  exact .tup (.inl h1) (dp_pairs h2)
section
variable {P : Program} {w : World} {K : PySem.W.Frag} {mg : Str → Option Value} {base : Heap}
end
end Lamp
set_option Elab.async false
set_option linter.all false
set_option maxRecDepth 100000
set_option maxHeartbeats 1000000
namespace Lamp
open PySem PySem.Spec PyProof.Rows L2
/-! len, str, repr, bool of an instance by its own methods -/
/-- the class at C has m as a def at f that keeps sp -/
structure OwnM (P : Program) (w : World) (K : PySem.W.Frag) (mg : Str → Option Value) (base : Heap) (C : Addr) (m : Str) (sp : Sp) (k : Nat) : Prop where
  ex : ∃ (f : Addr) (fd : FuncData), PySem.W.findIn K (.ref C) m = some (some (.ref f)) ∧ PySem.W.isFn K (.ref f) = true ∧ FnOk P w K mg base CX0 k f fd ["self"] sp ∧ Binds K fd ["self"] []
section
variable {X : Cx} {pins : List (Addr × Obj)} {σ : L2.St} {H : Hp} {s : Shared} {Q : VK} {a f : Addr} {k : Nat} {sp : Sp} {fd : FuncData} {A' : Around}
theorem run_self (F : FnOk X.prog X.w X.K X.mg X.base CX0 k f fd ["self"] sp) (hr : Room k A') (hf : A'.frames = X.A.frames) (hb : Binds X.K fd ["self"] []) (I : Inv X pins σ H s) (h : sp [.ref a] H Q E0) :
    wpAny (model X.prog X.w) A' (call (.ref f) [.ref a]) (EP X pins σ Q) X.xe s := by
  have e0 := I.env0
  have e1 : Env0 X.prog X.w X.K X.mg X.base A' X.stack s H := ⟨hf.trans e0.frames, e0.mod, e0.bs, e0.bsz, e0.funs, e0.frf, e0.hok, e0.bare⟩
  have bb := hb s [.ref a] I.kIn rfl
  refine wpAny_call (codeAny_mono (F.run A' X.stack s H ⟨[.ref a], []⟩ [.ref a] [.ref a] Q E0 hr e1 bb (.cons (show RelV (V.ref a) (Value.ref a) from rfl) .nil) h) fun res s' told => ?_)
  match res, told with
  | .error _, told => exact False.elim told
  | .ok (.ret u), told => exact I.after told
  | .ok .next, told => exact False.elim told
  | .ok .brk, told => exact False.elim told
  | .ok .cont, told => exact False.elim told
theorem ins_inst {C dx : Addr} {fs : List (Str × V)} (I : Inv X pins σ H s) (h : H a = some (.ins C dx fs)) : ∃ od, PySem.W.InstAt s.heap a (PySem.W.instObj C dx) C (some od) := by
  obtain ⟨mA, O, _⟩ := ins_get I.hok h
  obtain ⟨od, J, _⟩ := O.look
  exact ⟨od, J⟩
end
section
variable {X : Cx} {C : Addr} {sp : Sp} {k : Nat}
/-- the reading of such a call: what the method hands back, as ok says, is the answer -/
def rOwn (C : Addr) (sp : Sp) (ok : V → Prop) : List V → Hp → VK → Prop := fun xs H Q => ∃ (a dx : Addr) (fs : List (Str × V)), xs = [.ref a] ∧ H a = some (.ins C dx fs) ∧ sp [.ref a] H (fun v H' => ok v ∧ Q v H') E0
def okLen (v : V) : Prop := ∃ n : Int, v = .int n ∧ 0 ≤ n ∧ n < 2 ^ 63
def okStr (v : V) : Prop := ∃ x : Str, v = .str x
def okBool (v : V) : Prop := ∃ b : Bool, v = .bl b
theorem call_lenO (Z : OwnM X.prog X.w X.K X.mg X.base C "__len__" sp k) (hr : Room (k + 1) X.A) : CallR X (.builtin "len") (rOwn C sp okLen) := by
  intro pins s σ H xs us Q I r h
  obtain ⟨a, dx, fs, rfl, ha, hs⟩ := h
  obtain ⟨f, fd, h1, h2, F, b⟩ := Z.ex
  have e := Vals.ref1 r
  subst e
  obtain ⟨od, J⟩ := ins_inst I ha
  obtain ⟨m, fr⟩ := I.fr
  refine PySem.W.len_K fr I.ok.mod.kin J h1 h2 (wpAny_mono (run_self F hr.in1 rfl b I hs) (fun u s' told => ?_) fun _ _ z => z)
  obtain ⟨v, H1, I1, rv, ⟨n, ev, n0, n1⟩, q⟩ := told
  subst ev
  obtain ⟨t, eu⟩ := rv
  subst eu
  exact ⟨⟨n0, n1⟩, ⟨.int n, H1, I1.tok _, ⟨_, rfl⟩, q⟩⟩
theorem call_reprO (Z : OwnM X.prog X.w X.K X.mg X.base C "__repr__" sp k) (hr : Room (k + 1) X.A) : CallR X (.builtin "repr") (rOwn C sp okStr) := by
  intro pins s σ H xs us Q I r h
  obtain ⟨a, dx, fs, rfl, ha, hs⟩ := h
  obtain ⟨f, fd, h1, h2, F, b⟩ := Z.ex
  have e := Vals.ref1 r
  subst e
  obtain ⟨od, J⟩ := ins_inst I ha
  obtain ⟨m, fr⟩ := I.fr
  refine PySem.W.repr_K hr.in1.units0 fr I.ok.mod.kin J h1 h2 (wpAny_mono (run_self F hr.in1 rfl b I hs) (fun u s' told => ?_) fun _ _ z => z)
  obtain ⟨v, H1, I1, rv, ⟨x, ev⟩, q⟩ := told
  subst ev
  obtain ⟨t, eu⟩ := rv
  subst eu
  exact ⟨.str x, H1, I1, ⟨_, rfl⟩, q⟩
theorem call_strO (Z : OwnM X.prog X.w X.K X.mg X.base C "__str__" sp k) (hr : Room (k + 2) X.A) : CallR X (.type "str") (rOwn C sp okStr) := by
  intro pins s σ H xs us Q I r h
  obtain ⟨a, dx, fs, rfl, ha, hs⟩ := h
  obtain ⟨f, fd, h1, h2, F, b⟩ := Z.ex
  have e := Vals.ref1 r
  subst e
  obtain ⟨od, J⟩ := ins_inst I ha
  refine PySem.W.kso_call hr.in1.in1.units0 I.kIn J h1 h2 (wpAny_mono (run_self F hr.in1.in1 rfl b I hs) (fun u s' told => ?_) fun _ _ z => z)
  obtain ⟨v, H1, I1, rv, ⟨x, ev⟩, q⟩ := told
  subst ev
  obtain ⟨t, eu⟩ := rv
  subst eu
  exact ⟨.str x, H1, I1, ⟨_, rfl⟩, q⟩
theorem call_boolO (Z : OwnM X.prog X.w X.K X.mg X.base C "__bool__" sp k) (hr : Room (k + 2) X.A) : CallR X (.type "bool") (rOwn C sp okBool) := by
  intro pins s σ H xs us Q I r h
  obtain ⟨a, dx, fs, rfl, ha, hs⟩ := h
  obtain ⟨f, fd, h1, h2, F, b⟩ := Z.ex
  have e := Vals.ref1 r
  subst e
  obtain ⟨od, J⟩ := ins_inst I ha
  obtain ⟨m, fr⟩ := I.fr
  refine callType_codes (T := "bool") (Bi := Builtin.«object.__init__») (Q₁ := fun r s₁ => ∃ y, r = .bool y ∧ EP X pins σ Q r s₁) PySem.F.called_bool (PySem.F.typeCall_bool_1 _) PySem.F.entry_object_init ?_ ?_
  · refine codeAny_of_tree ?_
    show wpAny _ X.A.in1.in1 (do checkBuiltinCall "bool.__new__" ⟨[.type "bool", .ref a], []⟩; again (.builtin "bool.__new__" ⟨[.type "bool", .ref a], []⟩)) _ _ s
    refine PySem.wpAny_bind (wpAny_of_eq (PySem.F.newCall_bool_1 _) (PySem.wpAny_pure ⟨plainId_quiet (by decide +kernel) _, codeAny_builtin PySem.F.entry_bool_new ?_⟩))
    rw [Around.under_plainId (by decide +kernel) _]
    refine PySem.wpAny_bind (PySem.wpAny_pure ?_)
    refine PySem.wpAny_bind (wpAny_of_eq PySem.F.conv_sub_bool ?_)
    refine PySem.wpAny_bind (PySem.wpAny_pure ?_)
    refine PySem.wpAny_bind (PySem.W.truthy_K fr I.ok.mod.kin J h1 h2 (wpAny_mono (run_self F hr.in1.in1 rfl b I hs) (fun u s' told => ?_) fun _ _ z => z))
    obtain ⟨v, H1, I1, rv, ⟨x, ev⟩, q⟩ := told
    subst ev
    have eu : u = Value.bool x := rv
    subst eu
    exact PySem.wpAny_pure ⟨x, rfl, .bl x, H1, I1, rfl, q⟩
  · rintro obj s₁ ⟨y, rfl, hq⟩
    exact ⟨rfl, PySem.F.args_object_init_2 _ _, object_init_meets PySem.F.called_bool.init.lookup PySem.F.called_bool.made (by decide) X.prog X.w X.A.in1 _ s₁ ⟨rfl, rfl, hq⟩⟩
end
end Lamp
set_option Elab.async false
set_option linter.all false
set_option maxRecDepth 100000
set_option maxHeartbeats 1000000
namespace Lamp
open PySem PySem.Spec PyProof.Rows L2
abbrev sRound : Stmt := top 44
abbrev sInit : Stmt := inClass sRound 0
abbrev sRead : Stmt := inClass sRound 1
/-! rounds as objects -/
def fldR (lv : Int) (t : Addr) (fin : Int) : List (Str × V) := [("_levels", .int lv), ("_lamps", .ref t), ("_end", .int fin)]
/-- at a: the round with these parts, its picture at t -/
def RoundAt (C : Addr) (H : Hp) (a : Addr) (lv : Int) (t : Addr) (fin : Int) : Prop := ∃ dx, H a = some (.ins C dx (fldR lv t fin))
theorem RoundAt.same {C : Addr} {H H' : Hp} {a t : Addr} {lv fin : Int} (h : RoundAt C H a lv t fin) (e : Same H H') : RoundAt C H' a lv t fin := by
  obtain ⟨dx, h⟩ := h
  exact ⟨dx, e _ _ h⟩
/-- what of the text the class must have -/
structure RCls (K : PySem.W.Frag) (C : Addr) : Prop where
  cl : Cls K C
  n1 : NoAttr K C "_levels"
  n2 : NoAttr K C "_lamps"
  n3 : NoAttr K C "_end"
def spInitR (K : PySem.W.Frag) (C : Addr) : Sp := fun vs H Q _ => ∃ (a t : Addr) (lv fin : Int) (dx : Addr) (ls : List (Int × Int)), vs = [.ref a, .int lv, .ref t, .int fin] ∧ H a = some (.ins C dx []) ∧ goodLv lv ∧ PicAt K H t ls ∧ IsPicW lv ls ∧
  ∀ H', But a H H' → H' a = some (.ins C dx (fldR lv t fin)) → Q .non H'
section
variable {P : Program} {w : World} {K : PySem.W.Frag} {mg : Str → Option Value} {base : Heap} {C : Addr}
theorem scInit : FnScope ["self", "levels", "lamps", "end", "index"] ["self", "levels", "lamps", "end"] (defScope sInit) := ⟨rfl, rfl, rfl, by decide +kernel, rfl, by decide +kernel, by decide +kernel⟩
theorem ok_initR {f : Addr} {fd : FuncData} {t1 : Tok} (F : Fun K "__init__" "Round.__init__" sInit f fd) (R : RCls K C) (Ii : Dr P w K mg base spIsInt "is_integer" ["value"] 1) (Il : Dr P w K mg base spIsLevels "is_levels" ["value"] 2)
    (Wr : Dr P w K mg base (spWrong K) "wrong_lamp" ["levels", "lamps"] 3) (mML : mg "MOST_LAMPS" = some (.int 400 t1)) (mis : mg "isinstance" = none) (mt : mg "tuple" = none) (ml : mg "len" = none) :
    FnOk P w K mg base CX0 4 f fd ["self", "levels", "lamps", "end"] (spInitR K C) := by
  refine F.ok scInit (fun vs H Q E h => ?_) (fun cdv A outer s H vs Q E hr h => ?_)
  · obtain ⟨a, t, lv, fin, dx, ls, rfl, _⟩ := h
    rfl
  · obtain ⟨a, t, lv, fin, dx, ls, rfl, ha, hg, hp, hi, q⟩ := h
    obtain ⟨as, ht, hlen, hat⟩ := pair_get hp
    have few := hi.few
    refine ⟨_, pss_cons (ps_if (pt_not (pt_val (pe_dr Il (by decide) hr rfl (pa_cons (pv 1) pa_nil)))) pss_never pss_nil)
      (pss_cons (ps_if (pt_not (pt_val (pe_callB call_isi (by rfl) mis (by decide +kernel) (pa_cons (pv 2) (pa_cons (pe_bltn (v := .ty "tuple") (by rfl) mt (by decide +kernel) rfl) pa_nil))))) pss_never pss_nil)
      (pss_cons (ps_set (i := 4) scInit.nd rfl (.inl rfl) (pe_dr Wr (Nat.le_refl _) hr rfl (pa_cons (pv 1) (pa_cons (pe_slice (r := rSlA K) sl_tupA (pv 2) po_none (po_some (pe_glob (v := .int 400) rfl mML ⟨_, rfl⟩))) pa_nil))))
      (pss_cons (ps_if (pt_cmpR op_notN1 (pv 4) pe_non (nomark _)) pss_never pss_nil)
      (pss_cons (ps_if (pt_cmpR op_gt (pe_callB call_len_seq (by rfl) ml PySem.boot_len (pa_cons (pv 2) pa_nil)) (pe_glob (v := .int 400) rfl mML ⟨_, rfl⟩) (nomark _)) pss_never pss_nil)
      (pss_cons (ps_if (pt_not (pt_val (pe_dr Ii (by decide) hr rfl (pa_cons (pv 3) pa_nil)))) pss_never pss_nil)
      (pss_cons (ps_fld (pv 0) (pv 1) (by rfl)) (pss_cons (ps_fld (pv 0) (pv 2) (by rfl)) (pss_one (ps_fld (pv 0) (pv 3) (by rfl)))))))))), ?_⟩
    refine sq_no (ans_not (b := true) (ans_val fun Q q => ⟨_, rfl, lv, rfl, hg, q⟩)) ?_
    refine sq_no (ans_not (b := true) (ans_val fun Q q => ⟨_, rfl, isi_tR ht q⟩)) ?_
    refine ⟨_, rfl, _, rfl, 400, rfl, t, _, rfl, .inl ht, fun _ => ?_, fun hn => absurd ⟨rfl, ?_⟩ hn⟩
    · refine ⟨lv, t, ls, rfl, hp, hi, fun H1 s1 => ?_⟩
      refine sq_no (ans_notN (x := .non) (val_var rfl) (by rw [decide_eq_true rfl]; rfl)) ?_
      refine sq_no (an_gt (x := ((as.map V.ref).length : Nat)) (fun Q q => ⟨_, rfl, t, _, rfl, .inr (.inl (rd_same ht s1)), q⟩) val_c ?_) ?_
      · rw [List.length_map]
        exact decide_eq_false (by omega)
      refine sq_no (ans_not (b := true) (ans_val fun Q q => ⟨_, rfl, fin, rfl, q⟩)) ?_
      refine st_seq (st_fld (y := .int lv) (val_var rfl) (val_var rfl) (s1 _ _ ha) R.cl R.n1 (by show 0 < 1000; decide) ?_)
      refine st_seq (st_fld (y := .ref t) (val_var rfl) (val_var rfl) upd_same R.cl R.n2 (by show 1 < 1000; decide) ?_)
      refine st_fld (y := .int fin) (val_var rfl) (val_var rfl) upd_same R.cl R.n3 (by show 2 < 1000; decide) ?_
      exact q _ (((But.of s1).trans But.at).trans (But.at.trans But.at)) upd_same
    · rw [List.length_map, show (some (400 : Int)) = some ((400 : Nat) : Int) from rfl, HT.sIx_nat]
      omega
end
end Lamp
set_option Elab.async false
set_option linter.all false
set_option maxRecDepth 100000
set_option maxHeartbeats 1000000
namespace Lamp
open PySem PySem.Spec PyProof.Rows L2
open TL (tl tl_append ext_tl numL tl_ofString len_tl)
/-! making rounds -/
/-- the class made with three values: what is told of it -/
structure MkR (P : Program) (w : World) (K : PySem.W.Frag) (mg : Str → Option Value) (base : Heap) (C : Addr) : Prop where
  ex : ∃ (f : Addr) (fd : FuncData), Mk K C f ∧ FnOk P w K mg base CX0 4 f fd ["self", "levels", "lamps", "end"] (spInitR K C) ∧ Binds K fd ["self", "levels", "lamps", "end"] [] ∧
    ∀ (s : Shared) (x u1 u2 u3 : Value), BindsTo s fd ⟨[x], [("end", u1), ("levels", u2), ("lamps", u3)]⟩ [("self", x), ("levels", u2), ("lamps", u3), ("end", u1)]
def rMkR (K : PySem.W.Frag) (C : Addr) (lv : Int) (t : Addr) (fin : Int) (H : Hp) (Q : VK) : Prop := ∃ ls : List (Int × Int), goodLv lv ∧ PicAt K H t ls ∧ IsPicW lv ls ∧ ∀ a H', Same H H' → H a = none → RoundAt C H' a lv t fin → Q (.ref a) H'
theorem mk_init {K : PySem.W.Frag} {C : Addr} {lv fin : Int} {t : Addr} {H : Hp} {Q : VK} (h : rMkR K C lv t fin H Q) {x dx : Addr} (hx : H x = none) (hd : H dx = none) (hne : dx ≠ x) :
    spInitR K C [.ref x, .int lv, .ref t, .int fin] (upd (upd H dx (.own x)) x (.ins C dx [])) (fun v H2 => v = .non ∧ Q (.ref x) H2) E0 := by
  obtain ⟨ls, hg, hp, hi, q⟩ := h
  have s1 : Same H (upd (upd H dx (.own x)) x (.ins C dx [])) := fun b o e => by rw [upd_ne (ne_of_none e hx), upd_ne (ne_of_none e hd)]; exact e
  refine ⟨x, t, lv, fin, dx, ls, rfl, upd_same, hg, hp.same s1, hi, fun H' bt hr => ⟨rfl, q x H' (fun b o e => ?_) hx ⟨dx, hr⟩⟩⟩
  exact bt b o (ne_of_none e hx) (s1 b o e)
/-- Round(a, b, c) -/
def tMkR (K : PySem.W.Frag) (C : Addr) (ta : TA) : TE := fun σ H Q => ta σ H fun vs H1 => ∃ (lv : Int) (t : Addr) (fin : Int), vs = [.int lv, .ref t, .int fin] ∧ rMkR K C lv t fin H1 Q
section
variable {X : Cx} {C : Addr} {x : Str} {e : Expr} {es : List Expr} {ta tk : TA} {p pos : Pos} {kws : List Keyword} {i : Nat}
theorem pe_mkR (Z : MkR X.prog X.w X.K X.mg X.base C) (hr : Room 5 X.A) (hg : Gl X x) (hm : X.mg x = some (.ref C)) (ha : PA X (e :: es) ta) (hdb : (x == ("__debug__" : Str)) = false := by decide)
    (he : starEach (e :: es) X.env = (false, eval e X.env) :: starEach es X.env := by rfl) (hpl : (backTo pos (starEach es X.env)).any (·.1) = false := by rfl) : PE X (.Call (.Name x p) (e :: es) [] pos) (tMkR X.K C ta) := by
  obtain ⟨f, fd, M, F, b, _⟩ := Z.ex
  refine ⟨fun pins s σ H Q I h => ?_⟩
  refine wpAny_Call_Name_kw (ld_glob I hg hm ?_ hdb)
  refine PySem.W.callWith_K (h₀ := X.base) I.ok.mod.kin M.kp (thn (ha.run pos pins s σ H _ I h) fun us s1 ⟨vs, H1, I1, r, lv, t, fin, ev, q⟩ => ⟨I1.kIn, ?_⟩) he hpl
  subst ev
  exact run_make M F hr b .nil pass0 I1 r fun y dx hy hd hne => mk_init q hy hd hne
/-- cls(a, b, c), the i-th name holding the class -/
def tMkL (K : PySem.W.Frag) (C : Addr) (i : Nat) (ta : TA) : TE := fun σ H Q => σ[i]? = some (some (.ref C)) ∧ tMkR K C ta σ H Q
theorem pe_mkL (Z : MkR X.prog X.w X.K X.mg X.base C) (hr : Room 5 X.A) (hN : X.N[i]? = some x) (hv : Vis X.env.scope x) (ha : PA X (e :: es) ta) (hdb : (x == ("__debug__" : Str)) = false := by decide) (hcd : (x == ("__classdict__" : Str)) = false := by decide)
    (he : starEach (e :: es) X.env = (false, eval e X.env) :: starEach es X.env := by rfl) (hpl : (backTo pos (starEach es X.env)).any (·.1) = false := by rfl) : PE X (.Call (.Name x p) (e :: es) [] pos) (tMkL X.K C i ta) := by
  obtain ⟨f, fd, M, F, b, _⟩ := Z.ex
  refine ⟨fun pins s σ H Q I h => ?_⟩
  obtain ⟨hs, h⟩ := h
  refine wpAny_Call_Name_kw (thn ((pe_var (pos := p) hN hv hdb hcd).run pins s σ H (fun v H1 => v = .ref C ∧ H1 = H) I ⟨.ref C, hs, rfl, rfl⟩) fun u s0 ⟨v, H0, I0, r0, q0⟩ => ?_)
  obtain ⟨rfl, rfl⟩ := q0
  cases r0
  refine PySem.W.callWith_K (h₀ := X.base) I.ok.mod.kin M.kp (thn (ha.run pos pins s0 σ _ _ I0 h) fun us s1 ⟨vs, H1, I1, r, lv, t, fin, ev, q⟩ => ⟨I1.kIn, ?_⟩) he hpl
  subst ev
  exact run_make M F hr b .nil pass0 I1 r fun y dx hy hd hne => mk_init q hy hd hne
/-- Round(end=c, levels=a, lamps=b) -/
def tMkRK (K : PySem.W.Frag) (C : Addr) (tk : TA) : TE := fun σ H Q => tk σ H fun zs H1 => ∃ (lv : Int) (t : Addr) (fin : Int), zs = [.int fin, .int lv, .ref t] ∧ rMkR K C lv t fin H1 Q
def gK {α : Type} : List α → List α → List α
  | [x], [u1, u2, u3] => [x, u2, u3, u1]
  | _, _ => []
theorem three {α : Type} : ∀ {l : List α}, l.length = 3 → ∃ a b c, l = [a, b, c]
  | [a, b, c], _ => ⟨a, b, c, rfl⟩
theorem gK_rel : ∀ {vs : List V} {us : List Value} {zs : List V} {ws : List Value}, Vals vs us → Vals zs ws → Vals (gK vs zs) (gK us ws)
  | _, _, _, _, .cons r .nil, .cons r1 (.cons r2 (.cons r3 .nil)) => .cons r (.cons r2 (.cons r3 (.cons r1 .nil)))
  | _, _, _, _, .nil, _ => .nil
  | _, _, _, _, .cons _ (.cons _ _), _ => .nil
  | _, _, _, _, .cons _ .nil, .nil => .nil
  | _, _, _, _, .cons _ .nil, .cons _ .nil => .nil
  | _, _, _, _, .cons _ .nil, .cons _ (.cons _ .nil) => .nil
  | _, _, _, _, .cons _ .nil, .cons _ (.cons _ (.cons _ (.cons _ _))) => .nil
theorem pe_mkRK (Z : MkR X.prog X.w X.K X.mg X.base C) (hr : Room 5 X.A) (hg : Gl X x) (hm : X.mg x = some (.ref C)) (hkw : PK X kws tk)
    (hall : (backToKw pos (keywordEach kws X.env)).all (·.1.isSome) = true := by rfl) (hks : (backToKw pos (keywordEach kws X.env)).filterMap (·.1) = (["end", "levels", "lamps"] : List Str) := by rfl) (hdb : (x == ("__debug__" : Str)) = false := by decide)
    (hpl : ((backTo pos (starEach [] X.env)).any (·.1) || (backToKw pos (keywordEach kws X.env)).any (·.1.isNone)) = false := by rfl) : PE X (.Call (.Name x p) [] kws pos) (tMkRK X.K C tk) := by
  obtain ⟨f, fd, M, F, _, b⟩ := Z.ex
  have kb : KBn X.K fd ["self", "levels", "lamps", "end"] 1 ["end", "levels", "lamps"] gK gK := ⟨fun s us ws _ l1 l2 => by
    obtain ⟨x, rfl⟩ := List.length_eq_one_iff.mp l1
    obtain ⟨u1, u2, u3, rfl⟩ := three l2
    exact b s x u1 u2 u3, gK_rel⟩
  refine ⟨fun pins s σ H Q I h => ?_⟩
  refine wpAny_Call_Name_kw (ld_glob I hg hm ?_ hdb)
  refine PySem.W.callWith_KW0 (h₀ := X.base) I.ok.mod.kin M.kp hall ?_ hpl
  refine thn (hkw.run pos pins s σ H _ I h) fun ws s2 ⟨zs, H2, I2, rz, lv, t, fin, ev, q2⟩ => ⟨I2.kIn, ?_⟩
  subst ev
  rw [hks]
  exact run_makeK (us := []) (vs := []) M F hr kb pass0 I2 .nil rz rfl rfl fun y dx hy hd hne => mk_init q2 hy hd hne
end
def spLevels (C : Addr) : Sp := fun vs H Q _ => ∃ (a t : Addr) (lv fin : Int), vs = [.ref a] ∧ RoundAt C H a lv t fin ∧ Q (.int lv) H
def spLamps (C : Addr) : Sp := fun vs H Q _ => ∃ (a t : Addr) (lv fin : Int), vs = [.ref a] ∧ RoundAt C H a lv t fin ∧ Q (.ref t) H
def spEnd (C : Addr) : Sp := fun vs H Q _ => ∃ (a t : Addr) (lv fin : Int), vs = [.ref a] ∧ RoundAt C H a lv t fin ∧ Q (.int fin) H
def spBool : Sp := fun vs H Q _ => ∃ (a : Addr), vs = [.ref a] ∧ Q (.bl true) H
def spLen (K : PySem.W.Frag) (C : Addr) : Sp := fun vs H Q _ => ∃ (a t : Addr) (lv fin : Int) (ls : List (Int × Int)), vs = [.ref a] ∧ RoundAt C H a lv t fin ∧ PicAt K H t ls ∧ Q (.int (ls.length : Int)) H
def spText (K : PySem.W.Frag) (C : Addr) : Sp := fun vs H Q _ => ∃ (a t : Addr) (lv fin : Int) (ls : List (Int × Int)), vs = [.ref a] ∧ RoundAt C H a lv t fin ∧ PicAt K H t ls ∧ Fit lv ls fin ∧ ∀ H', Same H H' → Q (.str (sheetS lv ls fin)) H'
def reprS (n : Nat) : Str := ("Round of " : Str) ++ nS (n : Int) ++ (" lamps" : Str)
def spRepr (K : PySem.W.Frag) (C : Addr) : Sp := fun vs H Q _ => ∃ (a t : Addr) (lv fin : Int) (ls : List (Int × Int)), vs = [.ref a] ∧ RoundAt C H a lv t fin ∧ PicAt K H t ls ∧ ls.length ≤ 10 ∧ Q (.str (reprS ls.length)) H
abbrev sLevels : Stmt := inClass sRound 2
abbrev sLampsP : Stmt := inClass sRound 3
abbrev sEnd : Stmt := inClass sRound 4
abbrev sText : Stmt := inClass sRound 5
abbrev sBool : Stmt := inClass sRound 7
abbrev sLen : Stmt := inClass sRound 8
abbrev sStr : Stmt := inClass sRound 9
abbrev sRepr : Stmt := inClass sRound 10
section
variable {P : Program} {w : World} {K : PySem.W.Frag} {mg : Str → Option Value} {base : Heap} {C : Addr}
theorem scLevels : FnScope ["self"] ["self"] (defScope sLevels) := ⟨rfl, rfl, rfl, by decide +kernel, rfl, by decide +kernel, by decide +kernel⟩
theorem scLampsP : FnScope ["self"] ["self"] (defScope sLampsP) := ⟨rfl, rfl, rfl, by decide +kernel, rfl, by decide +kernel, by decide +kernel⟩
theorem scEnd : FnScope ["self"] ["self"] (defScope sEnd) := ⟨rfl, rfl, rfl, by decide +kernel, rfl, by decide +kernel, by decide +kernel⟩
theorem scText : FnScope ["self"] ["self"] (defScope sText) := ⟨rfl, rfl, rfl, by decide +kernel, rfl, by decide +kernel, by decide +kernel⟩
theorem scBool : FnScope ["self"] ["self"] (defScope sBool) := ⟨rfl, rfl, rfl, by decide +kernel, rfl, by decide +kernel, by decide +kernel⟩
theorem scLen : FnScope ["self"] ["self"] (defScope sLen) := ⟨rfl, rfl, rfl, by decide +kernel, rfl, by decide +kernel, by decide +kernel⟩
theorem scStr : FnScope ["self"] ["self"] (defScope sStr) := ⟨rfl, rfl, rfl, by decide +kernel, rfl, by decide +kernel, by decide +kernel⟩
theorem scRepr : FnScope ["self"] ["self"] (defScope sRepr) := ⟨rfl, rfl, rfl, by decide +kernel, rfl, by decide +kernel, by decide +kernel⟩
theorem v_lv {σ : L2.St} {H : Hp} {a t : Addr} {lv fin : Int} {ta : TE} (R : RCls K C) (h : Val ta σ H (.ref a)) (hr : RoundAt C H a lv t fin) : Val (tFld K ta "_levels") σ H (.int lv) := by
  obtain ⟨dx, hr⟩ := hr
  exact val_fld h hr R.cl R.n1 rfl
theorem v_la {σ : L2.St} {H : Hp} {a t : Addr} {lv fin : Int} {ta : TE} (R : RCls K C) (h : Val ta σ H (.ref a)) (hr : RoundAt C H a lv t fin) : Val (tFld K ta "_lamps") σ H (.ref t) := by
  obtain ⟨dx, hr⟩ := hr
  exact val_fld h hr R.cl R.n2 rfl
theorem v_en {σ : L2.St} {H : Hp} {a t : Addr} {lv fin : Int} {ta : TE} (R : RCls K C) (h : Val ta σ H (.ref a)) (hr : RoundAt C H a lv t fin) : Val (tFld K ta "_end") σ H (.int fin) := by
  obtain ⟨dx, hr⟩ := hr
  exact val_fld h hr R.cl R.n3 rfl
theorem ok_levels {f : Addr} {fd : FuncData} (F : Fun K "levels" "Round.levels" sLevels f fd) (R : RCls K C) : FnOk P w K mg base CX0 1 f fd ["self"] (spLevels C) := by
  refine F.ok scLevels (fun vs H Q E h => ?_) (fun cdv A outer s H vs Q E hr h => ?_)
  · obtain ⟨a, t, lv, fin, rfl, _⟩ := h
    rfl
  · obtain ⟨a, t, lv, fin, rfl, h, q⟩ := h
    exact ⟨_, pss_one (ps_ret (pe_fld (pv 0) rfl)), st_ret (v_lv R (val_var rfl) h) q⟩
theorem ok_lamps {f : Addr} {fd : FuncData} (F : Fun K "lamps" "Round.lamps" sLampsP f fd) (R : RCls K C) : FnOk P w K mg base CX0 1 f fd ["self"] (spLamps C) := by
  refine F.ok scLampsP (fun vs H Q E h => ?_) (fun cdv A outer s H vs Q E hr h => ?_)
  · obtain ⟨a, t, lv, fin, rfl, _⟩ := h
    rfl
  · obtain ⟨a, t, lv, fin, rfl, h, q⟩ := h
    exact ⟨_, pss_one (ps_ret (pe_fld (pv 0) rfl)), st_ret (v_la R (val_var rfl) h) q⟩
theorem ok_end {f : Addr} {fd : FuncData} (F : Fun K "end" "Round.end" sEnd f fd) (R : RCls K C) : FnOk P w K mg base CX0 1 f fd ["self"] (spEnd C) := by
  refine F.ok scEnd (fun vs H Q E h => ?_) (fun cdv A outer s H vs Q E hr h => ?_)
  · obtain ⟨a, t, lv, fin, rfl, _⟩ := h
    rfl
  · obtain ⟨a, t, lv, fin, rfl, h, q⟩ := h
    exact ⟨_, pss_one (ps_ret (pe_fld (pv 0) rfl)), st_ret (v_en R (val_var rfl) h) q⟩
theorem ok_bool {f : Addr} {fd : FuncData} (F : Fun K "__bool__" "Round.__bool__" sBool f fd) : FnOk P w K mg base CX0 1 f fd ["self"] spBool := by
  refine F.ok scBool (fun vs H Q E h => ?_) (fun cdv A outer s H vs Q E hr h => ?_)
  · obtain ⟨a, rfl, _⟩ := h
    rfl
  · obtain ⟨a, rfl, q⟩ := h
    exact ⟨_, pss_one (ps_ret pe_bl), st_ret val_c q⟩
theorem len_t {σ : L2.St} {H : Hp} {t : Addr} {ls : List (Int × Int)} {ta : TE} (h : Val ta σ H (.ref t)) (hp : PicAt K H t ls) : Val (tCB (fun xs H Q => ∃ p ys, xs = [.ref p] ∧ (SqL K H p ys ∨ SqT K H p ys) ∧ Q (.int ys.length) H) (tCons ta tNil)) σ H (.int (ls.length : Int)) := by
  obtain ⟨as, h1, hlen, _⟩ := pair_get hp
  intro Q q
  refine h _ ⟨t, _, rfl, .inr (.inl h1), ?_⟩
  rw [List.length_map, hlen]
  exact q
theorem ok_len {f : Addr} {fd : FuncData} (F : Fun K "__len__" "Round.__len__" sLen f fd) (R : RCls K C) (ml : mg "len" = none) : FnOk P w K mg base CX0 1 f fd ["self"] (spLen K C) := by
  refine F.ok scLen (fun vs H Q E h => ?_) (fun cdv A outer s H vs Q E hr h => ?_)
  · obtain ⟨a, t, lv, fin, ls, rfl, _⟩ := h
    rfl
  · obtain ⟨a, t, lv, fin, ls, rfl, h, hp, q⟩ := h
    exact ⟨_, pss_one (ps_ret (pe_callB call_len_seq (by rfl) ml PySem.boot_len (pa_cons (pe_fld (pv 0) rfl) pa_nil))), st_ret (len_t (v_la R (val_var rfl) h) hp) q⟩
theorem rt_callG {sp : Sp} {ta : TA} {D : Ends} {σ : L2.St} {H : Hp} {vs : List V} (h : VA ta σ H vs) (q : sp vs H D.rt E0) : tRet (tCallG sp ta) D σ H := h _ q
theorem ok_text {f : Addr} {fd : FuncData} (F : Fun K "text" "Round.text" sText f fd) (R : RCls K C) (T : Dr P w K mg base (spRoundText K) "round_text" ["levels", "lamps", "end"] 1) : FnOk P w K mg base CX0 2 f fd ["self"] (spText K C) := by
  refine F.ok scText (fun vs H Q E h => ?_) (fun cdv A outer s H vs Q E hr h => ?_)
  · obtain ⟨a, t, lv, fin, ls, rfl, _⟩ := h
    rfl
  · obtain ⟨a, t, lv, fin, ls, rfl, h, hp, hf, q⟩ := h
    refine ⟨_, pss_one (ps_ret (pe_dr T (Nat.le_refl _) hr rfl (pa_cons (pe_fld (pv 0) rfl) (pa_cons (pe_fld (pv 0) rfl) (pa_cons (pe_fld (pv 0) rfl) pa_nil))))), ?_⟩
    exact rt_callG (va_cons (v_lv R (val_var rfl) h) (va_cons (v_la R (val_var rfl) h) (va_cons (v_en R (val_var rfl) h) va_nil))) ⟨lv, fin, t, ls, rfl, hf, hp, q⟩
theorem ok_repr {f : Addr} {fd : FuncData} (F : Fun K "__repr__" "Round.__repr__" sRepr f fd) (R : RCls K C) (ml : mg "len" = none) : FnOk P w K mg base CX0 1 f fd ["self"] (spRepr K C) := by
  refine F.ok scRepr (fun vs H Q E h => ?_) (fun cdv A outer s H vs Q E hr h => ?_)
  · obtain ⟨a, t, lv, fin, ls, rfl, _⟩ := h
    rfl
  · obtain ⟨a, t, lv, fin, ls, rfl, h, hp, few, q⟩ := h
    have hn : ((ls.length : Int)).natAbs < 10 ^ 42 := by omega
    have e1 := nS_lenW hn
    have c0 : (Str.empty).length = 0 := rfl
    have c1 : ("Round of " : Str).length = 9 := rfl
    have c2 : (" lamps" : Str).length = 6 := rfl
    refine ⟨_, pss_one (ps_ret (pe_js (.cons pe_str (.cons (pe_fmt (pe_callB call_len_seq (by rfl) ml PySem.boot_len (pa_cons (pe_fld (pv 0) rfl) pa_nil))) (.cons pe_str .nil))))), ?_⟩
    refine js_c (by simp only [len_app]; exact le_lineW (by omega)) (js_i (len_t (v_la R (val_var rfl) h) hp) hn (by simp only [len_app]; exact le_lineW (by omega)) (js_c (by simp only [len_app]; exact le_lineW (by omega)) ?_))
    show Q (.str _) H
    rw [empty_app]
    exact q
/-- a property of rounds -/
structure PrR (P : Program) (w : World) (K : PySem.W.Frag) (mg : Str → Option Value) (base : Heap) (C : Addr) (x : Str) (sp : Sp) (k : Nat) : Prop where
  ex : ∃ (p g : Addr) (fd : FuncData), PropOf K C x p g ∧ FnOk P w K mg base CX0 k g fd ["self"] sp ∧ Binds K fd ["self"] []
theorem pe_prR {X : Cx} {k j : Nat} {x : Str} {sp : Sp} {e : Expr} {ta : TE} {pos : Pos} (Z : PrR X.prog X.w X.K X.mg X.base C x sp k) (R : RCls X.K C) (hk : k + 1 ≤ j) (hr : Room j X.A) (he : PE X e ta) (hab : attributeBase e x X.env (eval e X.env) = eval e X.env := by rfl) :
    PE X (.Attribute e x pos) (tProp C sp [] E0 ta) := by
  obtain ⟨p, g, fd, hp, F, b⟩ := Z.ex
  exact pe_prop he R.cl hp F (hr.mono hk) b .nil pass0 hab
theorem ok_str {f : Addr} {fd : FuncData} (F : Fun K "__str__" "Round.__str__" sStr f fd) (R : RCls K C) (T : PrR P w K mg base C "text" (spText K C) 2) (ms : mg "str" = none) : FnOk P w K mg base CX0 4 f fd ["self"] (spText K C) := by
  refine F.ok scStr (fun vs H Q E h => ?_) (fun cdv A outer s H vs Q E hr h => ?_)
  · obtain ⟨a, t, lv, fin, ls, rfl, _⟩ := h
    rfl
  · obtain ⟨a, t, lv, fin, ls, rfl, h, hp, hf, q⟩ := h
    refine ⟨_, pss_one (ps_ret (pe_callTy SkE.call_str_str (by rfl) ms (by decide +kernel) (pa_cons (pe_prR T R (Nat.le_refl _) hr (pv 0)) pa_nil))), ?_⟩
    have h' := h
    obtain ⟨dx, ha⟩ := h
    exact ⟨_, rfl, a, dx, _, rfl, ha, a, t, lv, fin, ls, rfl, h', hp, hf, fun H' s => ⟨_, rfl, q H' s⟩⟩
end
end Lamp
set_option Elab.async false
set_option linter.all false
set_option maxRecDepth 100000
set_option maxHeartbeats 1000000
namespace Lamp
open PySem PySem.Spec PyProof.Rows L2
open TL (tl tl_append ext_tl numL tl_ofString len_tl)
abbrev sSheet : Stmt := top 157
abbrev sOf : Stmt := top 158
theorem sheet_dark2 (lv fin : Int) : ("levels " : Str) ++ nS lv ++ (" end " : Str) ++ nS fin ++ (" " : Str) ++ ("dark" : Str) = sheetS lv [] fin := by
  refine ext_tl ?_
  rw [tl_sheet]
  simp only [tl_append, tl_levels, tl_end, tl_space, List.nil_append, List.append_assoc]
  rfl
theorem sheet_lamps2 (lv fin : Int) (l : Int × Int) (r : List (Int × Int)) : ("levels " : Str) ++ nS lv ++ (" end " : Str) ++ nS fin ++ (" " : Str) ++ (("lamps " : Str) ++ Txt.join (" " : Str) ((l :: r).map lampS)) = sheetS lv (l :: r) fin := by
  refine ext_tl ?_
  rw [tl_sheet]
  simp only [tl_append, tl_levels, tl_end, tl_lamps, tl_space, List.nil_append, List.append_assoc, TL.join_eq, TL.tl_join]
  rfl
def rAddS : R2 := fun x y H Q => ∃ i j, x = .str i ∧ y = .str j ∧ i.length + j.length ≤ sizeLine ∧ Q (.str (i ++ j)) H
theorem op_addS {X : Cx} : OpR X (binaryOp .Add) rAddS := op_add_str
theorem v_cat {ta tb : TE} {σ : L2.St} {H : Hp} {x y : Str} (h1 : Val ta σ H (.str x)) (h2 : Val tb σ H (.str y)) (hl : x.length + y.length ≤ sizeLine) : Val (tOp rAddS ta tb) σ H (.str (x ++ y)) := val_op h1 h2 fun Q q => ⟨x, y, rfl, rfl, hl, q⟩
theorem v_str {ta : TE} {σ : L2.St} {H : Hp} {i : Int} (h : Val ta σ H (.int i)) (hi : i.natAbs < 10 ^ 42) : Val (tCB (fun xs H Q => ∃ i, xs = [.int i] ∧ i.natAbs.log2 < 1920 ∧ Q (.str (toString i)) H) (tCons ta tNil)) σ H (.str (nS i)) := fun Q q => h _ ⟨i, rfl, fits_log hi, q⟩
theorem Parts.Ok.fit {r : Parts} (h : r.Ok) : Fit r.lv r.ls r.fin := by
  have hb : (7 : Int) ≤ big := by decide
  have hn : -big ≤ 1 := by decide
  refine ⟨fits (by rcases h.lv with e | e | e | e <;> omega) (by rcases h.lv with e | e | e | e <;> omega), fits h.lo h.hi, Nat.le_trans h.pic.few (by decide), fun q hq => ⟨fits (h.pic.pl q hq).1 (h.pic.pl q hq).2, ?_⟩⟩
  have z := h.pic.lv q hq
  exact fits (by omega) (by rcases h.lv with e | e | e | e <;> omega)
def spSheet (K : PySem.W.Frag) : Sp := fun vs H Q _ => ∃ (l t : Addr) (lv fin : Int) (ls : List (Int × Int)), vs = [.ref l] ∧ H l = some (.lst [.int lv, .ref t, .int fin]) ∧ PicAt K H t ls ∧ Fit lv ls fin ∧ ∀ H', Same H H' → Q (.str (sheetS lv ls fin)) H'
section
variable {P : Program} {w : World} {K : PySem.W.Frag} {mg : Str → Option Value} {base : Heap} {C : Addr}
theorem scSheet : FnScope ["_law_parts", "_law_p", "_law_lamps_here", "_law_last", "_law_tail", "_law_at", "_law_level"] ["_law_parts"] (defScope sSheet) := ⟨rfl, rfl, rfl, by decide +kernel, rfl, by decide +kernel, by decide +kernel⟩
theorem ok_sheet {f : Addr} {fd : FuncData} (F : Fun K "_law_sheet" "_law_sheet" sSheet f fd) (ms : mg "str" = none) : FnOk P w K mg base CX0 1 f fd ["_law_parts"] (spSheet K) := by
  refine F.ok scSheet (fun vs H Q E h => ?_) (fun cdv A outer s H vs Q E hr h => ?_)
  · obtain ⟨l, t, lv, fin, ls, rfl, _⟩ := h
    rfl
  · obtain ⟨l, t, lv, fin, ls, rfl, hl, hp, hf, q⟩ := h
    have hu := hr.units
    have few : ls.length ≤ 128 := hf.few
    replace hl : H l = some (.lst [.int lv, .ref t, .int fin]) := hl
    replace q : ∀ H', Same H H' → Q (.str (sheetS lv ls fin)) H' := q
    obtain ⟨as, ht, hlen, hat⟩ := pair_get hp
    have e1 := nS_lenW hf.lv
    have e2 := nS_lenW hf.fin
    have c1 : ("levels " : Str).length = 7 := rfl
    have c2 : (" end " : Str).length = 5 := rfl
    have c3 : ("dark" : Str).length = 4 := rfl
    have c4 : ("lamps " : Str).length = 6 := rfl
    have c5 : (":" : Str).length = 1 := rfl
    have c6 : (" " : Str).length = 1 := rfl
    refine ⟨_, pss_cons (ps_asg (pv 0) (pg_unl rfl (pgs_cons (pg_name (i := 1) scSheet.nd rfl (.inl rfl)) (pgs_cons (pg_name (i := 2) scSheet.nd rfl (.inl rfl)) (pgs_cons (pg_name (i := 3) scSheet.nd rfl (.inl rfl)) pgs_nil)))))
      (pss_cons (ps_set (i := 4) scSheet.nd rfl (.inl rfl) pe_str)
      (pss_cons (ps_if (pt_cmpR (op_neD hu) (pv 2) (pe_tup pa_nil) (nomark _))
        (pss_one (ps_set (i := 4) scSheet.nd rfl (.inl rfl) (pe_op op_addS pe_str (pe_join pe_str (pe_lc (own := [("_law_at", 5), ("_law_level", 6)]) (g := gTup K 2 (gCons (gName 5) (gCons (gName 6) gNil))) (tt := tYes) rfl scSheet.nd (pi_tup (pv 2))
          (blkOk_by (own := [("_law_at", 5), ("_law_level", 6)]) (N := ["_law_parts", "_law_p", "_law_lamps_here", "_law_last", "_law_tail", "_law_at", "_law_level"]) (sc := defScope sSheet) (by decide +kernel))
          (fun _ _ _ _ _ => pg_tup rfl (pgs_cons (pg_name (i := 5) scSheet.nd rfl (Or.inl rfl)) (pgs_cons (pg_name (i := 6) scSheet.nd rfl (Or.inl rfl)) pgs_nil))) (fun _ _ _ _ _ => pts_nil)
          (fun _ _ _ _ _ => pe_op op_addS (pe_op op_addS (pe_callTy call_str_int (by rfl) ms (by decide +kernel) (pa_cons (pv 5) pa_nil)) pe_str) (pe_callTy call_str_int (by rfl) ms (by decide +kernel) (pa_cons (pv 6) pa_nil)))))))) pss_nil)
      (pss_one (ps_ret (pe_op op_addS (pe_op op_addS (pe_op op_addS (pe_op op_addS (pe_op op_addS pe_str (pe_callTy call_str_int (by rfl) ms (by decide +kernel) (pa_cons (pv 1) pa_nil))) pe_str) (pe_callTy call_str_int (by rfl) ms (by decide +kernel) (pa_cons (pv 3) pa_nil))) pe_str) (pv 4)))))), ?_⟩
    refine ⟨_, rfl, l, _, rfl, SqL.of hl, rfl, _, _, rfl, _, _, rfl, _, _, rfl, rfl, ?_⟩
    refine sq_set (v := .str ("dark" : Str)) val_c ?_
    cases ls with
    | nil =>
      have ea : as = [] := List.length_eq_zero_iff.mp hlen
      subst ea
      refine ⟨_, rfl, le_lineW (Nat.zero_le _), fun p np => ?_⟩
      have s1 := same_of (o := .tup []) np
      refine ⟨.tuple [], .tuple [], .tup (.inl (rd_same ht s1)) .nil, .tup (SqT.of upd_same) .nil, by decide +kernel, by decide +kernel, false, rfl, ?_⟩
      refine iteF ?_
      dsimp only [tNext]
      refine st_ret (v := .str (sheetS lv [] fin)) ?hv ?hq
      case hq => exact q _ s1
      rw [← sheet_dark2]
      refine v_cat (v_cat (v_cat (v_cat (v_cat val_c (v_str (val_var rfl) hf.lv) ?_) val_c ?_) (v_str (val_var rfl) hf.fin) ?_) val_c ?_) (val_var rfl) ?_
      all_goals
        first | exact le_lineW (by omega) | (simp only [len_app]; exact le_lineW (by omega))
    | cons q0 r0 =>
      refine ⟨_, rfl, le_lineW (Nat.zero_le _), fun p np => ?_⟩
      have s1 := same_of (o := .tup []) np
      refine ⟨.tuple ((q0 :: r0).map pairD), .tuple [], dp_pic (PicAt.same (H := H) hp s1), .tup (SqT.of upd_same) .nil, (shaped_pairs (q0 :: r0)).2, by decide +kernel, true, rfl, ?_⟩
      refine iteT ?_
      have ht1 := rd_same ht s1
      have hat1 : ∀ (i : Nat) (a : Addr) (q : Int × Int), as[i]? = some a → (q0 :: r0)[i]? = some q → (upd H p (.tup [])) a = some (.tup [.int q.1, .int q.2]) := fun i a q h1 h2 => s1 _ _ (hat i a q h1 h2)
      revert s1 ht1 hat1
      generalize (upd H p (.tup [])) = H1
      intro s1 ht1 hat1
      refine ⟨⟨_, rfl⟩, _, rfl, t, rfl, ⟨_, .inl ht1⟩, fun D hD => ?_⟩
      refine lc_tup (K := K) (a := t) (xs := as.map V.ref) (fun i H' => Same H1 H' ∧ H' D = some (.lst ((((q0 :: r0).take i).map lampS).map V.str))) ⟨same_of hD, upd_same⟩ (fun i H' _ z => .inl (rd_same ht1 z.1)) (fun i x H' hi z => ?_) (fun H' z => ?_)
      · obtain ⟨sb, hl'⟩ := z
        rw [List.getElem?_map] at hi
        cases ea : as[i]? with
        | none => rw [ea] at hi; cases hi
        | some a =>
          rw [ea] at hi
          have ex : x = V.ref a := (Option.some.inj hi).symm
          subst ex
          have li : i < (q0 :: r0).length := by
            rw [← hlen]
            exact (List.getElem?_eq_some_iff.mp ea).1
          have eq := List.getElem?_eq_getElem li
          have ha := sb _ _ (hat1 i a _ ea eq)
          have fq := hf.all _ (List.getElem_mem li)
          have f1 := nS_lenW fq.1
          have f2 := nS_lenW fq.2
          refine ⟨a, _, rfl, SqT.of ha, rfl, _, _, rfl, _, _, rfl, rfl, rfl, ?_⟩
          refine v_cat (v_cat (v_str (val_var rfl) fq.1) val_c (le_lineW (by omega))) (v_str (val_var rfl) fq.2) (by simp only [len_app]; exact le_lineW (by omega)) _ ?_
          refine ⟨_, hl', ?_, fun b o e => ?_, ?_⟩
          · rw [List.length_map, List.length_map, List.length_take]
            exact small1000 (by omega)
          · have nb : b ≠ D := fun z => by rw [z, hD] at e; cases e
            rw [upd_ne nb]
            exact sb _ _ e
          · rw [upd_same, List.take_add_one, eq, List.map_append, List.map_append]
            rfl
      · obtain ⟨sb, hl'⟩ := z
        rw [List.length_map, hlen, List.take_length] at hl'
        have jl := joined_len hf.all
        have fl : (q0 :: r0).length ≤ 128 := few
        refine ⟨_, D, (q0 :: r0).map lampS, rfl, rfl, .inl (SqL.of hl'), ?_, ?_⟩
        · have h1 := lampsum hf.all
          have h2 : (" " : Str).length = 1 := rfl
          rw [h2]
          simp only [List.length_map]
          omega
        · refine ⟨_, _, rfl, rfl, le_lineW (by omega), ?_⟩
          dsimp only [gName]
          refine st_ret (v := .str (sheetS lv (q0 :: r0) fin)) ?hv2 ?hq2
          case hq2 => exact q _ (s1.trans sb)
          rw [← sheet_lamps2]
          refine v_cat (v_cat (v_cat (v_cat (v_cat val_c (v_str (val_var rfl) hf.lv) ?_) val_c ?_) (v_str (val_var rfl) hf.fin) ?_) val_c ?_) (val_var rfl) ?_
          all_goals
            first | exact le_lineW (by omega) | (simp only [len_app]; exact le_lineW (by omega))
end
end Lamp
set_option Elab.async false
set_option linter.all false
set_option maxRecDepth 100000
set_option maxHeartbeats 1000000
namespace Lamp
open PySem PySem.Spec PyProof.Rows L2 ClX
def spOf (K : PySem.W.Frag) (C : Addr) : Sp := fun vs H Q _ => ∃ (l t : Addr) (r : Parts), vs = [.ref l] ∧ PartsAt K H l t r ∧ r.Ok ∧ ∀ a H', Same H H' → H a = none → RoundAt C H' a r.lv t r.fin → Q (.ref a) H'
section
variable {P : Program} {w : World} {K : PySem.W.Frag} {mg : Str → Option Value} {base : Heap} {C : Addr}
theorem scOf : FnScope ["_law_parts"] ["_law_parts"] (defScope sOf) := ⟨rfl, rfl, rfl, by decide +kernel, rfl, by decide +kernel, by decide +kernel⟩
theorem ok_of {f : Addr} {fd : FuncData} (F : Fun K "_law_of" "_law_of" sOf f fd) (M : MkR P w K mg base C) (mR : mg "Round" = some (.ref C)) : FnOk P w K mg base CX0 6 f fd ["_law_parts"] (spOf K C) := by
  refine F.ok scOf (fun vs H Q E h => ?_) (fun cdv A outer s H vs Q E hr h => ?_)
  · obtain ⟨l, t, r, rfl, _⟩ := h
    rfl
  · obtain ⟨l, t, r, rfl, ⟨hl, hp⟩, hok, q⟩ := h
    refine ⟨_, pss_one (ps_ret (pe_mkR M hr rfl mR (pa_cons (pe_ix ix_list (pv 0) pe_int (fun _ _ => rfl)) (pa_cons (pe_ix ix_list (pv 0) pe_int (fun _ _ => rfl)) (pa_cons (pe_ix ix_list (pv 0) pe_int (fun _ _ => rfl)) pa_nil))))), ?_⟩
    refine ⟨_, rfl, l, _, 0, _, rfl, rfl, SqL.of hl, rfl, ?_⟩
    refine ⟨_, rfl, l, _, 1, _, rfl, rfl, SqL.of hl, rfl, ?_⟩
    refine ⟨_, rfl, l, _, 2, _, rfl, rfl, SqL.of hl, rfl, ?_⟩
    exact ⟨r.lv, t, r.fin, rfl, r.ls, hok.lv, hp.at, hok.pic.w, q⟩
theorem round_del {C p : Addr} {H : Hp} {a t : Addr} {lv fin : Int} (h : RoundAt C H a lv t fin) (hp : Pail H p) : RoundAt C (delH H p) a lv t fin := by
  obtain ⟨dx, h⟩ := h
  have ne : a ≠ p := fun e => by
    obtain ⟨x, y, z, hz, _⟩ := hp
    rw [e, hz] at h
    cases h
  exact ⟨dx, by rw [delH_ne ne]; exact h⟩
theorem pic_del {p : Addr} {H : Hp} {t : Addr} {ls : List (Int × Int)} (h : PicAt K H t ls) (hp : Pail H p) : PicAt K (delH H p) t ls := by
  obtain ⟨as, h1, h2⟩ := h
  obtain ⟨x, y, z, hz, _⟩ := hp
  refine ⟨as, ?_, L2.Paired.mapP h2 fun a q ha => ?_⟩
  · rcases h1 with h1 | ⟨o, h1⟩
    · exact .inl (by rw [delH_ne (fun e => by rw [e, hz] at h1; cases h1)]; exact h1)
    · exact .inr ⟨o, by rw [delH_ne (fun e => by rw [e, hz] at h1; cases h1)]; exact h1⟩
  · rw [delH_ne (fun e => by rw [e, hz] at ha; cases ha)]
    exact ha
end
end Lamp
set_option Elab.async false
set_option linter.all false
set_option maxRecDepth 100000
set_option maxHeartbeats 1000000
namespace Lamp
open PySem PySem.Spec PyProof.Rows L2
/-! comprehensions whose list tells what `out` makes of each thing -/
def TupStay (H H' : Hp) : Prop := ∀ b xs, H b = some (.tup xs) → H' b = some (.tup xs)
theorem stay_same {H H' : Hp} (s : Same H H') : TupStay H H' := fun b xs h => s b _ h
theorem stay_lst {H : Hp} {D : Addr} {ys zs : List V} (h : H D = some (.lst ys)) : TupStay H (upd H D (.lst zs)) := fun b xs e => by
  rw [upd_ne (fun z => by rw [z, h] at e; cases e)]
  exact e
theorem few_line {n : Nat} (h : n < 10000) : n < sizeLine := Nat.lt_trans h (by decide)
section
variable {α β : Type} {K : PySem.W.Frag} {a : Addr} {us : List α} {enc : α → V} {g : TG} {tt : TT} {te : TE} {vs : List Nat} {σ : L2.St} {H1 : Hp} {D : Addr} {Qd : Hp → Prop}
/-- a turn of such a comprehension -/
def Turn (H1 : Hp) (out : α → Option β) (Rel : β → V → Hp → Prop) (enc : α → V) (us : List α) (g : TG) (tt : TT) (te : TE) (vs : List Nat) (σ : L2.St) : Prop :=
  ∀ (i : Nat) (u : α) (H : Hp), us[i]? = some u → Same H1 H → ∀ (R : VK) (Z : Hp → Prop), (∀ v H' b, out u = some b → Same H H' → Rel b v H' → R v H') → (∀ H', out u = none → Same H H' → Z H') →
    g (enc u) (wipe σ vs) H fun σ2 H2 => wipe σ2 vs = wipe σ vs ∧ tt σ2 H2 fun b H3 => if b = true then te σ2 H3 R else Z H3
def Inv9 (H1 : Hp) (D : Addr) (out : α → Option β) (Rel : β → V → Hp → Prop) (us : List α) (i : Nat) (H' : Hp) : Prop :=
  Same H1 H' ∧ ∃ ys, H' D = some (.lst ys) ∧ ys.length ≤ i ∧ Paired (fun v b => Rel b v H') ys ((us.take i).filterMap out)
theorem inv9_0 {out : α → Option β} {Rel : β → V → Hp → Prop} (hD : H1 D = none) : Inv9 H1 D out Rel us 0 (upd H1 D (.lst [])) := ⟨same_of hD, [], upd_same, Nat.le_refl _, by rw [List.take_zero]; exact .nil⟩
theorem inv9_turn {out : α → Option β} {Rel : β → V → Hp → Prop} (st : ∀ b v H H', TupStay H H' → Rel b v H → Rel b v H') (hD : H1 D = none) (hz : us.length ≤ 9000) (hs : Turn H1 out Rel enc us g tt te vs σ) {i : Nat} {u : α} {H' : Hp} (eu : us[i]? = some u) (z : Inv9 H1 D out Rel us i H') :
    g (enc u) (wipe σ vs) H' fun σ2 H2 => wipe σ2 vs = wipe σ vs ∧ tt σ2 H2 fun b H3 => if b = true then te σ2 H3 fun y H4 => ∃ acc, H4 D = some (.lst acc) ∧ acc.length < sizeLine ∧ Inv9 H1 D out Rel us (i + 1) (upd H4 D (.lst (acc ++ [y]))) else Inv9 H1 D out Rel us (i + 1) H3 := by
  obtain ⟨sb, ys, hD', hl, hp⟩ := z
  have li := (List.getElem?_eq_some_iff.mp eu).1
  refine hs i u H' eu sb _ _ (fun v H2 b eb s2 r => ⟨ys, s2 _ _ hD', few_line (by omega), fun b' o e => ?_, ys ++ [v], upd_same, by rw [List.length_append]; show ys.length + 1 ≤ i + 1; omega, ?_⟩) (fun H2 eb s2 => ⟨sb.trans s2, ys, s2 _ _ hD', by omega, ?_⟩)
  · have nb : b' ≠ D := fun z => by rw [z, hD] at e; cases e
    rw [upd_ne nb]
    exact s2 _ _ (sb _ _ e)
  · have t1 : TupStay H2 (upd H2 D (.lst (ys ++ [v]))) := stay_lst (s2 _ _ hD')
    rw [List.take_add_one, eu, List.filterMap_append]
    have e1 : ([u] : List α).filterMap out = [b] := by simp [eb]
    show Paired _ _ (_ ++ ([u] : List α).filterMap out)
    rw [e1]
    exact paired_app (L2.Paired.mapP hp fun v' b' hz => st _ _ _ _ t1 (st _ _ _ _ (stay_same s2) hz)) (.cons (st _ _ _ _ t1 r) .nil)
  · rw [List.take_add_one, eu, List.filterMap_append]
    have e1 : ([u] : List α).filterMap out = [] := by simp [eb]
    show Paired _ _ (_ ++ ([u] : List α).filterMap out)
    rw [e1, List.append_nil]
    exact L2.Paired.mapP hp fun v' b' hz => st _ _ _ _ (stay_same s2) hz
theorem lc_genT {out : α → Option β} {Rel : β → V → Hp → Prop} (st : ∀ b v H H', TupStay H H' → Rel b v H → Rel b v H') (hD : H1 D = none) (hsq : SqT K H1 a (us.map enc)) (hz : us.length ≤ 9000) (hs : Turn H1 out Rel enc us g tt te vs σ)
    (hd : ∀ H' ys, Same H1 H' → H' D = some (.lst ys) → Paired (fun v b => Rel b v H') ys (us.filterMap out) → Qd H') :
    ∃ W : Nat → Nat → Hp → Prop, (∃ m, W 0 m (upd H1 D (.lst []))) ∧ ∀ i m H, W i m H →
      ((Itt K a).stop i H ∧ Qd H) ∨ ((Itt K a).go i H ∧ ∃ Nx : Hp → Prop, (∀ H', Nx H' → ∃ m', m' < m ∧ W (i + 1) m' H') ∧ ∀ x H', (Itt K a).yld i H x H' → g x (wipe σ vs) H' fun σ2 H2 => wipe σ2 vs = wipe σ vs ∧ tt σ2 H2 fun b H3 =>
        if b = true then te σ2 H3 fun y H4 => ∃ acc, H4 D = some (.lst acc) ∧ acc.length < sizeLine ∧ Nx (upd H4 D (.lst (acc ++ [y]))) else Nx H3) := by
  refine lc_tup (K := K) (a := a) (xs := us.map enc) (Inv9 H1 D out Rel us) (inv9_0 hD) (fun i H' _ z => same_seqT z.1 hsq) (fun i x H' hi z => ?_) (fun H' z => ?_)
  · rw [List.getElem?_map] at hi
    cases eu : us[i]? with
    | none => rw [eu] at hi; cases hi
    | some u =>
      rw [eu] at hi
      have ex : enc u = x := Option.some.inj hi
      rw [← ex]
      exact inv9_turn st hD hz hs eu z
  · obtain ⟨sb, ys, hD', _, hp⟩ := z
    rw [List.length_map, List.take_length] at hp
    exact hd H' ys sb hD' hp
theorem lc_genL {out : α → Option β} {Rel : β → V → Hp → Prop} (st : ∀ b v H H', TupStay H H' → Rel b v H → Rel b v H') (hD : H1 D = none) (hsq : SqL K H1 a (us.map enc)) (hz : us.length ≤ 9000) (hs : Turn H1 out Rel enc us g tt te vs σ)
    (hd : ∀ H' ys, Same H1 H' → H' D = some (.lst ys) → Paired (fun v b => Rel b v H') ys (us.filterMap out) → Qd H') :
    ∃ W : Nat → Nat → Hp → Prop, (∃ m, W 0 m (upd H1 D (.lst []))) ∧ ∀ i m H, W i m H →
      ((Itl K a).stop i H ∧ Qd H) ∨ ((Itl K a).go i H ∧ ∃ Nx : Hp → Prop, (∀ H', Nx H' → ∃ m', m' < m ∧ W (i + 1) m' H') ∧ ∀ x H', (Itl K a).yld i H x H' → g x (wipe σ vs) H' fun σ2 H2 => wipe σ2 vs = wipe σ vs ∧ tt σ2 H2 fun b H3 =>
        if b = true then te σ2 H3 fun y H4 => ∃ acc, H4 D = some (.lst acc) ∧ acc.length < sizeLine ∧ Nx (upd H4 D (.lst (acc ++ [y]))) else Nx H3) := by
  refine lc_list (K := K) (a := a) (xs := us.map enc) (Inv9 H1 D out Rel us) (inv9_0 hD) (fun i H' _ z => z.1.seq hsq) (fun i x H' hi z => ?_) (fun H' z => ?_)
  · rw [List.getElem?_map] at hi
    cases eu : us[i]? with
    | none => rw [eu] at hi; cases hi
    | some u =>
      rw [eu] at hi
      have ex : enc u = x := Option.some.inj hi
      rw [← ex]
      exact inv9_turn st hD hz hs eu z
  · obtain ⟨sb, ys, hD', _, hp⟩ := z
    rw [List.length_map, List.take_length] at hp
    exact hd H' ys sb hD' hp
end
/-- what is made is a value -/
def IsV (b v : V) (_ : Hp) : Prop := v = b
theorem isv_st : ∀ (b v : V) (H H' : Hp), TupStay H H' → IsV b v H → IsV b v H' := fun _ _ _ _ _ h => h
theorem isv_all : ∀ {ys zs : List V} {H : Hp}, Paired (fun v b => IsV b v H) ys zs → ys = zs
  | _, _, _, .nil => rfl
  | _, _, _, .cons (h : _ = _) t => by rw [h, isv_all t]
/-- what is made is a pair of ints -/
def IsP (b : Int × Int) (v : V) (H : Hp) : Prop := ∃ a, v = .ref a ∧ H a = some (.tup [.int b.1, .int b.2])
theorem isp_st : ∀ (b : Int × Int) (v : V) (H H' : Hp), TupStay H H' → IsP b v H → IsP b v H' := fun _ _ _ _ s ⟨a, e, h⟩ => ⟨a, e, s _ _ h⟩
theorem isp_all : ∀ {ys : List V} {qs : List (Int × Int)} {H : Hp}, Paired (fun v b => IsP b v H) ys qs → ∃ as : List Addr, ys = as.map V.ref ∧ Paired (fun a (q : Int × Int) => H a = some (.tup [.int q.1, .int q.2])) as qs
  | _, _, _, .nil => ⟨[], rfl, .nil⟩
  | _, _, _, .cons h t => by
    obtain ⟨as, e, p⟩ := isp_all t
    obtain ⟨a, ea, ha⟩ := h
    exact ⟨a :: as, by rw [List.map_cons, ea, e], .cons ha p⟩
/-- the places of a picture's pairs beside the pairs -/
theorem zip_fst : ∀ {as : List Addr} {ls : List (Int × Int)}, as.length = ls.length → (as.zip ls).map (fun p => V.ref p.1) = as.map V.ref
  | [], [], _ => rfl
  | [], _ :: _, h => by cases h
  | _ :: _, [], h => by cases h
  | a :: as, q :: ls, h => by
    rw [List.zip_cons_cons, List.map_cons, List.map_cons, zip_fst (Nat.succ.inj h)]
theorem zip_out {β : Type} (out : Int × Int → Option β) : ∀ {as : List Addr} {ls : List (Int × Int)}, as.length = ls.length → (as.zip ls).filterMap (fun p => out p.2) = ls.filterMap out
  | [], [], _ => rfl
  | [], _ :: _, h => by cases h
  | _ :: _, [], h => by cases h
  | a :: as, q :: ls, h => by
    rw [List.zip_cons_cons]
    simp only [List.filterMap_cons]
    rw [zip_out out (Nat.succ.inj h)]
theorem zip_at {as : List Addr} {ls : List (Int × Int)} {i : Nat} {p : Addr × (Int × Int)} (h : (as.zip ls)[i]? = some p) : as[i]? = some p.1 ∧ ls[i]? = some p.2 := by
  rw [List.getElem?_zip_eq_some] at h
  exact h
end Lamp
set_option Elab.async false
set_option linter.all false
set_option maxRecDepth 100000
set_option maxHeartbeats 1000000
namespace Lamp
/-! how often a lamp counts at a distance; sums of levels there -/
def doings (e n d : Int) : Int := if e = 0 then (if d = 0 then n else 0) else if d.fmod e = 0 then (if 0 ≤ d.fdiv e ∧ d.fdiv e < n then 1 else if n ≤ d.fdiv e ∧ d.fdiv e < 0 then -1 else 0) else 0
def after (lv : Int) (ls : List (Int × Int)) (e n p : Int) : Int := (ls.map fun q => q.2 * doings e n (p - q.1)).sum % lv
/-- a lamp's part as the law counts it, for no number below 0 -/
def counts (e n p : Int) (q : Int × Int) : Int := if e = 0 then n * q.2 * (if q.1 = p then 1 else 0) else if (p - q.1) % (if e < 0 then -e else e) = 0 ∧ 0 ≤ (p - q.1).fdiv e ∧ (p - q.1).fdiv e < n then q.2 else 0
def undo (lv e : Int) (ls : List (Int × Int)) : List (Int × Int) := ls.map fun q => (q.1 - e, lv - q.2)
theorem fmod_abs {d e : Int} (h : e ≠ 0) : d.fmod e = 0 ↔ d % (if e < 0 then -e else e) = 0 := by
  rw [← Int.dvd_iff_fmod_eq_zero, ← Int.dvd_iff_emod_eq_zero]
  split
  · rw [Int.neg_dvd]
  · exact Iff.rfl
theorem counts_eq {e n p : Int} (hn : 0 ≤ n) (q : Int × Int) : counts e n p q = q.2 * doings e n (p - q.1) := by
  unfold counts doings
  by_cases he : e = 0
  · rw [if_pos he, if_pos he]
    by_cases hp : q.1 = p
    · rw [if_pos hp, if_pos (by omega), Int.mul_one, Int.mul_comm]
    · rw [if_neg hp, if_neg (by omega), Int.mul_zero, Int.mul_zero]
  · rw [if_neg he, if_neg he]
    by_cases hm : (p - q.1).fmod e = 0
    · have hm' := (fmod_abs he).mp hm
      rw [if_pos hm]
      by_cases h1 : 0 ≤ (p - q.1).fdiv e ∧ (p - q.1).fdiv e < n
      · rw [if_pos ⟨hm', h1⟩, if_pos h1, Int.mul_one]
      · rw [if_neg (fun z => h1 z.2), if_neg h1, if_neg (fun z => by omega), Int.mul_zero]
    · rw [if_neg hm, if_neg (fun z => hm ((fmod_abs he).mpr z.1)), Int.mul_zero]
theorem undo_doings {e n d : Int} : doings (-e) (-n) (d + e) = - doings e n d := by
  unfold doings
  by_cases he : e = 0
  · subst he
    rw [if_pos (by decide), if_pos rfl]
    by_cases hd : d = 0
    · rw [if_pos (by omega), if_pos hd]
    · rw [if_neg (by omega), if_neg hd]
      rfl
  · rw [if_neg (by omega), if_neg he]
    by_cases hm : d.fmod e = 0
    · obtain ⟨k, hk⟩ := Int.dvd_of_fmod_eq_zero hm
      subst hk
      have e1 : e * k + e = (-e) * (-(k + 1)) := by rw [Int.neg_mul_neg, Int.mul_add, Int.mul_one]
      have q1 : (e * k).fdiv e = k := Int.mul_fdiv_cancel_left _ he
      have q2 : (e * k + e).fdiv (-e) = -(k + 1) := by rw [e1]; exact Int.mul_fdiv_cancel_left _ (by omega)
      have m2 : (e * k + e).fmod (-e) = 0 := by rw [e1]; exact Int.mul_fmod_right _ _
      rw [if_pos hm, if_pos m2, q1, q2]
      by_cases h1 : 0 ≤ k ∧ k < n
      · rw [if_pos h1, if_neg (by omega), if_pos (by omega)]
      · rw [if_neg h1]
        by_cases h2 : n ≤ k ∧ k < 0
        · rw [if_pos h2, if_pos (by omega)]
          rfl
        · rw [if_neg h2, if_neg (by omega), if_neg (by omega)]
          rfl
    · rw [if_neg hm, if_neg ?_]
      · rfl
      · intro z
        apply hm
        have h1 : -e ∣ d + e := Int.dvd_of_fmod_eq_zero z
        rw [Int.neg_dvd] at h1
        have h2 : e ∣ d := (Int.dvd_add_left (Int.dvd_refl e)).mp h1
        exact Int.fmod_eq_zero_of_dvd h2
theorem sum_mod {lv : Int} : ∀ {ls : List (Int × Int)} {f g : Int × Int → Int}, (∀ q ∈ ls, f q % lv = g q % lv) → (ls.map f).sum % lv = (ls.map g).sum % lv
  | [], _, _, _ => rfl
  | q :: ls, f, g, h => by
    rw [List.map_cons, List.map_cons, List.sum_cons, List.sum_cons, Int.add_emod, h q (List.mem_cons_self ..), sum_mod (ls := ls) (fun r hr => h r (List.mem_cons_of_mem _ hr)), ← Int.add_emod]
theorem after_counts {lv : Int} {ls : List (Int × Int)} {e n p : Int} (hn : 0 ≤ n) : (ls.map (counts e n p)).sum % lv = after lv ls e n p := sum_mod fun q _ => by rw [counts_eq hn]
theorem after_undo {lv : Int} {ls : List (Int × Int)} {e n p : Int} (hn : n < 0) : ((undo lv e ls).map (counts (0 - e) (0 - n) p)).sum % lv = after lv ls e n p := by
  rw [after_counts (by omega)]
  unfold after undo
  rw [List.map_map]
  refine sum_mod fun q _ => ?_
  show ((lv - q.2) * doings (0 - e) (0 - n) (p - (q.1 - e))) % lv = _
  rw [show (0 : Int) - e = -e by omega, show (0 : Int) - n = -n by omega, show p - (q.1 - e) = (p - q.1) + e by omega, undo_doings, Int.sub_mul, Int.mul_neg q.2, Int.sub_neg, Int.add_emod, Int.mul_emod_right, Int.zero_add, Int.emod_emod_of_dvd _ (Int.dvd_refl _)]
theorem doings_0 (e d : Int) : doings e 0 d = 0 := by
  unfold doings
  split
  · split <;> rfl
  · split
    · rw [if_neg (by omega), if_neg (by omega)]
    · rfl
theorem doings_1 (e d : Int) : doings e 1 d = if d = 0 then 1 else 0 := by
  unfold doings
  by_cases he : e = 0
  · rw [if_pos he]
  · rw [if_neg he]
    by_cases hd : d = 0
    · subst hd
      rw [if_pos rfl, if_pos (Int.zero_fmod e), Int.zero_fdiv, if_pos (by omega)]
    · rw [if_neg hd]
      by_cases hm : d.fmod e = 0
      · obtain ⟨k, rfl⟩ := Int.dvd_of_fmod_eq_zero hm
        rw [if_pos hm, Int.mul_fdiv_cancel_left _ he]
        have : k ≠ 0 := fun z => hd (by rw [z, Int.mul_zero])
        rw [if_neg (by omega), if_neg (by omega)]
      · rw [if_neg hm]
theorem after_0 {lv : Int} {ls : List (Int × Int)} {e p : Int} : after lv ls e 0 p = 0 := by
  unfold after
  rw [show (ls.map fun q => q.2 * doings e 0 (p - q.1)) = ls.map fun _ => (0 : Int) from List.map_congr_left fun q _ => by rw [doings_0, Int.mul_zero]]
  have : ∀ ls : List (Int × Int), (ls.map fun _ => (0 : Int)).sum = 0 := fun ls => by
    induction ls with
    | nil => rfl
    | cons q ls ih => rw [List.map_cons, List.sum_cons, ih]; rfl
  rw [this]
  exact Int.zero_emod lv
/-- the level that a picture tells of a place -/
def levelAt : List (Int × Int) → Int → Int
  | [], _ => 0
  | q :: ls, p => if q.1 = p then q.2 else levelAt ls p
theorem levelAt_cons (q : Int × Int) (ls : List (Int × Int)) (p : Int) : levelAt (q :: ls) p = if q.1 = p then q.2 else levelAt ls p := rfl
theorem level_out {p : Int} : ∀ {ls : List (Int × Int)}, p ∉ ls.map (·.1) → levelAt ls p = 0
  | [], _ => rfl
  | q :: ls, h => by
    rw [levelAt_cons, if_neg (fun z => h (by rw [List.map_cons, z]; exact List.mem_cons_self ..)), level_out fun z => h (by rw [List.map_cons]; exact List.mem_cons_of_mem _ z)]
theorem sum_level {e p : Int} : ∀ {ls : List (Int × Int)}, (ls.map (·.1)).Nodup → (ls.map fun q => q.2 * doings e 1 (p - q.1)).sum = levelAt ls p
  | [], _ => rfl
  | q :: ls, h => by
    rw [List.map_cons] at h
    cases h with
    | cons h1 h2 =>
      rw [List.map_cons, List.sum_cons, sum_level h2, doings_1]
      rw [levelAt_cons]
      by_cases hq : q.1 = p
      · rw [if_pos hq, if_pos (by omega), Int.mul_one]
        have : levelAt ls p = 0 := level_out fun z => h1 p z hq
        rw [this, Int.add_zero]
      · rw [if_neg hq, if_neg (by omega), Int.mul_zero, Int.zero_add]
theorem level_in {p : Int} : ∀ {ls : List (Int × Int)}, levelAt ls p = 0 ∨ (p, levelAt ls p) ∈ ls
  | [] => .inl rfl
  | q :: ls => by
    rw [levelAt_cons]
    by_cases hq : q.1 = p
    · rw [if_pos hq, ← hq]
      exact .inr (List.mem_cons_self ..)
    · rw [if_neg hq]
      rcases level_in (p := p) (ls := ls) with z | z
      · exact .inl z
      · exact .inr (List.mem_cons_of_mem _ z)
theorem after_1 {lv : Int} {ls : List (Int × Int)} {e p : Int} (nd : (ls.map (·.1)).Nodup) (h : ∀ q ∈ ls, 1 ≤ q.2 ∧ q.2 < lv) (h0 : 0 < lv) : after lv ls e 1 p = levelAt ls p := by
  unfold after
  rw [sum_level nd]
  rcases level_in (p := p) (ls := ls) with z | z
  · rw [z]; exact Int.zero_emod lv
  · have := h _ z
    exact Int.emod_eq_of_lt (by omega) this.2
theorem after_range {lv : Int} {ls : List (Int × Int)} {e n p : Int} (h0 : 0 < lv) : 0 ≤ after lv ls e n p ∧ after lv ls e n p < lv := ⟨Int.emod_nonneg _ (by omega), Int.emod_lt_of_pos _ h0⟩
end Lamp
set_option Elab.async false
set_option linter.all false
set_option maxRecDepth 100000
set_option maxHeartbeats 1000000
namespace Lamp
/-! pictures, told by the levels of all places -/
def sumAt (ls : List (Int × Int)) (p : Int) : Int := (ls.map fun q => if q.1 = p then q.2 else 0).sum
theorem sumAt_nil (p : Int) : sumAt [] p = 0 := rfl
theorem sumAt_cons (q : Int × Int) (ls : List (Int × Int)) (p : Int) : sumAt (q :: ls) p = (if q.1 = p then q.2 else 0) + sumAt ls p := by unfold sumAt; rw [List.map_cons, List.sum_cons]
theorem sumAt_app (ls ms : List (Int × Int)) (p : Int) : sumAt (ls ++ ms) p = sumAt ls p + sumAt ms p := by unfold sumAt; rw [List.map_append, List.sum_append]
theorem sum_out {p : Int} : ∀ {ls : List (Int × Int)}, p ∉ ls.map (·.1) → sumAt ls p = 0
  | [], _ => rfl
  | q :: ls, h => by
    rw [sumAt_cons, if_neg (fun z => h (by rw [List.map_cons, z]; exact List.mem_cons_self ..)), sum_out fun z => h (by rw [List.map_cons]; exact List.mem_cons_of_mem _ z)]
    rfl
theorem sum_levelAt {p : Int} : ∀ {ls : List (Int × Int)}, (ls.map (·.1)).Nodup → sumAt ls p = levelAt ls p
  | [], _ => rfl
  | q :: ls, h => by
    rw [List.map_cons] at h
    cases h with
    | cons h1 h2 =>
      rw [sumAt_cons, levelAt_cons]
      by_cases hq : q.1 = p
      · rw [if_pos hq, if_pos hq, sum_out fun z => h1 p z hq, Int.add_zero]
      · rw [if_neg hq, if_neg hq, Int.zero_add, sum_levelAt h2]
/-- a picture: places ascending, levels from 1 to lv - 1 -/
structure Rising (lv : Int) (ls : List (Int × Int)) : Prop where
  asc : (ls.map (·.1)).Pairwise (· < ·)
  lv : ∀ q ∈ ls, 1 ≤ q.2 ∧ q.2 < lv
theorem Rising.nd {lv : Int} {ls : List (Int × Int)} (h : Rising lv ls) : (ls.map (·.1)).Nodup := h.asc.imp fun z => Int.ne_of_lt z
theorem Rising.tail {lv : Int} {q : Int × Int} {ls : List (Int × Int)} (h : Rising lv (q :: ls)) : Rising lv ls := by
  have a := h.asc
  rw [List.map_cons] at a
  cases a with
  | cons _ a2 => exact ⟨a2, fun r hr => h.lv r (List.mem_cons_of_mem _ hr)⟩
theorem Rising.head {lv : Int} {q : Int × Int} {ls : List (Int × Int)} (h : Rising lv (q :: ls)) : ∀ r ∈ ls, q.1 < r.1 := by
  have a := h.asc
  rw [List.map_cons] at a
  cases a with
  | cons a1 _ => exact fun r hr => a1 _ (List.mem_map.mpr ⟨r, hr, rfl⟩)
theorem Rising.range {lv : Int} {ls : List (Int × Int)} (h : Rising lv ls) (h0 : 0 < lv) (p : Int) : 0 ≤ sumAt ls p ∧ sumAt ls p < lv := by
  rw [sum_levelAt h.nd]
  rcases level_in (p := p) (ls := ls) with z | z
  · rw [z]; omega
  · have := h.lv _ z
    exact ⟨by omega, this.2⟩
theorem Rising.before {lv : Int} {q : Int × Int} {ls : List (Int × Int)} (h : Rising lv (q :: ls)) {p : Int} (hp : p ≤ q.1) : sumAt ls p = 0 := sum_out fun z => by
  obtain ⟨r, hr, e⟩ := List.mem_map.mp z
  have := h.head r hr
  omega
theorem Rising.at0 {lv : Int} {q : Int × Int} {ls : List (Int × Int)} (h : Rising lv (q :: ls)) : sumAt (q :: ls) q.1 = q.2 := by
  rw [sumAt_cons, if_pos rfl, h.before (Int.le_refl _), Int.add_zero]
/-- the levels of all places tell the picture -/
theorem Rising.ext {lv : Int} : ∀ {ls ms : List (Int × Int)}, Rising lv ls → Rising lv ms → (∀ p, sumAt ls p = sumAt ms p) → ls = ms
  | [], [], _, _, _ => rfl
  | [], r :: ms, _, h2, e => by
    have z := e r.1
    rw [h2.at0, sumAt_nil] at z
    have := h2.lv r (List.mem_cons_self ..)
    omega
  | q :: ls, [], h1, _, e => by
    have z := e q.1
    rw [h1.at0, sumAt_nil] at z
    have := h1.lv q (List.mem_cons_self ..)
    omega
  | q :: ls, r :: ms, h1, h2, e => by
    have a1 := h1.lv q (List.mem_cons_self ..)
    have a2 := h2.lv r (List.mem_cons_self ..)
    have hpl : q.1 = r.1 := by
      by_cases lt : q.1 < r.1
      · have z := e q.1
        rw [h1.at0, sumAt_cons, if_neg (by omega), h2.before (by omega)] at z
        omega
      · by_cases gt : r.1 < q.1
        · have z := e r.1
          rw [h2.at0, sumAt_cons, if_neg (by omega), h1.before (by omega)] at z
          omega
        · omega
    have hlv : q.2 = r.2 := by
      have z := e q.1
      rw [h1.at0, hpl, h2.at0] at z
      exact z
    have hq : q = r := Prod.ext hpl hlv
    subst hq
    rw [Rising.ext h1.tail h2.tail fun p => by
      have z := e p
      rw [sumAt_cons, sumAt_cons] at z
      omega]
theorem Rising.mem {lv : Int} {ls : List (Int × Int)} (h : Rising lv ls) {q : Int × Int} (hq : q ∈ ls) : sumAt ls q.1 = q.2 := by
  rw [sum_levelAt h.nd]
  have nd := h.nd
  clear h
  induction ls with
  | nil => cases hq
  | cons r ls ih =>
    rw [List.map_cons] at nd
    cases nd with
    | cons n1 n2 =>
      rw [levelAt_cons]
      rcases List.mem_cons.mp hq with e | e
      · rw [e, if_pos rfl]
      · rw [if_neg (fun z => n1 _ (List.mem_map.mpr ⟨q, e, rfl⟩) z)]
        exact ih e n2
theorem sum_mem {ls : List (Int × Int)} {p : Int} (h : sumAt ls p ≠ 0) : ∃ q ∈ ls, q.1 = p := by
  by_cases z : p ∈ ls.map (·.1)
  · obtain ⟨q, hq, e⟩ := List.mem_map.mp z
    exact ⟨q, hq, e⟩
  · exact absurd (sum_out z) h
/-! a part of a sum: a picture, moved and multiplied -/
structure Part where
  ls : List (Int × Int)
  mv : Int
  tm : Int
def partAt (x : Part) (p : Int) : Int := x.tm * sumAt x.ls (p - x.mv)
def partsAt (xs : List Part) (p : Int) : Int := (xs.map fun x => partAt x p).sum
def partsLen (xs : List Part) : Nat := (xs.map fun x => x.ls.length).sum
theorem partsAt_app (xs ys : List Part) (p : Int) : partsAt (xs ++ ys) p = partsAt xs p + partsAt ys p := by unfold partsAt; rw [List.map_append, List.sum_append]
theorem partsAt_one (x : Part) (p : Int) : partsAt [x] p = partAt x p := by unfold partsAt; rw [List.map_cons, List.map_nil, List.sum_cons, List.sum_nil, Int.add_zero]
theorem partsLen_take {xs : List Part} {i : Nat} {x : Part} (h : xs[i]? = some x) : partsLen (xs.take i) + x.ls.length ≤ partsLen xs := by
  obtain ⟨li, e⟩ := List.getElem?_eq_some_iff.mp h
  have a : partsLen xs = partsLen (xs.take (i + 1)) + partsLen (xs.drop (i + 1)) := by
    unfold partsLen
    rw [← List.sum_append, ← List.map_append, List.take_append_drop]
  have b : partsLen (xs.take (i + 1)) = partsLen (xs.take i) + x.ls.length := by
    unfold partsLen
    rw [List.take_add_one, h, List.map_append, List.sum_append]
    show _ + ([x].map fun x => x.ls.length).sum = _
    rw [List.map_cons, List.map_nil, List.sum_cons, List.sum_nil, Nat.add_zero]
  omega
/-- what a chart tells: the levels other than 0, by ascending places -/
def tidy (lv : Int) (F : Int → Int) (ns : List Int) : List (Int × Int) := ns.filterMap fun n => if F n % lv = 0 then none else some (n, F n % lv)
theorem tidy_mem {lv : Int} {F : Int → Int} {ns : List Int} {q : Int × Int} (h : q ∈ tidy lv F ns) : q.1 ∈ ns ∧ q.2 = F q.1 % lv ∧ F q.1 % lv ≠ 0 := by
  unfold tidy at h
  obtain ⟨n, hn, e⟩ := List.mem_filterMap.mp h
  by_cases z : F n % lv = 0
  · rw [if_pos z] at e; cases e
  · rw [if_neg z] at e
    have e' := Option.some.inj e
    subst e'
    exact ⟨hn, rfl, z⟩
theorem tidy_asc {lv : Int} (h0 : 0 < lv) {F : Int → Int} : ∀ {ns : List Int}, ns.Pairwise (· < ·) → Rising lv (tidy lv F ns)
  | [], _ => ⟨.nil, fun q h => (nomatch h)⟩
  | n :: ns, h => by
    cases h with
    | cons h1 h2 =>
      have ih := tidy_asc h0 (F := F) h2
      unfold tidy
      rw [List.filterMap_cons]
      by_cases z : F n % lv = 0
      · rw [if_pos z]
        exact ih
      · rw [if_neg z]
        refine ⟨?_, fun q hq => ?_⟩
        · show ((n, F n % lv) :: tidy lv F ns).map (·.1) |>.Pairwise (· < ·)
          rw [List.map_cons]
          exact .cons (fun p hp => by
            obtain ⟨q, hq, e⟩ := List.mem_map.mp hp
            rw [← e]
            exact h1 _ (tidy_mem hq).1) ih.asc
        · rcases List.mem_cons.mp hq with e | e
          · subst e
            have a := Int.emod_nonneg (F n) (show lv ≠ 0 by omega)
            have b := Int.emod_lt_of_pos (F n) h0
            exact ⟨by show 1 ≤ F n % lv; omega, b⟩
          · exact ih.lv q e
theorem tidy_at {lv : Int} {F : Int → Int} (p : Int) : ∀ {ns : List Int}, ns.Nodup → sumAt (tidy lv F ns) p = if p ∈ ns then F p % lv else 0
  | [], _ => rfl
  | n :: ns, h => by
    cases h with
    | cons h1 h2 =>
      have ih := tidy_at (lv := lv) (F := F) p h2
      unfold tidy
      rw [List.filterMap_cons]
      by_cases z : F n % lv = 0
      · rw [if_pos z]
        show sumAt (tidy lv F ns) p = _
        rw [ih]
        by_cases e : p = n
        · subst e
          rw [if_neg (fun hp => h1 p hp rfl), if_pos (List.mem_cons_self ..), z]
        · by_cases hp : p ∈ ns
          · rw [if_pos hp, if_pos (List.mem_cons_of_mem _ hp)]
          · rw [if_neg hp, if_neg (fun k => (List.mem_cons.mp k).elim e hp)]
      · rw [if_neg z]
        show sumAt ((n, F n % lv) :: tidy lv F ns) p = _
        rw [sumAt_cons, ih]
        by_cases e : p = n
        · subst e
          rw [if_pos rfl, if_neg (fun hp => h1 p hp rfl), if_pos (List.mem_cons_self ..), Int.add_zero]
        · rw [if_neg (fun k => e k.symm), Int.zero_add]
          by_cases hp : p ∈ ns
          · rw [if_pos hp, if_pos (List.mem_cons_of_mem _ hp)]
          · rw [if_neg hp, if_neg (fun k => (List.mem_cons.mp k).elim e hp)]
theorem tidy_len {lv : Int} {F : Int → Int} (ns : List Int) : (tidy lv F ns).length ≤ ns.length := List.length_filterMap_le _ _
theorem level_key {cs : List (Int × Int)} {p : Int} (h : p ∉ cs.map (·.1)) : levelAt cs p = 0 := level_out h
end Lamp
set_option Elab.async false
set_option linter.all false
set_option maxRecDepth 100000
set_option maxHeartbeats 1000000
namespace Lamp
open PySem PySem.Spec PyProof.Rows L2
/-! == and != of two instances by an own __eq__ -/
structure EqO (P : Program) (w : World) (K : PySem.W.Frag) (mg : Str → Option Value) (base : Heap) (C : Addr) (sp : Sp) (k : Nat) : Prop where
  ex : ∃ (f : Addr) (fd : FuncData), PySem.W.findIn K (.ref C) "__eq__" = some (some (.ref f)) ∧ PySem.W.isFn K (.ref f) = true ∧ FnOk P w K mg base CX0 k f fd ["self", "other"] sp ∧ Binds K fd ["self", "other"] []
  ne : PySem.W.findIn K (.ref C) "__ne__" = some (some (.builtin "object.__ne__"))
  mro : PySem.W.mroIn K C (.type "object") = some true
def rOwn2 (C : Addr) (sp : Sp) (neg : Bool) : R2 := fun x y H Q => ∃ (a b dx dy : Addr) (fs gs : List (Str × V)), x = .ref a ∧ y = .ref b ∧ H a = some (.ins C dx fs) ∧ H b = some (.ins C dy gs) ∧ sp [.ref a, .ref b] H (fun v H' => ∃ k, v = .bl k ∧ Q (.bl (if neg then !k else k)) H') E0
section
variable {X : Cx} {pins : List (Addr × Obj)} {σ : L2.St} {H : Hp} {s : Shared} {Q : VK} {a b f C : Addr} {k : Nat} {sp : Sp} {fd : FuncData} {A' : Around}
theorem run_two (F : FnOk X.prog X.w X.K X.mg X.base CX0 k f fd ["self", "other"] sp) (hr : Room k A') (hf : A'.frames = X.A.frames) (hb : Binds X.K fd ["self", "other"] []) (I : Inv X pins σ H s) (h : sp [.ref a, .ref b] H Q E0) :
    wpAny (model X.prog X.w) A' (call (.ref f) [.ref a, .ref b]) (EP X pins σ Q) X.xe s := by
  have e0 := I.env0
  have e1 : Env0 X.prog X.w X.K X.mg X.base A' X.stack s H := ⟨hf.trans e0.frames, e0.mod, e0.bs, e0.bsz, e0.funs, e0.frf, e0.hok, e0.bare⟩
  have bb := hb s [.ref a, .ref b] I.kIn rfl
  refine wpAny_call (codeAny_mono (F.run A' X.stack s H ⟨[.ref a, .ref b], []⟩ [.ref a, .ref b] [.ref a, .ref b] Q E0 hr e1 bb (.cons (show RelV (V.ref a) (Value.ref a) from rfl) (.cons (show RelV (V.ref b) (Value.ref b) from rfl) .nil)) h) fun res s' told => ?_)
  match res, told with
  | .error _, told => exact False.elim told
  | .ok (.ret u), told => exact I.after told
  | .ok .next, told => exact False.elim told
  | .ok .brk, told => exact False.elim told
  | .ok .cont, told => exact False.elim told
end
section
variable {X : Cx} {C : Addr} {sp : Sp} {k : Nat}
theorem op_eqO (Z : EqO X.prog X.w X.K X.mg X.base C sp k) (hr : Room k X.A) : OpR X (compareOp .Eq) (rOwn2 C sp false) := by
  intro pins s σ H x y v u Q I rx ry h
  obtain ⟨a, b, dx, dy, fs, gs, rfl, rfl, ha, hb, hs⟩ := h
  obtain ⟨f, fd, h1, h2, F, bb⟩ := Z.ex
  cases rx
  cases ry
  obtain ⟨od, J⟩ := ins_inst I ha
  obtain ⟨od', J'⟩ := ins_inst I hb
  obtain ⟨m, fr⟩ := I.fr
  unfold compareOp
  refine PySem.W.cmp_K (op := .Eq) (tb := .ref C) hr.units0 fr I.ok.mod.kin J J'.type (by simp [PySem.W.notFirst]) h1 h2 (wpAny_mono (run_two F hr rfl bb I hs) (fun r s' told => ?_) fun _ _ z => z)
  obtain ⟨v, H1, I1, rv, ⟨n, ev, q⟩⟩ := told
  subst ev
  have eu : r = Value.bool n := rv
  subst eu
  exact ⟨.bl n, H1, I1, rfl, q⟩
end
section
variable {M : Model} {prog : Program} {w : World} {A : Around} {E : Value → Shared → Prop} {s : Shared} {K : PySem.W.Frag} {x y C f : Addr} {ox : Obj} {od : Option Obj}
theorem ne_bound {args : List Value} {Q : Option Value → Shared → Prop} (X : K.In s.heap) (I : PySem.W.InstAt s.heap x ox C od) (hs : PySem.W.findIn K (.ref C) "__ne__" = some (some (.builtin "object.__ne__")))
    (h : wpAny M A (call (.builtin "object.__ne__") (.ref x :: args)) (fun v => Q (some v)) E s) : wpAny M A (callSpecialIfBound? (.ref x) "__ne__" args) Q E s := by
  have done : wpAny M A (call (.builtin "object.__ne__") ([.ref x] ++ args) >>= fun v => pure (some v)) Q E s := wpAny_bind (wpAny_mono h (fun v s' h' => wpAny_pure h') fun _ _ h' => h')
  simp only [callSpecialIfBound?, bindSpecialIfBound?]
  refine wpAny_holding (wpAny_bind (wpAny_bind (wpAny_bind (I.type.here ((PySem.W.looks_findIn X hs).here ?_)))))
  refine wpAny_bind (wpAny_askSetting (wpAny_ite ?_))
  split
  · exact wpAny_bind (wpAny_of_eq (F.cmp_object.ne.bind _) (wpAny_pure (by exact done)))
  · exact wpAny_tryCatch (wpAny_bind (wpAny_of_eq (F.cmp_object.ne.bind _) (wpAny_pure (by exact done))))
theorem ne_entry {Q : Fin → Shared → Prop} (X : K.In s.heap) (I : PySem.W.InstAt s.heap x ox C od) (hu : A.units < cLine) (h1 : PySem.W.findIn K (.ref C) "__eq__" = some (some (.ref f))) (h2 : PySem.W.isFn K (.ref f) = true)
    (h : wpAny (model prog w) A (call (.ref f) [.ref x, .ref y]) (fun v s' => ∃ b, v = .bool b ∧ Q (.done (.ret (.bool (!b)))) s') E s) :
    wpAny (model prog w) A (Builtin.«object.__ne__» ⟨[.ref x, .ref y], []⟩) Q E s := by
  unfold Builtin.«object.__ne__»
  repeat (first
    | with_reducible refine wpAny_cRoomFor hu ?_
    | (refine wpAny_bind (m := callSpecialIfBound? (.ref x) (Str.ofString "__eq__") [.ref y])
        (PySem.W.ifBound_K X I h1 h2 (wpAny_mono h (fun r s' hr => by
          obtain ⟨b, rfl, hq⟩ := hr
          repeat (first | exact hq | exact wpAny_pure hq | exact wpAny_truthy_bool hq | (refine wpAny_bind (m := truthy (.bool _)) (wpAny_truthy_bool ?_)) | wp_step)) fun _ _ e => e)))
    | wp_step)
theorem ne_call {Q : Value → Shared → Prop} (X : K.In s.heap) (I : PySem.W.InstAt s.heap x ox C od) (hm : PySem.W.mroIn K C (.type "object") = some true) (hu : A.in1.units < cLine) (h1 : PySem.W.findIn K (.ref C) "__eq__" = some (some (.ref f))) (h2 : PySem.W.isFn K (.ref f) = true)
    (h : wpAny (model prog w) A.in1 (call (.ref f) [.ref x, .ref y]) (fun v s' => ∃ b, v = .bool b ∧ Q (.bool (!b)) s') E s) :
    wpAny (model prog w) A (call (.builtin "object.__ne__") [.ref x, .ref y]) Q E s := by
  refine wpAny_call (codeAny_call_builtin F.cmp_object.ne.plain F.cmpEntry_ne (PySem.W.check_slot F.cmpKind_ne F.cmpSplit_ne (I.type.andThen (PySem.W.looks_mroIn X hm)) (F.cmpArgs_ne _ _) (ne_entry (A := A.in1) X I hu h1 h2 (wpAny_mono h (fun v s' told => ?_) fun _ _ e => e))))
  obtain ⟨b, rfl, hq⟩ := told
  exact ⟨b, rfl, hq⟩
end
section
variable {X : Cx} {C : Addr} {sp : Sp} {k : Nat}
theorem op_neO (Z : EqO X.prog X.w X.K X.mg X.base C sp k) (hr : Room (k + 1) X.A) : OpR X (compareOp .NotEq) (rOwn2 C sp true) := by
  intro pins s σ H x y v u Q I rx ry h
  obtain ⟨a, b, dx, dy, fs, gs, rfl, rfl, ha, hb, hs⟩ := h
  obtain ⟨f, fd, h1, h2, F, bb⟩ := Z.ex
  cases rx
  cases ry
  obtain ⟨od, J⟩ := ins_inst I ha
  obtain ⟨od', J'⟩ := ins_inst I hb
  have main : wpAny (model X.prog X.w) X.A (tryCompare (.ref a) "__ne__" (.ref b)) (fun r s' => ∃ n, r = some (Value.bool n) ∧ EP X pins σ Q (.bool n) s') X.xe s := by
    unfold tryCompare
    refine wpAny_bind (ne_bound I.kIn J Z.ne (ne_call I.kIn J Z.mro hr.in1.units0 h1 h2 (wpAny_mono (run_two F hr.in1 rfl bb I hs) (fun r s' told => ?_) fun _ _ z => z)))
    obtain ⟨v, H1, I1, rv, ⟨n, ev, q⟩⟩ := told
    subst ev
    have eu : r = Value.bool n := rv
    subst eu
    exact ⟨n, rfl, wpAny_pure ⟨!n, rfl, .bl (!n), H1, I1, rfl, q⟩⟩
  unfold compareOp richCompare
  simp only [oneThing_ref]
  refine wpAny_holding (wpAny_bind (wpAny_cRoomFor hr.units0 ?_))
  rw [cmpInfo_NotEq]
  dsimp only
  refine wpAny_bind (J.type.here (wpAny_bind (J'.type.here ?_)))
  rw [show (Value.ref C != Value.ref C) = false from by simp]
  simp only [Bool.false_eq_true, if_false]
  refine wpAny_bind (wpAny_pure ?_)
  simp only [Bool.false_eq_true, if_false]
  refine wpAny_bind (wpAny_mono main (fun r s' told => ?_) fun _ _ z => z)
  obtain ⟨n, rfl, q⟩ := told
  exact wpAny_pure q
end
end Lamp
set_option Elab.async false
set_option linter.all false
set_option maxRecDepth 100000
set_option maxHeartbeats 1000000
namespace Lamp
open PySem PySem.Spec PyProof.Rows L2
abbrev sEqR : Stmt := inClass sRound 6
abbrev sCkR : Stmt := top 51
abbrev sCkRs : Stmt := top 52
def partsD (lv : Int) (ls : List (Int × Int)) (fin : Int) : PyData := .list [.int lv, .tuple (ls.map pairD), .int fin]
theorem eqv_pairs : ∀ (ls ms : List (Int × Int)), PyData.eqvAll (ls.map pairD) (ms.map pairD) = decide (ls = ms)
  | [], [] => rfl
  | [], _ :: _ => rfl
  | _ :: _, [] => rfl
  | q :: ls, r :: ms => by
    show (PyData.eqv (pairD q) (pairD r) && PyData.eqvAll (ls.map pairD) (ms.map pairD)) = _
    rw [eqv_pairs ls ms]
    show (((q.1 == r.1) && ((q.2 == r.2) && true)) && decide (ls = ms)) = decide (q :: ls = r :: ms)
    rw [Bool.eq_iff_iff]
    simp only [Bool.and_eq_true, beq_iff_eq, decide_eq_true_eq, List.cons.injEq, and_true]
    constructor
    · rintro ⟨⟨a, b⟩, c⟩
      exact ⟨Prod.ext a b, c⟩
    · rintro ⟨a, c⟩
      rw [a]
      exact ⟨⟨rfl, rfl⟩, c⟩
theorem wt_i {i : Int} (h : i.natAbs < 10 ^ 42) : PyData.weight (.int i) ≤ 141 := by
  unfold PyData.weight
  split
  · omega
  · have : i.natAbs.log2 < 140 := PySem.Flt.log2_lt_of (by decide) (Nat.lt_of_lt_of_le h (by decide))
    omega
theorem pairs_facts : ∀ {ls : List (Int × Int)}, (∀ q ∈ ls, q.1.natAbs < 10 ^ 42 ∧ q.2.natAbs < 10 ^ 42) → PyData.leavesShortAll 43 (ls.map pairD) = true ∧ PyData.weightAll (ls.map pairD) ≤ 285 * ls.length ∧ PyData.showableAll (ls.map pairD) = true
  | [], _ => ⟨rfl, Nat.zero_le _, rfl⟩
  | q :: r, h => by
    obtain ⟨h1, h2, h3⟩ := pairs_facts (ls := r) fun p hp => h p (List.mem_cons_of_mem _ hp)
    obtain ⟨a1, a2⟩ := h q (List.mem_cons_self ..)
    have w1 := wt_i a1
    have w2 := wt_i a2
    refine ⟨?_, ?_, ?_⟩
    · show (PyData.leavesShort 43 (pairD q) && PyData.leavesShortAll 43 (r.map pairD)) = true
      rw [h1, Bool.and_true]
      show (decide ((nS q.1).length ≤ 43) && (decide ((nS q.2).length ≤ 43) && true)) = true
      rw [decide_eq_true (nS_lenW a1), decide_eq_true (nS_lenW a2)]
      rfl
    · show PyData.weight (pairD q) + 1 + PyData.weightAll (r.map pairD) ≤ 285 * (r.length + 1)
      have e : PyData.weight (pairD q) = PyData.weight (.int q.1) + 1 + (PyData.weight (.int q.2) + 1 + 0) := rfl
      omega
    · show (PyData.showable (pairD q) && PyData.showableAll (r.map pairD)) = true
      rw [h3, Bool.and_true]
      show (decide (q.1.natAbs.log2 < 1920) && (decide (q.2.natAbs.log2 < 1920) && true)) = true
      rw [decide_eq_true (fits_log a1), decide_eq_true (fits_log a2)]
      rfl
theorem parts_short {lv : Int} {ls : List (Int × Int)} {fin : Int} (hf : Fit lv ls fin) : (partsD lv ls fin).showable = true ∧ (partsD lv ls fin).depth ≤ 50 ∧ PyData.leavesShort 43 (partsD lv ls fin) = true ∧ (partsD lv ls fin).weight ≤ 40000 := by
  have few := hf.few
  obtain ⟨h1, h2, h3⟩ := pairs_facts hf.all
  have w1 := wt_i hf.lv
  have w2 := wt_i hf.fin
  refine ⟨?_, ?_, ?_, ?_⟩
  · show (decide (lv.natAbs.log2 < 1920) && (PyData.showableAll (ls.map pairD) && (decide (fin.natAbs.log2 < 1920) && true))) = true
    rw [h3, decide_eq_true (fits_log hf.lv), decide_eq_true (fits_log hf.fin)]
    rfl
  · have hd := (lay_pairs ls).2
    show max 0 (max (PyData.depthAll (ls.map pairD) + 1) (max 0 0)) + 1 ≤ 50
    omega
  · show (decide ((nS lv).length ≤ 43) && (PyData.leavesShortAll 43 (ls.map pairD) && (decide ((nS fin).length ≤ 43) && true))) = true
    rw [h1, decide_eq_true (nS_lenW hf.lv), decide_eq_true (nS_lenW hf.fin)]
    rfl
  · show PyData.weight (.int lv) + 1 + (PyData.weightAll (ls.map pairD) + 1 + (PyData.weight (.int fin) + 1 + 0)) ≤ 40000
    omega
def twoP (lv : Int) (ls : List (Int × Int)) (fin : Int) : PyData := .list [partsD lv ls fin, partsD lv ls fin]
theorem twoP_ok {lv : Int} {ls : List (Int × Int)} {fin : Int} (hf : Fit lv ls fin) : (twoP lv ls fin).showable = true ∧ (twoP lv ls fin).depth ≤ 60 ∧ (twoP lv ls fin).shown.length ≤ sizeLine := by
  obtain ⟨h1, h2, h3, h4⟩ := parts_short hf
  refine ⟨?_, ?_, ?_⟩
  · show ((partsD lv ls fin).showable && ((partsD lv ls fin).showable && true)) = true
    rw [h1]
    rfl
  · show max (partsD lv ls fin).depth (max (partsD lv ls fin).depth 0) + 1 ≤ 60
    omega
  · have hs : PyData.leavesShort 43 (twoP lv ls fin) = true := by
      show (PyData.leavesShort 43 (partsD lv ls fin) && (PyData.leavesShort 43 (partsD lv ls fin) && true)) = true
      rw [h3]
      rfl
    have z := PyData.shown_le 43 (by decide) _ hs
    have e : (twoP lv ls fin).weight = (partsD lv ls fin).weight + 1 + ((partsD lv ls fin).weight + 1 + 0) := rfl
    have hl : (16000000 : Nat) ≤ sizeLine := by decide
    have hw : (twoP lv ls fin).weight ≤ 80002 := by omega
    have : (43 + 2) * (twoP lv ls fin).weight ≤ 45 * 80002 := Nat.mul_le_mul (Nat.le_refl _) hw
    omega
/-- isinstance(x, Round) of a round -/
structure IsR (K : PySem.W.Frag) (C : Addr) : Prop where
  cls : PySem.W.findIn K (.ref C) "__class__" = some (some (.builtin "object.__class__"))
  get : PySem.W.specialIn K (.builtin "object.__class__") "__get__" = some (some (.builtin "getset_descriptor.__get__"))
  tak : PySem.W.takesIn K (.builtin "object.__class__") = some true
  mro : PySem.W.mroIn K C (.type "object") = some true
  kit : PySem.W.kitOne K (.ref C) (.ref C) = some true
def spEqR (K : PySem.W.Frag) (C : Addr) : Sp := fun vs H Q _ => ∃ (a b t t' : Addr) (lv fin lv' fin' : Int) (ls ls' : List (Int × Int)), vs = [.ref a, .ref b] ∧ RoundAt C H a lv t fin ∧ RoundAt C H b lv' t' fin' ∧ PicAt K H t ls ∧ PicAt K H t' ls' ∧ Q (.bl (decide (lv = lv' ∧ ls = ls' ∧ fin = fin'))) H
section
variable {P : Program} {w : World} {K : PySem.W.Frag} {mg : Str → Option Value} {base : Heap} {C : Addr}
theorem scEqR : FnScope ["self", "other"] ["self", "other"] (defScope sEqR) := ⟨rfl, rfl, rfl, by decide +kernel, rfl, by decide +kernel, by decide +kernel⟩
theorem v_isR {σ : L2.St} {H : Hp} {b t : Addr} {lv fin : Int} {te : TE} (R : RCls K C) (S : IsR K C) (h : Val te σ H (.ref b)) (hr : RoundAt C H b lv t fin) : Val (tCB (rIsi K) (tCons te (tCons (tC (.ref C)) tNil))) σ H (.bl true) := by
  obtain ⟨dx, hr⟩ := hr
  exact fun Q q => h _ ⟨_, _, .ref C, .ref C, true, rfl, .own C, .base (.ins hr R.cl S.cls S.get S.tak S.mro), S.kit, q⟩
theorem ok_eqR {f : Addr} {fd : FuncData} (F : Fun K "__eq__" "Round.__eq__" sEqR f fd) (R : RCls K C) (S : IsR K C) (mR : mg "Round" = some (.ref C)) (mis : mg "isinstance" = none) : FnOk P w K mg base CX0 1 f fd ["self", "other"] (spEqR K C) := by
  refine F.ok scEqR (fun vs H Q E h => ?_) (fun cdv A outer s H vs Q E hr h => ?_)
  · obtain ⟨a, b, t, t', lv, fin, lv', fin', ls, ls', rfl, _⟩ := h
    rfl
  · obtain ⟨a, b, t, t', lv, fin, lv', fin', ls, ls', rfl, ha, hb, hp, hp', q⟩ := h
    have hu := hr.units
    refine ⟨_, pss_one (ps_ret (pe_and (pe_callB call_isi (by rfl) mis (by decide +kernel) (pa_cons (pv 1) (pa_cons (pe_glob (v := .ref C) rfl mR rfl) pa_nil)))
      (pe_and (pe_cmpR op_eq (pe_fld (pv 0) rfl) (pe_fld (pv 1) rfl) (nomark _)) (pe_and (pe_cmpR (op_eqD hu) (pe_fld (pv 0) rfl) (pe_fld (pv 1) rfl) (nomark _)) (pe_one (pe_cmpR op_eq (pe_fld (pv 0) rfl) (pe_fld (pv 1) rfl) (nomark _))))))), ?_⟩
    refine v_isR R S (val_var rfl) hb _ ⟨true, rfl, iteT ?_⟩
    have h1 : decide (V.int lv = V.int lv') = decide (lv = lv') := by
      rw [Bool.eq_iff_iff, decide_eq_true_eq, decide_eq_true_eq]
      exact ⟨V.int.inj, fun e => by rw [e]⟩
    have h3 : decide (V.int fin = V.int fin') = decide (fin = fin') := by
      rw [Bool.eq_iff_iff, decide_eq_true_eq, decide_eq_true_eq]
      exact ⟨V.int.inj, fun e => by rw [e]⟩
    have v1 : Val (tOp rEq (tFld K (tVar 0) "_levels") (tFld K (tVar 1) "_levels")) (L2.start ["self", "other"] [V.ref a, V.ref b]) H (.bl (decide (lv = lv'))) := val_op (v_lv R (val_var rfl) ha) (v_lv R (val_var rfl) hb) fun Q q => ⟨rfl, by rw [h1]; exact q⟩
    have v2 : Val (tOp (rEqD K) (tFld K (tVar 0) "_lamps") (tFld K (tVar 1) "_lamps")) (L2.start ["self", "other"] [V.ref a, V.ref b]) H (.bl (decide (ls = ls'))) := val_op (v_la R (val_var rfl) ha) (v_la R (val_var rfl) hb) fun Q q => ⟨_, _, dp_pic hp, dp_pic hp', (shaped_pairs ls).2, (shaped_pairs ls').2, by
      show Q (.bl (PyData.eqvAll (ls.map pairD) (ls'.map pairD))) H
      rw [eqv_pairs]
      exact q⟩
    have v3 : Val (tOp rEq (tFld K (tVar 0) "_end") (tFld K (tVar 1) "_end")) (L2.start ["self", "other"] [V.ref a, V.ref b]) H (.bl (decide (fin = fin'))) := val_op (v_en R (val_var rfl) ha) (v_en R (val_var rfl) hb) fun Q q => ⟨rfl, by rw [h3]; exact q⟩
    refine v1 _ ⟨_, rfl, ?_⟩
    by_cases e1 : lv = lv'
    · rw [decide_eq_true e1]
      refine iteT ?_
      refine v2 _ ⟨_, rfl, ?_⟩
      by_cases e2 : ls = ls'
      · rw [decide_eq_true e2]
        refine iteT ?_
        refine v3 _ ?_
        have : decide (lv = lv' ∧ ls = ls' ∧ fin = fin') = decide (fin = fin') := by
          rw [Bool.eq_iff_iff, decide_eq_true_eq, decide_eq_true_eq]
          exact ⟨fun z => z.2.2, fun z => ⟨e1, e2, z⟩⟩
        rw [this] at q
        exact q
      · rw [decide_eq_false e2]
        refine iteF ?_
        rw [decide_eq_false fun z => e2 z.2.1] at q
        exact q
    · rw [decide_eq_false e1]
      refine iteF ?_
      rw [decide_eq_false fun z => e1 z.1] at q
      exact q
end
/-- what a round's properties tell -/
structure Ask3 (P : Program) (w : World) (K : PySem.W.Frag) (mg : Str → Option Value) (base : Heap) (C : Addr) : Prop where
  lv : PrR P w K mg base C "levels" (spLevels C) 1
  la : PrR P w K mg base C "lamps" (spLamps C) 1
  en : PrR P w K mg base C "end" (spEnd C) 1
def spCkR (C : Addr) : Sp := fun vs H Q _ => ∃ (a t : Addr) (lv fin : Int), vs = [.ref a] ∧ RoundAt C H a lv t fin ∧ Q .non H
def spCkRs (C : Addr) : Sp := fun vs H Q _ => ∃ (a b t u : Addr) (lv fin fin' : Int), vs = [.ref a, .ref b] ∧ RoundAt C H a lv t fin ∧ RoundAt C H b lv u fin' ∧ Q .non H
section
variable {P : Program} {w : World} {K : PySem.W.Frag} {mg : Str → Option Value} {base : Heap} {C : Addr}
theorem scCkR : FnScope ["value"] ["value"] (defScope sCkR) := ⟨rfl, rfl, rfl, by decide +kernel, rfl, by decide +kernel, by decide +kernel⟩
theorem scCkRs : FnScope ["trip", "second"] ["trip", "second"] (defScope sCkRs) := ⟨rfl, rfl, rfl, by decide +kernel, rfl, by decide +kernel, by decide +kernel⟩
theorem ok_ckR {f : Addr} {fd : FuncData} (F : Fun K "check_round" "check_round" sCkR f fd) (R : RCls K C) (S : IsR K C) (mR : mg "Round" = some (.ref C)) (mis : mg "isinstance" = none) : FnOk P w K mg base CX0 1 f fd ["value"] (spCkR C) := by
  refine F.ok scCkR (fun vs H Q E h => ?_) (fun cdv A outer s H vs Q E hr h => ?_)
  · obtain ⟨a, t, lv, fin, rfl, _⟩ := h
    rfl
  · obtain ⟨a, t, lv, fin, rfl, ha, q⟩ := h
    refine ⟨_, pss_one (ps_if (pt_not (pt_val (pe_callB call_isi (by rfl) mis (by decide +kernel) (pa_cons (pv 0) (pa_cons (pe_glob (v := .ref C) rfl mR rfl) pa_nil))))) pss_never pss_nil), ?_⟩
    exact st_no (ans_not (b := true) (ans_val (v_isR R S (val_var rfl) ha))) q
theorem ok_ckRs {f : Addr} {fd : FuncData} (F : Fun K "check_rounds" "check_rounds" sCkRs f fd) (R : RCls K C) (Z : Ask3 P w K mg base C) (Cr : Dr P w K mg base (spCkR C) "check_round" ["value"] 1) : FnOk P w K mg base CX0 3 f fd ["trip", "second"] (spCkRs C) := by
  refine F.ok scCkRs (fun vs H Q E h => ?_) (fun cdv A outer s H vs Q E hr h => ?_)
  · obtain ⟨a, b, t, u, lv, fin, fin', rfl, _⟩ := h
    rfl
  · obtain ⟨a, b, t, u, lv, fin, fin', rfl, ha, hb, q⟩ := h
    refine ⟨_, pss_cons (ps_expr (pe_dr Cr (by decide) hr rfl (pa_cons (pv 0) pa_nil)))
      (pss_cons (ps_expr (pe_dr Cr (by decide) hr rfl (pa_cons (pv 1) pa_nil)))
      (pss_one (ps_if (pt_cmpR op_ne (pe_prR Z.lv R (Nat.le_refl _) hr (pv 1)) (pe_prR Z.lv R (Nat.le_refl _) hr (pv 0)) (nomark _)) pss_never pss_nil))), ?_⟩
    obtain ⟨dx, hA⟩ := id ha
    obtain ⟨dy, hB⟩ := id hb
    refine ⟨_, rfl, a, t, lv, fin, rfl, ha, ?_⟩
    refine ⟨_, rfl, b, u, lv, fin', rfl, hb, ?_⟩
    refine ⟨_, rfl, b, dy, _, rfl, hB, b, u, lv, fin', rfl, hb, ?_⟩
    refine ⟨_, rfl, a, dx, _, rfl, hA, a, t, lv, fin, rfl, ha, rfl, false, ?_, iteF q⟩
    rw [decide_eq_true rfl]
    rfl
end
end Lamp
set_option Elab.async false
set_option linter.all false
set_option maxRecDepth 100000
set_option maxHeartbeats 1000000
namespace Lamp
open PySem PySem.Spec PyProof.Rows L2
/-- sorted(d) of a dict whose keys are ints, any number of them -/
def rSortDW : List V → Hp → VK → Prop := fun xs H Q => ∃ (a : Addr) (kvs : List (Key × V)) (ks : List Int), xs = [.ref a] ∧ Rd H a (.dK kvs) ∧ kvs.map (·.1) = ks.map Sum.inl ∧
  ∀ (ys : List Int) (p : Addr), ys.Perm ks → ys.Pairwise (· ≤ ·) → H p = none → Q (.ref p) (upd H p (.lst (ys.map V.int)))
theorem keys_ints {vs : List (Key × Value)} {acc : Array Value} {ks : List Int} (hk : vs.map (·.1) = ks.map Sum.inl) (hn : acc.size = vs.length) (h : ∀ (j : Nat) (v : Value), acc[j]? = some v → ∃ (k : Key) (x : Value), vs[j]? = some (k, x) ∧ keyIs k v = true) : IntsAre acc.toList ks := by
  have hl : vs.length = ks.length := by simpa using congrArg List.length hk
  refine ints_each (by rw [Array.length_toList, hn, hl]) fun j v e => ?_
  obtain ⟨k, x, e1, e2⟩ := h j v (by rw [← Array.getElem?_toList]; exact e)
  have e3 : (ks.map Sum.inl)[j]? = some k := by rw [← hk, List.getElem?_map, e1]; rfl
  rw [List.getElem?_map] at e3
  cases e4 : ks[j]? with
  | none => rw [e4] at e3; cases e3
  | some y =>
    rw [e4] at e3
    cases Option.some.inj e3
    rcases keyIs_shape e2 with ⟨i, t, ek, ev⟩ | ⟨z, t, ek, ev⟩
    · cases ek
      exact ⟨_, t, rfl, ev⟩
    · cases ek
theorem call_sortedDW {X : Cx} (hcalm : X.calm = true) : CallR X (.builtin "sorted") rSortDW := by
  intro pins s σ H xs us Q I r q
  obtain ⟨a, kvs, ks, rfl, hd, hks, q⟩ := q
  rw [Vals.ref1 r]
  obtain ⟨z, lo, vs, rel, dd⟩ := dk_rd I.hok hd
  obtain ⟨ep, hat⟩ := dd.dictAt
  have hkeys : vs.map (·.1) = ks.map Sum.inl := rel.keys.symm.trans hks
  have hz : vs.length ≤ sizeLine := by rw [← rel.length]; exact z
  refine Calls.call_function_entry PyProof.Rows.kind_sorted PyProof.Rows.plain_sorted PyProof.Rows.entry_sorted (PyProof.Rows.args_sorted1 _) ?_
  unfold Builtin.«sorted»
  refine wpAny_bind (m := checkCount "sorted" 1 1 _) (wpAny_pure ?_)
  refine wpAny_bind (PySem.W.kdu_collect (A := X.A.in1) (PySem.W.kdl_dict (knd := mixKind X.prog X.w) (kvs := vs) (ep := ep) lo) (I.ok.hd hcalm) hat hz fun h' tk acc hk hacc => ?_)
  have hS : IntsAre acc.toList ks := keys_ints hkeys hacc.1 fun j v e => by
    obtain ⟨k, x, e1, e2⟩ := hacc.2 j v e
    exact ⟨k, x, e1, e2⟩
  have hz2 : acc.toList.length ≤ sizeLine := by rw [Array.length_toList, hacc.1]; exact hz
  have I1 : Inv X pins σ H { s with heap := h', toks := tk } := I.kept hk
  refine wpAny_bind (wpAny_newList ?_ hz2)
  have hoL : (h'.push (seqObj "list" acc.toList.toArray 0)).get? h'.objs.size = some (seqObj "list" acc.toList.toArray 0) := Heap.get?_push_size _ rfl
  show wpAny _ _ _ _ _ { s with heap := h'.push (seqObj "list" acc.toList.toArray 0), toks := tk }
  refine wpAny_bind (wpAny_holding (wpAny_call_entry PyProof.Rows.slot_list_sort ⟨_, hoL, rfl⟩ PyProof.Rows.entry_list_sort
    (SrtO.list_sort_ord (s := { s with heap := h'.push (seqObj "list" acc.toList.toArray 0), toks := tk }) SrtO.swo_int hoL hz2 (fun h2 => SrtO.ints_sortable hS h2) fun out g1 g2 => ⟨_, rfl, ?_⟩) (PyProof.Rows.args_list_sort _)))
  obtain ⟨k1, k2, k3⟩ := SrtO.ints_out hS g1 g2
  obtain ⟨e', he'⟩ := PyProof.Rows.sortedHeap_at (vs := acc.toList) (out := out.toArray) hoL
  have hlen : ((out.map SrtO.iv).map V.int).length ≤ sizeLine := by
    rw [List.length_map, List.length_map, ← List.length_map (f := SrtO.iv), k2.length_eq]
    have e := congrArg List.length hkeys
    rw [List.length_map, List.length_map] at e
    omega
  refine wpAny_pure ⟨_, rfl, .ref h'.objs.size, upd H h'.objs.size (.lst ((out.map SrtO.iv).map V.int)), I1.laid (t' := tk) (fun b u e => ?_) (Nat.le_refl _)
    (show ObjOk X.prog X.w _ _ _ (.lst ((out.map SrtO.iv).map V.int)) from ⟨hlen, out, e', vals_of_ints k1, he'⟩), rfl, q _ _ k2 k3 (I1.hok.fresh (Nat.le_refl _))⟩
  have hb : b < h'.objs.size := Heap.lt_size e
  rw [PyProof.Rows.sortedHeap_old (Nat.ne_of_lt hb) (by rw [size_push']; exact Nat.lt_succ_of_lt hb)]
  exact Heap.get?_push_of_some _ e
end Lamp
set_option Elab.async false
set_option linter.all false
set_option maxRecDepth 100000
set_option maxHeartbeats 1000000
namespace Lamp
open PySem PySem.Spec PyProof.Rows L2
abbrev sTotal : Stmt := top 58
/-! charts -/
theorem nodup_put {cs : List (Int × Int)} (h : (cs.map (·.1)).Nodup) (k v : Int) : ((putI cs k v).map (·.1)).Nodup ∧ (putI cs k v).length ≤ cs.length + 1 := by
  unfold putI
  split
  · refine ⟨?_, by rw [List.length_map]; omega⟩
    rw [List.map_map]
    have e : ((fun q : Int × Int => q.1) ∘ fun q => if q.1 = k then (q.1, v) else q) = fun q => q.1 := by
      funext q
      show (if q.1 = k then (q.1, v) else q).1 = q.1
      split <;> rfl
    rw [e]
    exact h
  · rename_i hn
    have hk : k ∉ cs.map (·.1) := fun z => by
      obtain ⟨q, hq, e⟩ := List.mem_map.mp z
      exact hn (List.any_eq_true.mpr ⟨q, hq, decide_eq_true e⟩)
    refine ⟨?_, by rw [List.length_append]; exact Nat.le_refl _⟩
    rw [List.map_append]
    exact List.nodup_append.mpr ⟨h, by simp, fun a ha b hb => by simp at hb; subst hb; exact fun e => hk (e ▸ ha)⟩
theorem level_app {k v p : Int} : ∀ {cs : List (Int × Int)}, k ∉ cs.map (·.1) → levelAt (cs ++ [(k, v)]) p = if p = k then v else levelAt cs p
  | [], _ => by
    show levelAt [(k, v)] p = _
    rw [levelAt_cons]
    by_cases h : p = k
    · rw [if_pos h, if_pos h.symm]
    · rw [if_neg h, if_neg fun z => h z.symm]
  | q :: cs, h => by
    show levelAt (q :: (cs ++ [(k, v)])) p = _
    rw [levelAt_cons, levelAt_cons, level_app fun z => h (by rw [List.map_cons]; exact List.mem_cons_of_mem _ z)]
    by_cases e : q.1 = p
    · rw [if_pos e, if_neg fun z => h (by rw [List.map_cons, ← z, e]; exact List.mem_cons_self ..), if_pos e]
    · rw [if_neg e, if_neg e]
theorem level_set {k v p : Int} : ∀ {cs : List (Int × Int)}, k ∈ cs.map (·.1) → levelAt (cs.map fun q => if q.1 = k then (q.1, v) else q) p = if p = k then v else levelAt cs p
  | q :: cs, h => by
    rw [List.map_cons, levelAt_cons, levelAt_cons]
    by_cases e : q.1 = k
    · rw [if_pos e]
      show (if q.1 = p then v else _) = _
      by_cases e2 : q.1 = p
      · rw [if_pos e2, if_pos (by rw [← e2, e])]
      · have np : p ≠ k := fun z => e2 (by rw [e, z])
        rw [if_neg e2, if_neg np, if_neg e2]
        by_cases hk : k ∈ cs.map (·.1)
        · rw [level_set hk, if_neg np]
        · have same : ∀ {ds : List (Int × Int)}, k ∉ ds.map (·.1) → (ds.map fun q => if q.1 = k then (q.1, v) else q) = ds := fun {ds} hd => by
            rw [List.map_congr_left (g := id) fun q hq => by
              rw [if_neg fun z => hd (List.mem_map.mpr ⟨q, hq, z⟩)]
              rfl, List.map_id]
          rw [same hk]
    · have hk : k ∈ cs.map (·.1) := by
        rcases List.mem_cons.mp (by rw [List.map_cons] at h; exact h) with z | z
        · exact absurd z.symm e
        · exact z
      rw [if_neg e]
      by_cases e2 : q.1 = p
      · rw [if_pos e2, if_neg (fun z => e (by rw [e2, z])), if_pos e2]
      · rw [if_neg e2, if_neg e2, level_set hk]
theorem level_put {cs : List (Int × Int)} (k v p : Int) : levelAt (putI cs k v) p = if p = k then v else levelAt cs p := by
  unfold putI
  split
  · rename_i h
    obtain ⟨q, hq, e⟩ := List.any_eq_true.mp h
    exact level_set (List.mem_map.mpr ⟨q, hq, of_decide_eq_true e⟩)
  · rename_i h
    exact level_app fun z => by
      obtain ⟨q, hq, e⟩ := List.mem_map.mp z
      exact h (List.any_eq_true.mpr ⟨q, hq, decide_eq_true e⟩)
theorem val_enc (p : Int) : ∀ ls : List (Int × Int), (valV (enc ls) (Sum.inl p)).getD (.int 0) = .int (levelAt ls p)
  | [] => rfl
  | q :: ls => by
    rw [levelAt_cons]
    by_cases h : q.1 = p
    · rw [if_pos h, show valV (enc (q :: ls)) (Sum.inl p) = some (V.int q.2) from valV_pos (p := (Sum.inl q.1, V.int q.2)) (by show (Sum.inl q.1 : Key) = Sum.inl p; rw [h])]
      rfl
    · rw [if_neg h, show valV (enc (q :: ls)) (Sum.inl p) = valV (enc ls) (Sum.inl p) from valV_neg (p := (Sum.inl q.1, V.int q.2)) (fun z => h (Sum.inl.inj z)), val_enc p ls]
theorem val_some {p : Int} {ls : List (Int × Int)} (h : p ∈ ls.map (·.1)) : valV (enc ls) (Sum.inl p) = some (.int (levelAt ls p)) := by
  obtain ⟨v, e, _⟩ := enc_get h
  have z := val_enc p ls
  rw [e] at z
  rw [e]
  exact congrArg some z
theorem enc_keys (ls : List (Int × Int)) : (enc ls).map (·.1) = (ls.map (·.1)).map Sum.inl := by
  unfold enc
  rw [List.map_map, List.map_map]
  rfl
theorem merge_enc : ∀ {ls acc : List (Int × Int)}, ((acc ++ ls).map (·.1)).Nodup → mergeK (enc acc) (enc ls) = enc (acc ++ ls)
  | [], acc, _ => by rw [List.append_nil]; rfl
  | q :: ls, acc, h => by
    show mergeK (putK (enc acc) (Sum.inl q.1) (V.int q.2)) (enc ls) = _
    have hk : q.1 ∉ acc.map (·.1) := fun z => by
      rw [List.map_append, List.nodup_append] at h
      exact h.2.2 _ z _ (by rw [List.map_cons]; exact List.mem_cons_self ..) rfl
    have e : putI acc q.1 q.2 = acc ++ [q] := by
      unfold putI
      rw [if_neg (fun z => by
        obtain ⟨r, hr, e⟩ := List.any_eq_true.mp z
        exact hk (List.mem_map.mpr ⟨r, hr, of_decide_eq_true e⟩))]
    rw [enc_put, e, merge_enc (by rw [List.append_assoc]; exact h), List.append_assoc]
    rfl
theorem pairs_keys {K : PySem.W.Frag} {H : Hp} : ∀ {as : List Addr} {ls : List (Int × Int)}, Paired (fun a (q : Int × Int) => H a = some (.tup [.int q.1, .int q.2])) as ls → Paired (fun p (kv : Key × V) => SqT K H p [kV kv.1, kv.2]) as (enc ls)
  | _, _, .nil => .nil
  | _, _, .cons h t => .cons (SqT.of h) (pairs_keys t)
/-- at r: a picture, how far it is moved, how often it counts -/
def PartAt (K : PySem.W.Frag) (H : Hp) (r : Addr) (x : Part) : Prop := ∃ t, H r = some (.tup [.ref t, .int x.mv, .int x.tm]) ∧ PicAt K H t x.ls
theorem PartAt.same {K : PySem.W.Frag} {H H' : Hp} {r : Addr} {x : Part} (h : PartAt K H r x) (s : Same H H') : PartAt K H' r x := by
  obtain ⟨t, h1, h2⟩ := h
  exact ⟨t, s _ _ h1, h2.same s⟩
def spTotal (K : PySem.W.Frag) : Sp := fun vs H Q _ => ∃ (lv : Int) (pt : Addr) (rs : List Addr) (xs : List Part), vs = [.int lv, .ref pt] ∧ H pt = some (.tup (rs.map V.ref)) ∧ Paired (PartAt K H) rs xs ∧ 0 < lv ∧
  (∀ x ∈ xs, ∀ q ∈ x.ls, -100 ≤ q.2 ∧ q.2 ≤ 100) ∧ partsLen xs < 8000 ∧ ∀ (t : Addr) (ms : List (Int × Int)) H', Same H H' → PicB K H' t ms → Rising lv ms → (∀ p, sumAt ms p = partsAt xs p % lv) → ms.length ≤ partsLen xs → Q (.ref t) H'
theorem same_at {H H' : Hp} {c : Addr} {o : HO} (s : Same H H') (hc : H c = none) : Same H (upd H' c o) := fun b u e => by
  rw [upd_ne (ne_of_none e hc)]
  exact s b u e
section
variable {P : Program} {w : World} {K : PySem.W.Frag} {mg : Str → Option Value} {base : Heap} {C : Addr}
theorem scTotal : FnScope ["levels", "parts", "sums", "lamps", "by", "times", "place", "level"] ["levels", "parts"] (defScope sTotal) := ⟨rfl, rfl, rfl, by decide +kernel, rfl, by decide +kernel, by decide +kernel⟩
theorem ok_total {f : Addr} {fd : FuncData} (F : Fun K "total" "total" sTotal f fd) (mt : mg "tuple" = none) (ms : mg "sorted" = none) : FnOk P w K mg base CX0 1 f fd ["levels", "parts"] (spTotal K) := by
  refine F.ok scTotal (fun vs H Q E h => ?_) (fun cdv A outer s H vs Q E hr h => ?_)
  · obtain ⟨lv, pt, rs, xs, rfl, _⟩ := h
    rfl
  · obtain ⟨lv, pt, rs, xs, rfl, hpt, hpa, h0, hlev, h64, q⟩ := h
    have hu := hu_of hr
    have hlen := Paired.length hpa
    refine ⟨_, pss_cons (ps_set (i := 2) scTotal.nd rfl (.inr rfl) pe_dnewK)
      (pss_cons (ps_for PassesOwn.never rfl (pi_tup (pv 1)) (pg_tup rfl (pgs_cons (pg_name (i := 3) scTotal.nd rfl (.inl rfl)) (pgs_cons (pg_name (i := 4) scTotal.nd rfl (.inl rfl)) (pgs_cons (pg_name (i := 5) scTotal.nd rfl (.inl rfl)) pgs_nil))))
        (pss_one (ps_for PassesOwn.never rfl (pi_tup (pv 3)) (pg_tup rfl (pgs_cons (pg_name (i := 6) scTotal.nd rfl (.inl rfl)) (pgs_cons (pg_name (i := 7) scTotal.nd rfl (.inl rfl)) pgs_nil)))
          (pss_one (ps_dput hu (pv 2) (pe_op op_add (pv 6) (pv 4)) (pe_op op_add (pe_dget2 hu (pv 2) (pe_op op_add (pv 6) (pv 4)) pe_int ⟨rfl, rfl, rfl, rfl⟩) (pe_op op_mul (pv 5) (pv 7))) rfl)))))
      (pss_one (ps_ret (pe_callTy call_tupB (by rfl) mt (by decide +kernel) (pa_cons (pe_lc (own := [("place", 6)]) (g := gName 6) rfl scTotal.nd
          (pi_list (pe_callB (call_sortedDW rfl) (by rfl) ms (by decide +kernel) (pa_cons (pv 2) pa_nil)))
          (blkOk_by (own := [("place", 6)]) (N := ["levels", "parts", "sums", "lamps", "by", "times", "place", "level"]) (sc := defScope sTotal) (by decide +kernel)) (fun _ _ _ _ _ => pg_name (i := 6) scTotal.nd rfl (Or.inl rfl))
          (fun _ _ _ _ _ => pts_one (pt_cmpR op_ne (pe_op op_mod (pe_dget hu (pv 2) (pv 6) (fun _ _ => rfl)) (pv 0)) pe_int (nomark _)))
          (fun _ _ _ _ _ => pe_tup (pa_cons (pv 6) (pa_cons (pe_op op_mod (pe_dget hu (pv 2) (pv 6) (fun _ _ => rfl)) (pv 0)) pa_nil)))) pa_nil))))), ?_⟩
    refine sq_setR (fun v H' => ∃ c, v = .ref c ∧ H c = none ∧ H' = upd H c (.dK [])) (fun Q' q' c hc => q' _ _ ⟨c, rfl, hc, rfl⟩) ?_
    rintro v H0 ⟨c, rfl, hc, rfl⟩
    refine ⟨_, rfl, pt, rfl, ⟨_, SqT.of (same_of hc _ _ hpt)⟩, for_tup (xs := rs.map V.ref) (fun i σ' H' => Same H H' ∧ ∃ x3 x4 x5 x6 x7 cs, σ' = [some (.int lv), some (.ref pt), some (.ref c), x3, x4, x5, x6, x7] ∧ H' c = some (.dK (enc cs)) ∧ (cs.map (·.1)).Nodup ∧ (∀ p, levelAt cs p = partsAt (xs.take i) p) ∧ cs.length ≤ partsLen (xs.take i))
      ⟨same_of hc, _, _, _, _, _, [], rfl, upd_same, .nil, fun p => rfl, Nat.le_refl _⟩ (fun i σ' H' _ z => SqT.of (z.1 _ _ hpt)) (fun i v σ' H' hv z => ?_) (fun σ' H' z => ?_)⟩
    · obtain ⟨s1, x3, x4, x5, x6, x7, cs, rfl, hcs, nd, hF, hl⟩ := z
      rw [List.getElem?_map] at hv
      cases er : rs[i]? with
      | none => rw [er] at hv; cases hv
      | some r =>
        rw [er] at hv
        have ex : v = V.ref r := (Option.some.inj hv).symm
        subst ex
        obtain ⟨x, hx, t, hrt, hpic⟩ := paired_get hpa er
        obtain ⟨as, ht, hal, hat⟩ := pair_get hpic
        have hlx := partsLen_take hx
        have hxm := List.mem_of_getElem? hx
        refine ⟨r, _, rfl, SqT.of (s1 _ _ hrt), rfl, _, _, rfl, _, _, rfl, _, _, rfl, rfl, ?_⟩
        refine ⟨_, rfl, t, rfl, ⟨_, .inl (rd_same ht s1)⟩, for_tup (xs := as.map V.ref) (fun j σ' H' => Same H H' ∧ ∃ x6 x7 cs, σ' = [some (.int lv), some (.ref pt), some (.ref c), some (.ref t), some (.int x.mv), some (.int x.tm), x6, x7] ∧ H' c = some (.dK (enc cs)) ∧ (cs.map (·.1)).Nodup ∧ (∀ p, levelAt cs p = partsAt (xs.take i) p + x.tm * sumAt (x.ls.take j) (p - x.mv)) ∧ cs.length ≤ partsLen (xs.take i) + j)
          ⟨s1, _, _, cs, rfl, hcs, nd, fun p => by rw [List.take_zero, sumAt_nil, Int.mul_zero, Int.add_zero]; exact hF p, hl⟩ (fun j σ' H' _ z => .inl (rd_same ht z.1)) (fun j v σ' H' hv z => ?_) (fun σ' H' z => ?_)⟩
        · obtain ⟨s2, y6, y7, ds, rfl, hds, nd2, hG, hl2⟩ := z
          rw [List.getElem?_map] at hv
          cases ea : as[j]? with
          | none => rw [ea] at hv; cases hv
          | some a =>
            rw [ea] at hv
            have ex : v = V.ref a := (Option.some.inj hv).symm
            subst ex
            have lj : j < x.ls.length := by rw [← hal]; exact (List.getElem?_eq_some_iff.mp ea).1
            have eq := List.getElem?_eq_getElem lj
            have ha := s2 _ _ (hat j a _ ea eq)
            have lev := hlev x hxm _ (List.getElem_mem lj)
            refine ⟨a, _, rfl, SqT.of ha, rfl, _, _, rfl, _, _, rfl, rfl, ?_⟩
            refine ⟨_, rfl, c, rfl, .inl ⟨_, .inl hds⟩, _, rfl, _, rfl, _, _, rfl, rfl, _, DGet.k (k := Sum.inl (x.ls[j].1 + x.mv)) hds, ?_⟩
            rw [val_enc]
            refine ⟨_, rfl, _, rfl, _, _, rfl, rfl, mulR (by omega), _, _, rfl, rfl, ?_⟩
            refine ⟨_, rfl, _, rfl, _, rfl, _, _, rfl, rfl, c, _, rfl, DPut.k (k := Sum.inl (x.ls[j].1 + x.mv)) hds ?_, ?_⟩
            · unfold enc
              rw [List.length_map]
              rw [sizeLine_eq]; omega
            · obtain ⟨n1, n2⟩ := nodup_put nd2 (x.ls[j].1 + x.mv) (levelAt ds (x.ls[j].1 + x.mv) + x.tm * x.ls[j].2)
              refine ⟨same_at s2 hc, _, _, putI ds (x.ls[j].1 + x.mv) (levelAt ds (x.ls[j].1 + x.mv) + x.tm * x.ls[j].2), rfl, by rw [upd_same, enc_put], n1, fun p => ?_, by omega⟩
              rw [level_put, List.take_add_one, eq, sumAt_app]
              show _ = _ + x.tm * (_ + sumAt [x.ls[j]] (p - x.mv))
              rw [sumAt_cons, sumAt_nil, Int.add_zero]
              by_cases hp : p = x.ls[j].1 + x.mv
              · rw [if_pos hp, if_pos (by omega), hG, hp, Int.mul_add, Int.add_assoc]
              · rw [if_neg hp, if_neg (by omega), Int.add_zero]
                exact hG p
        · obtain ⟨s2, y6, y7, ds, rfl, hds, nd2, hG, hl2⟩ := z
          rw [List.length_map, hal] at hl2
          refine ⟨s2, _, _, _, _, _, ds, rfl, hds, nd2, fun p => ?_, ?_⟩
          · have z := hG p
            rw [List.length_map, hal, List.take_length] at z
            rw [z, List.take_add_one, hx, partsAt_app]
            show _ = _ + partsAt [x] p
            rw [partsAt_one]
            rfl
          · have e : partsLen (xs.take (i + 1)) = partsLen (xs.take i) + x.ls.length := by
              unfold partsLen
              rw [List.take_add_one, hx, List.map_append, List.sum_append]
              show _ + ([x].map fun x => x.ls.length).sum = _
              rw [List.map_cons, List.map_nil, List.sum_cons, List.sum_nil, Nat.add_zero]
            omega
    · obtain ⟨s1, x3, x4, x5, x6, x7, cs, rfl, hcs, nd, hF, hl⟩ := z
      rw [List.length_map, hlen, List.take_length] at hF hl
      refine ⟨_, rfl, c, enc cs, cs.map (·.1), rfl, .inl hcs, enc_keys cs, fun ns' sr perm asc nsr => ⟨sr, rfl, ⟨_, SqL.of upd_same⟩, fun D hD => ?_⟩⟩
      have s2 := same_of (o := .lst (ns'.map V.int)) nsr
      have ndn : ns'.Nodup := perm.nodup_iff.mpr nd
      have memo : ∀ n, n ∈ ns' ↔ n ∈ cs.map (·.1) := fun n => perm.mem_iff
      have hlen2 : ns'.length ≤ partsLen xs := by rw [perm.length_eq, List.length_map]; exact hl
      refine lc_genL (us := ns') (enc := V.int) (out := fun n => if levelAt cs n % lv = 0 then none else some (n, levelAt cs n % lv)) (Rel := IsP) isp_st hD (SqL.of upd_same) (by omega) ?_ ?_
      · intro i n H2 hn s3 R' Z' hR hZ
        have hc2 := s3 _ _ (s2 _ _ hcs)
        have hv := val_some ((memo n).mp (List.mem_of_getElem? hn))
        have get : DGet H2 c (.int n) (some (.int (levelAt cs n))) := .inl ⟨enc cs, Sum.inl n, .inl hc2, rfl, hv.symm⟩
        refine ⟨rfl, ?_⟩
        refine ⟨_, rfl, _, rfl, c, _, rfl, get, _, rfl, _, _, rfl, rfl, h0, rfl, decide (levelAt cs n % lv ≠ 0), ?_, ?_⟩
        · show V.bl (!decide (V.int (levelAt cs n % lv) = V.int 0)) = _
          by_cases z : levelAt cs n % lv = 0
          · rw [decide_eq_true (by rw [z]), decide_eq_false (by simpa using z)]
            rfl
          · rw [decide_eq_false (fun e => z (V.int.inj e)), decide_eq_true (by simpa using z)]
            rfl
        · by_cases z : levelAt cs n % lv = 0
          · rw [decide_eq_false (by simpa using z)]
            exact iteF (hZ _ (if_pos z) (Same.refl _))
          · rw [decide_eq_true (by simpa using z)]
            refine iteT ?_
            refine ⟨_, rfl, _, rfl, _, rfl, c, _, rfl, get, _, rfl, _, _, rfl, rfl, h0, (by show 2 ≤ sizeLine; decide), fun tp ntp => ?_⟩
            exact hR _ _ _ (if_neg z) (same_of ntp) ⟨tp, rfl, upd_same⟩
      · intro H2 ys s3 hD' hp'
        obtain ⟨bs, ey, hb⟩ := isp_all hp'
        subst ey
        refine ⟨D, _, rfl, SqL.of hD', fun t' o nt ho => ?_⟩
        have s4 := same_of (o := .frz o (.tup (bs.map V.ref))) nt
        have hb2 : Paired (fun a (q : Int × Int) => H2 a = some (.tup [.int q.1, .int q.2])) bs (tidy lv (levelAt cs) ns') := hb
        refine q t' (tidy lv (levelAt cs) ns') _ (s1.trans (s2.trans (s3.trans s4))) ⟨bs, ⟨o, upd_same, ho⟩, L2.Paired.mapP hb2 fun a r z => s4 _ _ z⟩ (tidy_asc h0 (lt_of_le_nodup asc ndn)) (fun p => ?_) (Nat.le_trans (tidy_len ns') hlen2)
        rw [tidy_at p ndn, hF]
        by_cases hp : p ∈ ns'
        · rw [if_pos hp]
        · rw [if_neg hp]
          have z := hF p
          rw [level_out (fun k => hp ((memo p).mpr k))] at z
          rw [← z]
          exact (Int.zero_emod lv).symm
end
end Lamp
set_option Elab.async false
set_option linter.all false
set_option maxRecDepth 100000
set_option maxHeartbeats 1000000
namespace Lamp
open PySem PySem.Spec PyProof.Rows L2
abbrev sCkMany : Stmt := top 82
abbrev sRol : Stmt := top 83
def spCkMany : Sp := fun vs H Q _ => ∃ i : Int, vs = [.int i] ∧ i ≤ 400 ∧ Q .non H
def spRol (K : PySem.W.Frag) (C : Addr) : Sp := fun vs H Q _ => ∃ (t : Addr) (lv fin : Int) (ls : List (Int × Int)), vs = [.int lv, .ref t, .int fin] ∧ goodLv lv ∧ PicAt K H t ls ∧ IsPicW lv ls ∧ ∀ a H', Same H H' → H a = none → RoundAt C H' a lv t fin → Q (.ref a) H'
/-- at a: a round of such a picture -/
structure RndW (K : PySem.W.Frag) (C : Addr) (H : Hp) (a : Addr) (lv fin : Int) (ls : List (Int × Int)) : Prop where
  ex : ∃ t, RoundAt C H a lv t fin ∧ PicAt K H t ls
  good : goodLv lv
  pic : IsPicW lv ls
theorem RndW.same {K : PySem.W.Frag} {C : Addr} {H H' : Hp} {a : Addr} {lv fin : Int} {ls : List (Int × Int)} (h : RndW K C H a lv fin ls) (s : Same H H') : RndW K C H' a lv fin ls := by
  obtain ⟨⟨t, h1, h2⟩, h3, h4⟩ := h
  exact ⟨⟨t, h1.same s, h2.same s⟩, h3, h4⟩
def spThen (K : PySem.W.Frag) (C : Addr) : Sp := fun vs H Q _ => ∃ (a b : Addr) (lv fin fin' : Int) (ls ls' : List (Int × Int)), vs = [.ref a, .ref b] ∧ RndW K C H a lv fin ls ∧ RndW K C H b lv fin' ls' ∧ ls.length + ls'.length < 401 ∧
  ∀ (r : Addr) (ms : List (Int × Int)) H', Same H H' → RndW K C H' r lv (fin + fin') ms → (∀ p, sumAt ms p = partsAt [⟨ls, 0, 1⟩, ⟨ls', fin, 1⟩] p % lv) → ms.length ≤ ls.length + ls'.length → Q (.ref r) H'
theorem Rising.w {lv : Int} {ls : List (Int × Int)} (h : Rising lv ls) (few : ls.length ≤ 400) : IsPicW lv ls := ⟨h.asc, h.lv, few⟩
theorem IsPicW.rise {lv : Int} {ls : List (Int × Int)} (h : IsPicW lv ls) : Rising lv ls := ⟨h.asc, h.lv⟩
theorem good_pos {lv : Int} (h : goodLv lv) : 0 < lv ∧ lv ≤ 7 := by
  rcases h with h | h | h | h <;> omega
theorem lev_small {lv : Int} {ls : List (Int × Int)} (h : goodLv lv) (p : IsPicW lv ls) : ∀ q ∈ ls, -100 ≤ q.2 ∧ q.2 ≤ 100 := fun q hq => by
  have := p.lv q hq
  have := good_pos h
  omega
section
variable {P : Program} {w : World} {K : PySem.W.Frag} {mg : Str → Option Value} {base : Heap} {C : Addr}
theorem scCkMany : FnScope ["many"] ["many"] (defScope sCkMany) := ⟨rfl, rfl, rfl, by decide +kernel, rfl, by decide +kernel, by decide +kernel⟩
theorem scRol : FnScope ["levels", "lamps", "end"] ["levels", "lamps", "end"] (defScope sRol) := ⟨rfl, rfl, rfl, by decide +kernel, rfl, by decide +kernel, by decide +kernel⟩
theorem ok_ckMany {f : Addr} {fd : FuncData} {t1 : Tok} (F : Fun K "check_many" "check_many" sCkMany f fd) (mML : mg "MOST_LAMPS" = some (.int 400 t1)) : FnOk P w K mg base CX0 1 f fd ["many"] spCkMany := by
  refine F.ok scCkMany (fun vs H Q E h => ?_) (fun cdv A outer s H vs Q E hr h => ?_)
  · obtain ⟨i, rfl, _⟩ := h
    rfl
  · obtain ⟨i, rfl, hi, q⟩ := h
    refine ⟨_, pss_one (ps_if (pt_cmpR op_gt (pv 0) (pe_glob (v := .int 400) rfl mML ⟨_, rfl⟩) (nomark _)) pss_never pss_nil), ?_⟩
    exact st_no (an_gt (val_var rfl) val_c (decide_eq_false (by omega))) q
theorem ok_rol {f : Addr} {fd : FuncData} (F : Fun K "round_of_lamps" "round_of_lamps" sRol f fd) (Cm : Dr P w K mg base spCkMany "check_many" ["many"] 1) (M : MkR P w K mg base C) (mR : mg "Round" = some (.ref C)) (ml : mg "len" = none) : FnOk P w K mg base CX0 6 f fd ["levels", "lamps", "end"] (spRol K C) := by
  refine F.ok scRol (fun vs H Q E h => ?_) (fun cdv A outer s H vs Q E hr h => ?_)
  · obtain ⟨t, lv, fin, ls, rfl, _⟩ := h
    rfl
  · obtain ⟨t, lv, fin, ls, rfl, hg, hp, hi, q⟩ := h
    refine ⟨_, pss_cons (ps_expr (pe_dr Cm (by decide) hr rfl (pa_cons (pe_callB call_len_seq (by rfl) ml PySem.boot_len (pa_cons (pv 1) pa_nil)) pa_nil)))
      (pss_one (ps_ret (pe_mkR M hr rfl mR (pa_cons (pv 0) (pa_cons (pv 1) (pa_cons (pv 2) pa_nil)))))), ?_⟩
    obtain ⟨as, ht, hlen, _⟩ := pair_get hp
    have few := hi.few
    refine ⟨_, rfl, t, _, rfl, .inr (.inl ht), _, rfl, ?_, ?_⟩
    · rw [List.length_map, hlen]; omega
    · exact ⟨_, rfl, _, rfl, _, rfl, lv, t, fin, rfl, ls, hg, hp, hi, q⟩
end
end Lamp
set_option Elab.async false
set_option linter.all false
set_option maxRecDepth 100000
set_option maxHeartbeats 1000000
namespace Lamp
/-! sums modulo the levels -/
def Cg (lv a b : Int) : Prop := a % lv = b % lv
section
variable {lv a b c d : Int}
theorem Cg.rfl' : Cg lv a a := rfl
theorem Cg.of (h : a = b) : Cg lv a b := by rw [h]; exact rfl
theorem Cg.symm (h : Cg lv a b) : Cg lv b a := Eq.symm h
theorem Cg.trans (h : Cg lv a b) (k : Cg lv b c) : Cg lv a c := Eq.trans h k
theorem Cg.add (h : Cg lv a b) (k : Cg lv c d) : Cg lv (a + c) (b + d) := by
  unfold Cg at *
  rw [Int.add_emod, h, k, ← Int.add_emod]
theorem Cg.mul (h : Cg lv a b) (n : Int) : Cg lv (n * a) (n * b) := by
  unfold Cg at *
  rw [Int.mul_emod, h, ← Int.mul_emod]
theorem Cg.neg (h : Cg lv a b) : Cg lv (-a) (-b) := by
  have z := h.mul (-1)
  rw [Int.neg_mul, Int.neg_mul, Int.one_mul, Int.one_mul] at z
  exact z
theorem Cg.mod : Cg lv (a % lv) a := Int.emod_emod_of_dvd a (Int.dvd_refl lv)
theorem Cg.md (h : a = b % lv) : Cg lv a b := by rw [h]; exact Cg.mod
end
theorem then_sum {ls ls' : List (Int × Int)} {fin p : Int} : partsAt [⟨ls, 0, 1⟩, ⟨ls', fin, 1⟩] p = sumAt ls p + sumAt ls' (p - fin) := by
  unfold partsAt partAt
  rw [List.map_cons, List.map_cons, List.map_nil, List.sum_cons, List.sum_cons, List.sum_nil, Int.one_mul, Int.one_mul, Int.add_zero, Int.sub_zero]
theorem undo_sum {ls : List (Int × Int)} {fin p : Int} : partsAt [⟨ls, -fin, -1⟩] p = -(sumAt ls (p + fin)) := by
  unfold partsAt partAt
  rw [List.map_cons, List.map_nil, List.sum_cons, List.sum_nil, Int.add_zero, Int.neg_mul, Int.one_mul, Int.sub_neg]
/-- pictures whose levels are the same modulo the levels are the same -/
theorem Rising.same {lv : Int} {ls ms : List (Int × Int)} (h1 : Rising lv ls) (h2 : Rising lv ms) (h0 : 0 < lv) (h : ∀ p, Cg lv (sumAt ls p) (sumAt ms p)) : ls = ms := h1.ext h2 fun p => by
  have a := h1.range h0 p
  have b := h2.range h0 p
  have z := h p
  unfold Cg at z
  rw [Int.emod_eq_of_lt a.1 a.2, Int.emod_eq_of_lt b.1 b.2] at z
  exact z
theorem undo_level {lv fin p : Int} : ∀ {ls : List (Int × Int)}, (∀ q ∈ ls, 1 ≤ q.2 ∧ q.2 < lv) → levelAt (undo lv fin ls) p = if levelAt ls (p + fin) = 0 then 0 else lv - levelAt ls (p + fin)
  | [], _ => rfl
  | q :: ls, h => by
    have h1 := h q (List.mem_cons_self ..)
    show levelAt ((q.1 - fin, lv - q.2) :: undo lv fin ls) p = _
    rw [levelAt_cons, levelAt_cons]
    by_cases e : q.1 = p + fin
    · rw [if_pos e, if_pos (show q.1 - fin = p by omega), if_neg (by omega)]
    · rw [if_neg e, if_neg (show ¬ q.1 - fin = p by omega), undo_level fun r hr => h r (List.mem_cons_of_mem _ hr)]
theorem undo_rise {lv fin : Int} {ls : List (Int × Int)} (h : Rising lv ls) : Rising lv (undo lv fin ls) := by
  refine ⟨?_, fun q hq => ?_⟩
  · have a := h.asc
    unfold undo
    rw [List.map_map]
    rw [List.pairwise_map] at a ⊢
    exact a.imp fun z => by show _ - fin < _ - fin; omega
  · obtain ⟨r, hr, rfl⟩ := List.mem_map.mp hq
    have z := h.lv r hr
    exact ⟨by show 1 ≤ lv - r.2; omega, by show lv - r.2 < lv; omega⟩
theorem undo_cg {lv fin p : Int} {ls : List (Int × Int)} (h : Rising lv ls) : Cg lv (sumAt (undo lv fin ls) p) (-(sumAt ls (p + fin))) := by
  rw [sum_levelAt (undo_rise h).nd, sum_levelAt h.nd, undo_level h.lv]
  by_cases z : levelAt ls (p + fin) = 0
  · rw [if_pos z, z]
    exact rfl
  · rw [if_neg z]
    unfold Cg
    rw [show lv - levelAt ls (p + fin) = -levelAt ls (p + fin) + lv * 1 by omega, Int.add_mul_emod_self_left]
theorem sum_take {ls : List (Int × Int)} {j : Nat} (h : j < ls.length) (p : Int) : sumAt (ls.take (j + 1)) p = sumAt (ls.take j) p + (if ls[j].1 = p then ls[j].2 else 0) := by
  rw [List.take_add_one, List.getElem?_eq_getElem h, sumAt_app]
  show _ + sumAt [ls[j]] p = _
  rw [sumAt_cons, sumAt_nil, Int.add_zero]
end Lamp
set_option Elab.async false
set_option linter.all false
set_option maxRecDepth 100000
set_option maxHeartbeats 1000000
namespace Lamp
open PySem PySem.Spec PyProof.Rows L2
abbrev sTidy : Stmt := top 160
/-- at l: a list of levels, picture and end -/
structure PartsB (K : PySem.W.Frag) (H : Hp) (l : Addr) (lv fin : Int) (ls : List (Int × Int)) : Prop where
  ex : ∃ t, H l = some (.lst [.int lv, .ref t, .int fin]) ∧ PicB K H t ls
  rise : Rising lv ls
theorem PartsB.same {K : PySem.W.Frag} {H H' : Hp} {l : Addr} {lv fin : Int} {ls : List (Int × Int)} (h : PartsB K H l lv fin ls) (s : Same H H') : PartsB K H' l lv fin ls := by
  obtain ⟨⟨t, h1, h2⟩, h3⟩ := h
  exact ⟨⟨t, s _ _ h1, h2.same s⟩, h3⟩
theorem PartsB.data {K : PySem.W.Frag} {H : Hp} {l : Addr} {lv fin : Int} {ls : List (Int × Int)} (h : PartsB K H l lv fin ls) : Dp K H (.ref l) (partsD lv ls fin) := by
  obtain ⟨⟨t, h1, h2⟩, _⟩ := h
  exact .lst (SqL.of h1) (.cons (.int _) (.cons (dp_pic h2.at) (.cons (.int _) .nil)))
theorem PartsAt.b {K : PySem.W.Frag} {H : Hp} {l t : Addr} {r : Parts} (h : PartsAt K H l t r) (p : IsPic r.lv r.ls) : PartsB K H l r.lv r.fin r.ls := ⟨⟨t, h.1, h.2⟩, ⟨p.asc, p.lv⟩⟩
def spTidy (K : PySem.W.Frag) : Sp := fun vs H Q _ => ∃ (lv : Int) (c : Addr) (cs : List (Int × Int)), vs = [.int lv, .ref c] ∧ H c = some (.dK (enc cs)) ∧ (cs.map (·.1)).Nodup ∧ cs.length < 401 ∧ 0 < lv ∧
  ∀ (t : Addr) (ms : List (Int × Int)) H', Same H H' → PicB K H' t ms → Rising lv ms → (∀ p, sumAt ms p = levelAt cs p % lv) → ms.length ≤ cs.length → Q (.ref t) H'
def spLThen (K : PySem.W.Frag) : Sp := fun vs H Q _ => ∃ (l m : Addr) (lv fin fin' : Int) (ls ls' : List (Int × Int)), vs = [.ref l, .ref m] ∧ PartsB K H l lv fin ls ∧ PartsB K H m lv fin' ls' ∧ 0 < lv ∧ ls.length + ls'.length < 401 ∧
  ∀ (l' : Addr) (ms : List (Int × Int)) H', Same H H' → PartsB K H' l' lv (fin + fin') ms → (∀ p, sumAt ms p = (sumAt ls p + sumAt ls' (p - fin)) % lv) → ms.length ≤ ls.length + ls'.length → Q (.ref l') H'
def spMate (K : PySem.W.Frag) : Sp := fun vs H Q _ => ∃ (p : Addr) (lv : Int), vs = [.ref p, .int lv] ∧ goodLv lv ∧ Pail H p ∧ ∀ (l t : Addr) (r : Parts) H', r.lv = lv → r.Ok → PartsAt K (delH H' p) l t r → Pail H' p → But p H H' → Q (.ref l) H'
section
variable {P : Program} {w : World} {K : PySem.W.Frag} {mg : Str → Option Value} {base : Heap} {C : Addr}
theorem scTidy : FnScope ["_law_p", "_law_chart", "_law_found", "_law_at", "_law_pair"] ["_law_p", "_law_chart"] (defScope sTidy) := ⟨rfl, rfl, rfl, by decide +kernel, rfl, by decide +kernel, by decide +kernel⟩
theorem ok_tidy {f : Addr} {fd : FuncData} (F : Fun K "_law_tidy" "_law_tidy" sTidy f fd) (mt : mg "tuple" = none) (ms : mg "sorted" = none) (ml : mg "list" = none) (mi : mg "int" = none) : FnOk P w K mg base CX0 1 f fd ["_law_p", "_law_chart"] (spTidy K) := by
  refine F.ok scTidy (fun vs H Q E h => ?_) (fun cdv A outer s H vs Q E hr h => ?_)
  · obtain ⟨lv, c, cs, rfl, _⟩ := h
    rfl
  · obtain ⟨lv, c, cs, rfl, hc, nd, h64, h0, q⟩ := h
    have hu := hu_of hr
    refine ⟨_, pss_cons (ps_setLc (i := 2) (own := [("_law_at", 3)]) (g := gName 3) (tt := tYes) rfl scTidy.nd rfl rfl (sw_true rfl rfl rfl rfl)
          (pi_list (pe_callB cr_sortedI (by rfl) ms (by decide +kernel) (pa_cons (pe_callTy (call_list_dK rfl) (by rfl) ml (by decide +kernel) (pa_cons (pv 1) pa_nil)) pa_nil)))
          (blkOk_by (own := [("_law_at", 3)]) (N := ["_law_p", "_law_chart", "_law_found", "_law_at", "_law_pair"]) (sc := defScope sTidy) (by decide +kernel)) (fun _ _ _ _ _ => pg_name (i := 3) scTidy.nd rfl (Or.inl rfl)) (fun _ _ _ _ _ => pts_nil)
          (fun _ _ _ _ _ => pe_tup (pa_cons (pv 3) (pa_cons (pe_op op_mod (pe_callTy call_int1 (by rfl) mi (by decide +kernel) (pa_cons (pe_dget hu (pv 1) (pv 3) (fun _ _ => rfl)) pa_nil)) (pv 0)) pa_nil))))
      (pss_one (ps_ret (pe_callTy call_tupB (by rfl) mt (by decide +kernel) (pa_cons (pe_lc (own := [("_law_pair", 4)]) (g := gName 4) rfl scTidy.nd (pi_list (pv 2))
          (blkOk_by (own := [("_law_pair", 4)]) (N := ["_law_p", "_law_chart", "_law_found", "_law_at", "_law_pair"]) (sc := defScope sTidy) (by decide +kernel)) (fun _ _ _ _ _ => pg_name (i := 4) scTidy.nd rfl (Or.inl rfl))
          (fun _ _ _ _ _ => pts_one (pt_cmpR op_ne (pe_ix (r := rIxT K) ix_tup (pv 4) pe_int (fun _ _ => rfl)) pe_int (nomark _)))
          (fun _ _ _ _ _ => pv 4)) pa_nil)))), ?_⟩
    have keys : (enc cs).map (fun kv => kV kv.1) = (cs.map (·.1)).map V.int := by
      unfold enc
      rw [List.map_map, List.map_map]
      rfl
    refine ⟨_, rfl, c, enc cs, rfl, hc, fun l nl => ⟨l, cs.map (·.1), rfl, SqL.of (by rw [upd_same, keys]), fun ns' sr perm asc nsr => ⟨sr, rfl, ⟨_, SqL.of upd_same⟩, fun D hD => ?_⟩⟩⟩
    have s1 : Same H (upd H l (.lst ((enc cs).map fun kv => kV kv.1))) := same_of nl
    have s2 := s1.trans (same_of (o := .lst (ns'.map V.int)) nsr)
    have ndn : ns'.Nodup := perm.nodup_iff.mpr nd
    have memo : ∀ n, n ∈ ns' ↔ n ∈ cs.map (·.1) := fun n => perm.mem_iff
    have hlen2 : ns'.length = cs.length := by rw [perm.length_eq, List.length_map]
    refine lc_genL (us := ns') (enc := V.int) (out := fun n => some (n, levelAt cs n % lv)) (Rel := IsP) isp_st hD (SqL.of upd_same) (by omega) ?_ ?_
    · intro i n H2 hn s3 R' Z' hR hZ
      have hv := val_some ((memo n).mp (List.mem_of_getElem? hn))
      have get : DGet H2 c (.int n) (some (.int (levelAt cs n))) := .inl ⟨enc cs, Sum.inl n, .inl (s3 _ _ (s2 _ _ hc)), rfl, hv.symm⟩
      refine ⟨rfl, ?_⟩
      refine ⟨_, rfl, _, rfl, _, rfl, c, _, rfl, get, .inl ⟨_, rfl, _, rfl, _, _, rfl, rfl, h0, (by show 2 ≤ sizeLine; decide), fun tp ntp => ?_⟩⟩
      exact hR _ _ _ rfl (same_of ntp) ⟨tp, rfl, upd_same⟩
    · intro H2 ys s3 hD2 hp2
      obtain ⟨as, ey, ha⟩ := isp_all hp2
      subst ey
      have eq : ns'.filterMap (fun n => some (n, levelAt cs n % lv)) = ns'.map fun n => (n, levelAt cs n % lv) := by rw [List.filterMap_eq_map']
      rw [eq] at ha
      have hal := Paired.length ha
      refine ⟨_, rfl, D, rfl, ⟨_, SqL.of hD2⟩, fun D2 hD2' => ?_⟩
      refine lc_genL (us := as.zip (ns'.map fun n => (n, levelAt cs n % lv))) (enc := fun u => V.ref u.1) (out := fun u => if u.2.2 = 0 then none else some u.2) (Rel := IsP) isp_st hD2' (by rw [zip_fst hal]; exact SqL.of hD2) (by rw [List.length_zip, List.length_map] at *; omega) ?_ ?_
      · intro i u H4 hu' s4 R' Z' hR hZ
        obtain ⟨hu1, hu2⟩ := zip_at hu'
        obtain ⟨q', hq', e⟩ := paired_get ha hu1
        rw [hu2] at hq'
        cases hq'
        have h4 := s4 _ _ e
        refine ⟨rfl, ?_⟩
        refine ⟨_, rfl, u.1, _, 1, _, rfl, rfl, SqT.of h4, rfl, rfl, decide (u.2.2 ≠ 0), ?_, ?_⟩
        · show V.bl (!decide (V.int u.2.2 = V.int 0)) = _
          by_cases z : u.2.2 = 0
          · rw [decide_eq_true (by rw [z]), decide_eq_false (by simpa using z)]
            rfl
          · rw [decide_eq_false (fun e => z (V.int.inj e)), decide_eq_true (by simpa using z)]
            rfl
        · by_cases z : u.2.2 = 0
          · rw [decide_eq_false (by simpa using z)]
            exact iteF (hZ _ (if_pos z) (Same.refl _))
          · rw [decide_eq_true (by simpa using z)]
            exact iteT ⟨_, rfl, hR _ _ _ (if_neg z) (Same.refl _) ⟨u.1, rfl, h4⟩⟩
      · intro H4 ys s4 hD4 hp4
        obtain ⟨bs, ey, hb⟩ := isp_all hp4
        subst ey
        rw [show (as.zip (ns'.map fun n => (n, levelAt cs n % lv))).filterMap (fun u => if u.2.2 = 0 then none else some u.2) = (as.zip (ns'.map fun n => (n, levelAt cs n % lv))).filterMap (fun u => (fun (r : Int × Int) => if r.2 = 0 then none else some r) u.2) from rfl, zip_out (fun (r : Int × Int) => if r.2 = 0 then none else some r) hal, List.filterMap_map] at hb
        have hb2 : Paired (fun a (q : Int × Int) => H4 a = some (.tup [.int q.1, .int q.2])) bs (tidy lv (levelAt cs) ns') := hb
        refine ⟨D2, _, rfl, SqL.of hD4, fun t' o nt ho => ?_⟩
        have s5 := same_of (o := .frz o (.tup (bs.map V.ref))) nt
        refine q t' (tidy lv (levelAt cs) ns') _ (s2.trans (s3.trans (s4.trans s5))) ⟨bs, ⟨o, upd_same, ho⟩, L2.Paired.mapP hb2 fun a r z => s5 _ _ z⟩ (tidy_asc h0 (lt_of_le_nodup asc ndn)) (fun p => ?_) (by rw [← hlen2]; exact tidy_len ns')
        rw [tidy_at p ndn]
        by_cases hp : p ∈ ns'
        · rw [if_pos hp]
        · rw [if_neg hp, level_out (fun k => hp ((memo p).mpr k))]
          exact (Int.zero_emod lv).symm
end
end Lamp
set_option Elab.async false
set_option linter.all false
set_option maxRecDepth 100000
set_option maxHeartbeats 1000000
namespace Lamp
open PySem PySem.Spec PyProof.Rows L2
/-! exceptions raised, and asked of where they are handled -/
section
variable {X : Cx} {W : WX} {e : Expr} {te : TE} {pos : Pos}
/-- an expression that gives a new exception of the program, as what is raised -/
theorem pmk_xo (noEx : X.ex = []) (he : PE X e te) : PMk X e (fun σ H Q => te σ H fun x H1 => ∃ (a C : Addr) (d : Option Addr), x = .ref a ∧ H1 a = some (exo a C d) ∧ Fr0 X.H_0 a ∧ Raises X (.ref C) ∧ Q (.ref C) d (delH H1 a)) := by
  intro pins s σ H Q I told
  refine wpAny_mono (he.run pins s σ H _ I told) (fun u s1 made => ?_) fun _ _ z => z
  obtain ⟨v, H1, I1, rel, a, C, d, rfl, at_, fr, rs, q⟩ := made
  cases rel
  obtain ⟨t1, there⟩ := exo_at I1.hok at_
  obtain ⟨G, sub, gone, J⟩ := I1.untrack at_ fr noEx
  exact ⟨a, _, _, { s1 with heap := G }, delH H1 a, .ref C, d, rfl, J, sub, gone, there, ⟨rfl, rfl⟩, rfl, rfl, delH_same, rfl, I1.bare, rs, q⟩
theorem raises_ec {C : Addr} {B newId initId : String} {tail : List Value} (T : EC X.K C B newId initId tail) (ty : PySem.W.typeIn X.K (.ref C) = some (.type "type")) : Raises X (.ref C) := raises_own T.exC ty
end
/-! an exception that is handled, at p -/
/-- the exception's class and its dict -/
structure Pinned (p : Addr × Obj) (D dd : Addr) : Prop where
  z : Zc (.ref D) (some dd) p.2
  f : ∃ vs, p.2.data = .fields vs
section
variable {X : Cx} {p : Addr × Obj} {D dd : Addr}
theorem pinned_inst {pins : List (Addr × Obj)} {σ : L2.St} {H : Hp} {s : Shared} {fs : List (Str × V)} (I : Inv X pins σ H s) (hp : p ∈ X.pn) (Z : Pinned p D dd) (hd : H dd = some (exd dd fs)) : ∃ (mA : Str → Option Value) (o : Obj), PySem.W.InstAt s.heap p.1 p.2 D (some o) ∧ s.heap.Ns1 dd mA ∧ (∀ f, RelO (fs.lookup f) (mA f)) ∧ s.heap.get? dd = some o := by
  obtain ⟨⟨h1, h2⟩, vs, h3⟩ := Z
  obtain ⟨mA, nm, rel⟩ := exd_at I.hok hd
  obtain ⟨o, es, ep, ho, r⟩ := id nm
  have pin := (I.pin p (List.mem_append_left _ hp)).1
  exact ⟨mA, o, ⟨pin, h1, by unfold PySem.W.notCls; rw [h3] <;> rfl, by rw [h2]; exact ho⟩, nm, rel, ho⟩
/-- isinstance(e, c) of it -/
def rIsP (K : PySem.W.Frag) (a D dd : Addr) : List V → Hp → VK → Prop := fun xs H Q => ∃ (c : V) (u : Value) (b : Bool) (fs : List (Str × V)), xs = [.ref a, c] ∧ H dd = some (exd dd fs) ∧ ClsV c u ∧ PySem.W.kitOne K (.ref D) u = some b ∧ Q (.bl b) H
theorem call_isP (G : ClsG X.K) (T : ∃ (B newId initId : String) (tail : List Value), EC X.K D B newId initId tail) (hp : p ∈ X.pn) (Z : Pinned p D dd) : CallR X (.builtin "isinstance") (rIsP X.K p.1 D dd) := by
  intro pins s σ H xs us Q I r h
  obtain ⟨c, cv, b, fs, rfl, hd, hc, hk, q⟩ := h
  obtain ⟨u1, u2, rfl, r1, r2⟩ := vals2 r
  have e1 : u1 = Value.ref p.1 := r1
  subst e1
  have e2 := hc.eq r2
  subst e2
  obtain ⟨mA, o, J, _⟩ := pinned_inst I hp Z hd
  obtain ⟨B, newId, initId, tail, T⟩ := T
  have isCls : (PySem.W.clsIn X.K D).isSome = true := by
    obtain ⟨cd, hcd, _⟩ := PySem.W.any_some T.hd
    rw [hcd]
    rfl
  exact PySem.W.kia_one (PySem.W.kitx_exc isCls T.ga T.gg T.exC T.cls G.get G.tak T.obj) I.kIn J hk (fun z => nomatch z) fun tk => ⟨.bl b, H, I.tok tk, rfl, q⟩
/-- e.f of it -/
def tXfP (a dd : Addr) (f : Str) (te : TE) : TE := fun σ H Q => te σ H fun x H1 => x = .ref a ∧ ∃ (fs : List (Str × V)) (y : V), H1 dd = some (exd dd fs) ∧ fs.lookup f = some y ∧ Q y H1
theorem pe_xfP {e : Expr} {te : TE} {pos : Pos} {f : Str} (T : ∃ (B newId initId : String) (tail : List Value), EC X.K D B newId initId tail) (hno : PySem.W.findIn X.K (.ref D) f = some none) (hp : p ∈ X.pn) (Z : Pinned p D dd) (he : PE X e te)
    (hb : attributeBase e f X.env (eval e X.env) = eval e X.env := by rfl) : PE X (.Attribute e f pos) (tXfP p.1 dd f te) := by
  refine ⟨fun pins s σ H Q I h => attr_of hb (thn (he.run pins s σ H _ I h) fun u s1 ⟨x, H1, I1, r1, told⟩ => ?_)⟩
  obtain ⟨ex, fs, y, hd, hl, q⟩ := told
  subst ex
  have eu : u = Value.ref p.1 := r1
  subst eu
  obtain ⟨B, newId, initId, tail, T⟩ := T
  obtain ⟨mA, o, J, named, rel, ho⟩ := pinned_inst I1 hp Z hd
  obtain ⟨od, hod, look⟩ := lookIn_ns named
  rw [ho] at hod
  cases hod
  have rf := rel f
  rw [hl] at rf
  obtain ⟨v, hv, rv⟩ := RelO.some_of (v := y) (o := mA f) rf
  exact HandSPX.exc_get I1.kIn J T.ga T.gg T.exC (PySem.W.findObj_own T.hd hno rfl (by rw [look, hv])) (handed_of rv) ⟨y, H1, I1.tok _, rv, q⟩
end
/-! a def that is called where an exception is handled: what it promises of it -/
abbrev SpP := Addr → Addr → Addr → Sp
structure FnP (P : Program) (w : World) (K : PySem.W.Frag) (mg : Str → Option Value) (base : Heap) (k : Nat) (f : Addr) (fd : FuncData) (ps : List Str) (sp : SpP) : Prop where
  many : ∀ a D dd vs H Q E, sp a D dd vs H Q E → vs.length = ps.length
  goes : ∀ (A : Around) (out : List Env) (s : Shared) (H : Hp) (ar : Args) (us : List Value) (vs : List V) (Q : VK) (p : Addr × Obj) (D dd : Addr), A.guards = some [] → L2H.RoomH k A → L2H.PinOk out H s p → Pinned p D dd → Env0 P w K mg base A out s H →
    BindsTo s fd ar (ps.zip us) → Vals vs us → sp p.1 D dd vs H Q E0 → codeAny (model P w) A (.call (.ref f) ar) (CR CX0 out P w H s Q E0) s
section
variable {P : Program} {w : World} {K : PySem.W.Frag} {mg : Str → Option Value} {base : Heap}
/-- the rule for such a def, by its body -/
theorem okP {x qual : Str} {st : Stmt} {f : Addr} {fd : FuncData} {N ps : List Str} {k : Nat} {sp : SpP} (F : Fun K x qual st f fd) (S : FnScope N ps (defScope st)) (len : ∀ a D dd vs H Q E, sp a D dd vs H Q E → vs.length = ps.length)
    (hbody : ∀ (cdv : Value) (A : Around) (outer : List Env) (s : Shared) (H : Hp) (vs : List V) (Q : VK) (p : Addr × Obj) (D dd : Addr), A.guards = some [] → L2H.RoomH k (A.deeper (envOfC qual (defScope st) s.heap.objs.size f cdv)) → Pinned p D dd → sp p.1 D dd vs H Q E0 →
      ∃ t, PSs (L2H.cxH CX0 P w K mg base N qual (defScope st) f cdv A outer s H E0 p).nox (defBody st) t ∧ t { nx := fun _ H' => Q .non H', rt := Q } (start N vs) H) : FnP P w K mg base (k + 1) f fd ps sp := by
  obtain ⟨oc, od, kV, doc, pm, an, cdv, ct, osl, efd, hlk, hcode⟩ := F.ex
  subst efd
  refine ⟨len, fun A out s H ar us vs Q p D dd hgd hroom hpin hz hst hbind hvals hs => ?_⟩
  have hcount := len _ _ _ _ _ _ _ hs
  have inK : K.In s.heap := hst.mod.kin.keeps fun b o e => (hst.bs b o e).1
  have noLim : s.heap.NoLimit := hst.mod.nolimit.keeps fun b o e => (hst.bs b o e).1
  refine codeAny_call_function hroom.depth (inK _ _ hlk) rfl S.co S.gen rfl (PySem.W.codeRec_of inK hcode) (hbind _ _ _ _ ?_)
  refine wpAny_newFunctionEnv_cells S.kind (fun y hy => ?_) fun env eenv s1 xin => ?_
  · obtain ⟨nm, val⟩ := y
    cases S.par nm (List.of_mem_zip hy).1 with
    | inl isLocal => exact .inl isLocal
    | inr isCell => exact .inr ⟨isCell, PySem.W.cellsFrom_some _ _ _ (.inl isCell)⟩
  subst eenv
  refine ⟨noLim.keeps xin.toInCall.keep, codeAny_func ?_⟩
  obtain ⟨t, ht0, hq⟩ := hbody cdv A out s H vs Q p D dd hgd (hroom.deeper _) hz hs
  have ht := ht0.nox
  have inv0 : Inv (L2H.cxH CX0 P w K mg base N qual (defScope st) f cdv A out s H E0 p) [] (start N vs) H s1 := L2H.inv_startH S hpin hst hcount hvals xin
  have fin : ∀ {σ' : L2.St} {H' : Hp} {v : V} {u : Value} {s' : Shared}, Inv (L2H.cxH CX0 P w K mg base N qual (defScope st) f cdv A out s H E0 p) [] σ' H' s' → RelV v u → Q v H' → CE out P w H s Q u s' := fun J rv q => ⟨_, _, J.os, J.bare, J.base, J.hok, rv, q⟩
  refine wpAny_mono (ht.run [] s1 (start N vs) H _ inv0 hq) (fun flow s' told => ?_) fun e s' told => told
  match flow, told with
  | .ret u, ⟨v, σ', H', J, rv, q⟩ => exact fin J rv q
  | .next, ⟨σ', H', J, q⟩ => exact fin (v := V.non) (u := Value.none) J rfl q
  | .brk, ⟨_, _, _, q⟩ => exact False.elim q
  | .cont, ⟨_, _, _, q⟩ => exact False.elim q
end
section
variable {X : Cx} {k : Nat} {f : Addr} {fd : FuncData} {ps : List Str} {sp : SpP} {x : Str} {q pos : Pos} {e : Expr} {es : List Expr} {t : TA} {p : Addr × Obj} {D dd : Addr}
theorem runP {pins : List (Addr × Obj)} {σ : L2.St} {H : Hp} {s : Shared} {Q : VK} {us : List Value} {vs : List V} (F : FnP X.prog X.w X.K X.mg X.base k f fd ps sp) (hgd : X.A.guards = some []) (hr : L2H.RoomH k X.A) (hp : p ∈ X.pn) (Z : Pinned p D dd) (hb : Binds X.K fd ps [])
    (I : Inv X pins σ H s) (r : Vals vs us) (h : sp p.1 D dd vs H Q E0) : wpAny (model X.prog X.w) X.A (call (.ref f) us) (EP X pins σ Q) X.xe s := by
  have hl : (us ++ []).length = ps.length := by rw [List.append_nil, ← r.length]; exact F.many _ _ _ _ _ _ _ h
  have hbb := hb s us I.kIn hl
  rw [List.append_nil] at hbb
  obtain ⟨g1, g2, g3, g4, g5⟩ := I.pin p (List.mem_append_left _ hp)
  have pin : L2H.PinOk X.stack H s p := ⟨g1, g2, fun hm => (List.mem_cons.mp (I.stkSub p.1 hm)).elim g3 g4, g5⟩
  refine wpAny_call (codeAny_mono (F.goes X.A X.stack s H ⟨us, []⟩ us vs Q p D dd hgd hr pin Z I.env0 hbb r h) fun res s' told => ?_)
  match res, told with
  | .error _, told => exact False.elim told
  | .ok (.ret u), told => exact I.after told
  | .ok .next, told => exact False.elim told
  | .ok .brk, told => exact False.elim told
  | .ok .cont, told => exact False.elim told
/-- f(e, ..), where p is handled -/
theorem pe_callP (F : FnP X.prog X.w X.K X.mg X.base k f fd ps sp) (hgd : X.A.guards = some []) (hr : L2H.RoomH k X.A) (hp : p ∈ X.pn) (Z : Pinned p D dd) (hg : Gl X x) (hm : X.mg x = some (.ref f)) (hk : PySem.W.keepIn X.K (.ref f) = true) (hb : Binds X.K fd ps [])
    (ha : PA X (e :: es) t) (hdb : (x == ("__debug__" : Str)) = false := by decide) (he : starEach (e :: es) X.env = (false, eval e X.env) :: starEach es X.env := by rfl) (hpl : (backTo pos (starEach es X.env)).any (·.1) = false := by rfl) :
    PE X (.Call (.Name x q) (e :: es) [] pos) (tCallG (sp p.1 D dd) t) :=
  ⟨fun pins s σ H Q I h => wpAny_Call_Name_kw (ld_glob I hg hm (PySem.W.callWith_K (h₀ := X.base) I.ok.mod.kin hk (thn (ha.run pos pins s σ H _ I h) fun us s1 ⟨vs, H1, I1, r, q⟩ =>
    ⟨I1.kIn, runP F hgd hr hp Z hb I1 r q⟩) he hpl) hdb)⟩
end
end Lamp
set_option Elab.async false
set_option linter.all false
set_option maxRecDepth 100000
set_option maxHeartbeats 1000000
namespace Lamp
open PySem PySem.Spec PyProof.Rows L2
/-! try: body, except (A, B, C) as n: suite, where all that is raised is one of them -/
/-- a flying exception stays so when objects are laid -/
theorem flying_on {B h h' : Heap} {l : List Env} {a : Addr} {Z : Obj → Prop} (x : HandSPX.FlyingZ B l a Z h) (k : ∀ b o, h.get? b = some o → h'.get? b = some o) : HandSPX.FlyingZ B l a Z h' := by
  obtain ⟨g1, g2, g3, oe, vs, T, oT, ts, e1, e2, e3, e4, e5, e6, e7, e8, e9⟩ := x
  exact ⟨fun b o e => k b o (g1 b o e), g2, g3.of_keeps fun b o e _ => ⟨o, k b o e, rfl⟩, oe, vs, T, oT, ts, k _ _ e1, e2, e3, e4, e5, e6, k _ _ e7, e8, e9⟩
/-- the ends of a suite, behind which slot i is gone -/
def offI (i : Nat) (D : Ends) : Ends := { nx := fun σ' H' => D.nx (σ'.set i none) H', rt := D.rt, bk := fun σ' H' => D.bk (σ'.set i none) H', ct := fun σ' H' => D.ct (σ'.set i none) H' }
def wTup (K : PySem.W.Frag) (c1 c2 c3 : Value) (m i : Nat) (ts : Addr → Value → Option Addr → TS) (D : Ends) : WX := fun cls d σ H => σ.length = m →
  PySem.W.exmAny K cls [c1, c2, c3] = some true ∧ ∀ a, H a = none → ts a cls d (offI i D) (σ.set i (some (.ref a))) H
section
variable {X : Cx} {x1 x2 x3 n : Str} {c1 c2 c3 : Value} {i kk : Nat} {body suite : List Stmt} {b0 : Stmt} {p1 p2 p3 tp pos pos' : Pos} {tb : WX → TS} {ts : Addr → Value → Option Addr → TS}
theorem name_at {Y : Cx} {pins : List (Addr × Obj)} {σ : L2.St} {H : Hp} {s : Shared} {x : Str} {c : Value} {p : Pos} {Q : Value → Shared → Prop} {E : Value → Shared → Prop} (hc : Names Y x c) (I : Inv Y pins σ H s) (q : Q c s) : wpAny (model Y.prog Y.w) Y.A (eval (.Name x p) Y.env) Q E s := by
  obtain ⟨hg, hdbg, hm | ⟨hm, hv, hnn⟩⟩ := hc
  · exact ld_glob I hg hm q hdbg
  · exact ld_blt I hg hm hv q hnn hdbg
theorem ps_try_tup (onTop : X.stack = X.env :: X.outer) (framed : X.env.frame = some X.env.locals) (nodup : X.N.Nodup) (isN : X.N[i]? = some n) (isLoc : X.env.kindOf n = some .local) (n1 : Names X x1 c1) (n2 : Names X x2 c2) (n3 : Names X x3 c3)
    (inBody : ∀ (W : WX) (pn : List (Addr × Obj)) (xe : Value → Shared → Prop), Takes (X.tr pn xe) W → PassesOwn (model X.prog X.w) X.A X.env xe → PSs (X.tr pn xe) body (tb W))
    (inSuite : ∀ (a : Addr) (oe : Obj) (cls : Value) (d : Option Addr) (pn : List (Addr × Obj)), Zc cls d oe → (∃ vs, oe.data = .fields vs) → PSs (X.suite a ((a, oe) :: pn)) (b0 :: suite) (ts a cls d)) :
    PS X (.Try body [.ExceptHandler (some (.Tuple [.Name x1 p1, .Name x2 p2, .Name x3 p3] kk tp)) (some n) (b0 :: suite) pos'] [] [] pos) (fun D σ H => tb (wTup X.K c1 c2 c3 X.N.length i ts D) D σ H) := by
  refine ⟨fun pins s σ H D I told => wpAny_Try_except ?_⟩
  have xok := I.ok
  have frames : X.A.frames = some (X.env :: X.outer) := by rw [xok.frames, onTop]
  have isOwn : Loc X.env.scope n := .inl isLoc
  refine wpAny_mono ((inBody (wTup X.K c1 c2 c3 X.N.length i ts D) (X.pn ++ pins) _ (fun u s' air => ?_) PassesOwn.looking).run [] s σ H D (I.toTry _) told) (fun f s1 ended => ?_) (fun e s1 z => z)
  · obtain ⟨a, B, sI, pins', σ', H', cls, d, rfl, J', ground, ups, sky, na, os, ag, hits0⟩ := air
    have J : Inv X pins σ' H' sI := J'.ofTry xok
    obtain ⟨hits, q⟩ := hits0 J.len
    have sky' : Sky B (X.env :: X.outer) a (Zc cls d) X.env.locals s'.heap := by rw [← onTop]; exact sky
    show wpAny (model X.prog X.w) X.A (noteFrame (.ref a) X.env) _ _ _
    refine Sky.land Zc.steady frames framed sky' fun h3 fl3 up3 => ?_
    have J3 : Inv X pins σ' H' { s' with heap := h3 } := J.landed ground fl3.1 (ups.trans up3) os ag
    obtain ⟨oe3, vs3, he3, hz3, hd3⟩ := fl3.there
    have nfr : a ∉ frs (X.env :: X.outer) := fun hm => by
      obtain ⟨_, o', e', plain⟩ := fl3.2.2.1.mem hm
      rw [he3] at e'
      cases e'
      exact plain _ hd3
    have nL : a ≠ X.env.locals := fun z => nfr (List.mem_filterMap.mpr ⟨X.env, List.mem_cons_self, by rw [framed, z]⟩)
    have nF : a ∉ X.fs := fun hm => by
      obtain ⟨e, he, r⟩ := List.mem_filterMap.mp hm
      exact nfr (List.mem_filterMap.mpr ⟨e, List.mem_cons_of_mem _ he, r⟩)
    have S3 := J3.suite he3 hd3 na nL nF
    refine wpAny_handleBy_cons (codeAny_handlers_test ?_) (by intro q; cases q)
    have kp : ∀ b o, h3.get? b = some o → (h3.push { cls := .type "tuple", data := .seq [c1, c2, c3].toArray }).get? b = some o := fun _ _ z => Heap.get?_push_of_some _ z
    have fl4 := flying_on fl3 kp
    have LT : PySem.W.Looks (model X.prog X.w) (h3.push { cls := .type "tuple", data := .seq [c1, c2, c3].toArray }) (typeOf (.ref a)) cls := fun A Q E s k q => wpAny_typeOf_ref (k _ _ (kp _ _ he3)) (by rw [hz3.1]; exact q)
    have LM := PySem.W.exm_tup3 (M := model X.prog X.w) (J3.kIn.keeps kp) LT (Heap.get?_push_size h3 rfl) hits
    have m1 : Names (X.suite a ((a, oe3) :: (X.pn ++ pins))) x1 c1 := n1
    have m2 : Names (X.suite a ((a, oe3) :: (X.pn ++ pins))) x2 c2 := n2
    have m3 : Names (X.suite a ((a, oe3) :: (X.pn ++ pins))) x3 c3 := n3
    show wpAny (model X.prog X.w) (X.A.mark (some (.ref a))) _ _ _ _
    refine wpAny_Tuple (wpAny_items_cons (name_at m1 S3 (wpAny_items_cons (name_at m2 S3 (wpAny_items_cons (name_at m3 S3 (wpAny_items_nil ⟨by size_fits, ?_⟩)))))))
    refine LM.here ?_
    refine codeAny_handlers_suite_as ?_
    refine HandSPX.lands_againZ fl4 fun h5 fl5 up5 => ?_
    have upK : h3.UpToSlots (h3.push { cls := .type "tuple", data := .seq [c1, c2, c3].toArray }) := Heap.UpToSlots.of_keeps kp
    have J5 : Inv X pins σ' H' { s' with heap := h5 } := J.landed ground fl5.1 (((ups.trans up3).trans upK).trans up5) os ag
    obtain ⟨oe5, vs5, he5, hz5, hd5⟩ := fl5.there
    have S5 := J5.suite he5 hd5 na nL nF
    refine store_ok (X := X.suite a ((a, oe5) :: (X.pn ++ pins))) (v := .ref a) S5 nodup isN isOwn rfl (fun s6 S6 => ?_) (.inr isLoc)
    refine wpAny_mono ((inSuite a oe5 cls d (X.pn ++ pins) hz5 ⟨_, hd5⟩).run [] s6 _ H' _ S6 (q a na)) (fun f s7 ended => ?_) (fun _ _ z => False.elim z)
    have behind : ∀ {σ7 : L2.St} {H7 : Hp} {Q : Shared → Prop}, Inv (X.suite a ((a, oe5) :: (X.pn ++ pins))) [] σ7 H7 s7 → (∀ s8, Inv X pins (σ7.set i none) H7 s8 → Q s8) →
        wpAny (model X.prog X.w) X.A (do bindName X.env n .none; unbindBehindTheSuite X.env n pos') (fun _ s8 => Q s8) X.xe s7 := fun S7 hq => gone_ok (S7.unsuite xok) nodup isN isLoc hq
    match f, ended with
    | .next, ⟨_, _, S7, q7⟩ => exact behind S7 fun s8 J8 => ⟨_, _, J8, q7⟩
    | .brk, ⟨_, _, S7, q7⟩ => exact behind S7 fun s8 J8 => ⟨_, _, J8, q7⟩
    | .cont, ⟨_, _, S7, q7⟩ => exact behind S7 fun s8 J8 => ⟨_, _, J8, q7⟩
    | .ret u, ⟨_, _, _, S7, r7, q7⟩ => exact behind S7 fun s8 J8 => ⟨_, _, _, J8, r7, q7⟩
  · match f, ended with
    | .next, ⟨_, _, J', r⟩ => exact wpAny_execs_nil ⟨_, _, J'.ofTry xok, r⟩
    | .brk, ⟨_, _, J', r⟩ => exact ⟨_, _, J'.ofTry xok, r⟩
    | .cont, ⟨_, _, J', r⟩ => exact ⟨_, _, J'.ofTry xok, r⟩
    | .ret u, ⟨_, _, _, J', v, r⟩ => exact ⟨_, _, _, J'.ofTry xok, v, r⟩
end
end Lamp
set_option Elab.async false
set_option linter.all false
set_option maxRecDepth 100000
set_option maxHeartbeats 1000000
namespace Lamp
open PySem PySem.Spec PyProof.Rows L2
/-! xs.count(True), and what else an error's sorting needs -/
def rCntD (K : PySem.W.Frag) : V → List V → Hp → VK → Prop := fun x xs H Q => ∃ (a : Addr) (vs : List V) (y : V) (ds : List PyData) (d : PyData), x = .ref a ∧ xs = [y] ∧ SqL K H a vs ∧ DpAll K H vs ds ∧ Dp K H y d ∧ PyData.plainAll ds = true ∧ d.plain = true ∧ min (PyData.depthAll ds) d.depth ≤ 60 ∧
  Q (.int ((ds.countP fun z => PyData.eqv z d : Nat) : Int)) H
theorem mt_cntD {X : Cx} (hu : X.A.units + 64 < cLine) : MtR X "list.count" (rCntD X.K) := by
  intro pins s σ H x xs v us Q I rx rxs h
  obtain ⟨a, vs, y, ds, d, rfl, rfl, hs, hds, hd, p1, p2, hdep, q⟩ := h
  cases rx
  obtain ⟨u, rfl, ru⟩ := rxs.one
  obtain ⟨its, rv, ⟨o, n, ho, hc, hdn, hdt⟩, hlen⟩ := I.list hs
  obtain ⟨as, r1⟩ := Dp.readsAll I ds vs its hds rv
  obtain ⟨bs, r2⟩ := Dp.reads I d y u hd ru
  refine PySem.SeqAt.count_list_data (xs := ds) (d := d) ⟨o, ho, hc, n, hdt⟩ (by simpa using r1) r2 p1 p2 (by omega) ?_
  exact ⟨.int ((ds.countP fun z => PyData.eqv z d : Nat) : Int), H, I.tok _, ⟨s.toks, rfl⟩, q⟩
section
variable {K : PySem.W.Frag} {σ : L2.St} {H : Hp} {i : Nat} {a D D' dd : Addr} {b : Bool} {fs : List (Str × V)}
theorem v_isP (h : σ[i]? = some (some (.ref a))) (hd : H dd = some (exd dd fs)) (hk : PySem.W.kitOne K (.ref D) (.ref D') = some b) :
    Val (tCB (rIsP K a D dd) (tCons (tVar i) (tCons (tC (.ref D')) tNil))) σ H (.bl b) := fun Q q => ⟨_, h, _, _, b, fs, rfl, hd, .own D', hk, q⟩
theorem v_isPT {n : String} (h : σ[i]? = some (some (.ref a))) (hd : H dd = some (exd dd fs)) (hk : PySem.W.kitOne K (.ref D) (.type n) = some b) :
    Val (tCB (rIsP K a D dd) (tCons (tVar i) (tCons (tC (.ty n)) tNil))) σ H (.bl b) := fun Q q => ⟨_, h, _, _, b, fs, rfl, hd, .ty n, hk, q⟩
theorem v_xfP {f : Str} {y : V} (h : σ[i]? = some (some (.ref a))) (hd : H dd = some (exd dd [(f, y)])) : Val (tXfP a dd f (tVar i)) σ H y := fun Q q => ⟨_, h, rfl, _, y, hd, by rw [List.lookup_cons, beq_self_eq_true], q⟩
theorem dp_bools {l : Addr} {bs : List Bool} (h : H l = some (.lst (bs.map V.bl))) : Dp K H (.ref l) (.list (bs.map PyData.bool)) := by
  refine .lst (SqL.of h) ?_
  clear h
  induction bs with
  | nil => exact .nil
  | cons c r ih => exact .cons (.bl c) ih
theorem dpAll_bools : ∀ {bs : List Bool}, DpAll K H (bs.map V.bl) (bs.map PyData.bool)
  | [] => .nil
  | c :: r => .cons (.bl c) dpAll_bools
end
end Lamp
set_option Elab.async false
set_option linter.all false
set_option maxRecDepth 100000
set_option maxHeartbeats 1000000
namespace Lamp
open PySem PySem.Spec PyProof.Rows L2 LamX
/-! a def that calls what it got, and tells what it gives back, or what it raises -/
/-- what it makes of the lambda's reading -/
abbrev ansN : List Str := ["_law_call_here", "_law_got", "_law_e"]
def backE (f : Addr) (Q : VK) : VK := fun v H' => tRet (tLst (tCons (tC (.str "back")) (tCons (tVar 1) tNil))) { nx := fun _ H' => Q .non H', rt := Q } ((L2.start ansN [.ref f]).set 1 (some v)) H'
theorem back_run {f : Addr} {Q : VK} {v : V} {H' : Hp} (q : ∀ l, H' l = none → Q (.ref l) (upd H' l (.lst [.str "back", v]))) : backE f Q v H' := ⟨v, rfl, (by show 2 ≤ sizeLine; decide), q⟩
def raisE (K : PySem.W.Frag) (c1 c2 c3 : Value) (sp : SpP) (Q : VK) : XK := fun cls d H' => ∃ D dd, cls = .ref D ∧ d = some dd ∧ PySem.W.exmAny K cls [c1, c2, c3] = some true ∧ ∀ a, H' a = none → sp a D dd [.ref a] H' Q E0
def TTans (K : PySem.W.Frag) (c1 c2 c3 : Value) (sp : SpP) : (XK → Hp → VK → Prop) → Hp → VK → Prop := fun tl H Q => ∀ f, tl (raisE K c1 c2 c3 sp Q) H (backE f Q)
/-- its suite -/
def tSuiteA (sp : SpP) (a : Addr) (cls : Value) (d : Option Addr) : TS := fun D' σ H => ∃ D dd, cls = .ref D ∧ d = some dd ∧ tRet (tCallG (sp a D dd) (tCons (tVar 2) tNil)) D' σ H
section
variable {P : Program} {w : World} {K : PySem.W.Frag} {mg : Str → Option Value} {base : Heap}
/-- what is known of the def that sorts errors -/
structure SortR (P : Program) (w : World) (K : PySem.W.Frag) (mg : Str → Option Value) (base : Heap) (sp : SpP) (k : Nat) : Prop where
  ex : ∃ (f : Addr) (fd : FuncData), FnP P w K mg base k f fd ["_law_e"] sp ∧ Binds K fd ["_law_e"] [] ∧ mg "_law_sort" = some (.ref f) ∧ PySem.W.keepIn K (.ref f) = true
theorem ans_gives {X : Cx} {x q : Str} {sg : Scope} {g cA cB cC : Addr} {cdg : Value} {k j1 j2 : Nat} {sp : SpP} {p1 p2 p3 p4 p5 p6 p7 p8 p9 p10 p11 p12 p13 p14 p15 p16 p17 p18 : Pos} (hgd : X.A.guards = some []) (hr : Room (k + 1) X.A) (S : SortR X.prog X.w X.K X.mg X.base sp k)
    (Sg : FnScope ansN ["_law_call_here"] sg) (mA : X.mg "WrongValue" = some (.ref cA)) (mB : X.mg "WrongName" = some (.ref cB)) (mC : X.mg "NotPossible" = some (.ref cC)) (v1 : sg.names.lookup ("_law_got" : Str) = some NameKind.local) (v2 : sg.names.lookup ("_law_e" : Str) = some NameKind.local)
    (gA : sg.names.lookup ("WrongValue" : Str) = some .globalImplicit) (gB : sg.names.lookup ("WrongName" : Str) = some .globalImplicit) (gC : sg.names.lookup ("NotPossible" : Str) = some .globalImplicit) (gS : sg.names.lookup ("_law_sort" : Str) = some .globalImplicit) :
    GivesTo X ansN x sg g cdg [.Try [.Assign [.Name "_law_got" p1] (.Call (.Name "_law_call_here" p2) [] [] p3) p4] [.ExceptHandler (some (.Tuple [.Name "WrongValue" p5, .Name "WrongName" p6, .Name "NotPossible" p7] j1 p8)) (some "_law_e") [.Return (some (.Call (.Name "_law_sort" p9) [.Name "_law_e" p10] [] p11)) p12] p13] [] [] p14,
      .Return (some (.List [.Constant (.str "back") j2 p15, .Name "_law_got" p16] p17)) p18] "_law_call_here" q (TTans X.K (.ref cA) (.ref cB) (.ref cC) sp) := by
  intro f c' s H Q tl act hc h
  obtain ⟨fS, fdS, F, b, m, kp⟩ := S.ex
  have rm : L2H.RoomH k (X.A.deeper (envOfC x sg s.heap.objs.size g cdg)) := L2H.roomH_of (hr.deeper _)
  refine ⟨_, pss_cons (ps_try_tup (X := (cxOf C8.CX0 X.prog X.w X.K X.mg X.base ansN x sg g cdg X.A X.stack s H C8.E0).nox) (i := 2) (c1 := .ref cA) (c2 := .ref cB) (c3 := .ref cC)
      (tb := fun W D σ H => ∃ Ech : XK, (∀ cls d σ' H', Ech cls d H' → W cls d σ' H') ∧ σ[0]? = some (some (.ref f)) ∧ H c' = some (CodeO c' q) ∧ tl Ech H (fun v H' => D.nx (σ.set 1 (some v)) H')) (ts := tSuiteA sp)
      rfl rfl Sg.nd rfl v2 ⟨gA, rfl, .inl mA⟩ ⟨gB, rfl, .inl mB⟩ ⟨gC, rfl, .inl mC⟩ (fun W pn xe tk _ => ?_) (fun a oe cls d pn hz hf => ?_)) (pss_one (ps_ret (pe_lst (pa_cons pe_str (pa_cons (pv (x := "_law_got") 1 rfl (.inl v1)) pa_nil))))), ?_⟩
  · refine ⟨fun pins s' σ H' D I h' => ?_⟩
    obtain ⟨Ech, hW, h1, h2, h3⟩ := h'
    have hp := act W pn xe Ech p2 p3 tk hW
    have hs : PS ((cxOf C8.CX0 X.prog X.w X.K X.mg X.base ansN x sg g cdg X.A X.stack s H C8.E0).tr pn xe) (.Assign [.Name "_law_got" p1] (.Call (.Name "_law_call_here" p2) [] [] p3) p4) _ := ps_set (i := 1) Sg.nd rfl (.inl v1) hp
    exact (pss_one hs).run pins s' σ H' D I ⟨h1, h2, h3⟩
  · refine ⟨fun pins s' σ H' D I h' => ?_⟩
    obtain ⟨Dc, dd, rfl, rfl, h'⟩ := h'
    refine PSs.run (pss_one (ps_ret (pe_callP (X := ((cxOf C8.CX0 X.prog X.w X.K X.mg X.base ansN x sg g cdg X.A X.stack s H C8.E0).nox).suite a ((a, oe) :: pn)) (p := (a, oe)) (D := Dc) (dd := dd) F hgd ⟨rm.dp, rm.un⟩ (List.mem_cons_self ..) ⟨hz, hf⟩ gS m kp b (pa_cons (pv (x := "_law_e") 2 rfl (.inl v2)) pa_nil)))) pins s' σ H' D I h'
  · refine ⟨raisE X.K (.ref cA) (.ref cB) (.ref cC) sp Q, ?_, rfl, hc, h f⟩
    rintro cls d σ' H' ⟨Dc, dd, rfl, rfl, e, hq⟩ hlen
    refine ⟨e, fun a na => ⟨Dc, dd, rfl, rfl, .ref a, ?_, hq a na⟩⟩
    have l3 : σ'.length = 3 := hlen
    have l2 : 2 < σ'.length := by omega
    exact List.getElem?_set_self l2
/-- what is known of the def -/
structure AnsR (P : Program) (w : World) (K : PySem.W.Frag) (mg : Str → Option Value) (base : Heap) (cA cB cC : Addr) (sp : SpP) (k : Nat) : Prop where
  S : SortR P w K mg base sp k
  mA : mg "WrongValue" = some (.ref cA)
  mB : mg "WrongName" = some (.ref cB)
  mC : mg "NotPossible" = some (.ref cC)
  ex : ∃ (g : Addr) (st : Stmt) (fd : FuncData) (j1 j2 : Nat) (p1 p2 p3 p4 p5 p6 p7 p8 p9 p10 p11 p12 p13 p14 p15 p16 p17 p18 : Pos), Fun K "_law_answer" "_law_answer" st g fd ∧ Binds K fd ["_law_call_here"] [] ∧ mg "_law_answer" = some (.ref g) ∧ PySem.W.keepIn K (.ref g) = true ∧
    FnScope ansN ["_law_call_here"] (defScope st) ∧ ((defScope st).names.lookup ("_law_call_here" : Str) = some NameKind.local ∧ (defScope st).names.lookup ("_law_got" : Str) = some NameKind.local ∧ (defScope st).names.lookup ("_law_e" : Str) = some NameKind.local) ∧
    ((defScope st).names.lookup ("WrongValue" : Str) = some .globalImplicit ∧ (defScope st).names.lookup ("WrongName" : Str) = some .globalImplicit ∧ (defScope st).names.lookup ("NotPossible" : Str) = some .globalImplicit ∧ (defScope st).names.lookup ("_law_sort" : Str) = some .globalImplicit) ∧
    defBody st = [.Try [.Assign [.Name "_law_got" p1] (.Call (.Name "_law_call_here" p2) [] [] p3) p4] [.ExceptHandler (some (.Tuple [.Name "WrongValue" p5, .Name "WrongName" p6, .Name "NotPossible" p7] j1 p8)) (some "_law_e") [.Return (some (.Call (.Name "_law_sort" p9) [.Name "_law_e" p10] [] p11)) p12] p13] [] [] p14,
      .Return (some (.List [.Constant (.str "back") j2 p15, .Name "_law_got" p16] p17)) p18]
/-- _law_answer(lambda: body) -/
theorem pe_ans {X : Cx} {cA cB cC c Pt : Addr} {sp : SpP} {k kS : Nat} {T : List (Addr × Str)} {params : Arguments} {body : Expr} {scope : Scope} {t : XK → TE} {p lpos pos : Pos} (Z : AnsR X.prog X.w X.K X.mg X.base cA cB cC sp kS) (hk : kS ≤ k + 1) (hgd : X.A.guards = some []) (hr : Room (k + 2) X.A) (hg : Gl X "_law_answer")
    (TB : TabB X.base X.mg c Pt) (hcode : X.env.code = .ref c) (hmT : (Pt, X.env.qual ++ "<lambda>") ∈ T) (hu : ∀ p ∈ T, p.1 = Pt → p.2 = X.env.qual ++ "<lambda>") (L : LamS X.env.scope scope) (hdef : defaultsOf params X.env = ([], []))
    (hbind : ∀ (q : Str) (cl : List (Str × Addr)) (pm cv ctv : Value), bindArgs (PySem.W.kla_fn "<lambda>" q params body scope cl pm cv ctv) ⟨[], []⟩ = pure [])
    (hbody : ∀ (A : Around) (outer : List Env) (s : Shared) (H : Hp) (E : XK) (f c' : Addr), Room k (A.deeper (lamEnv X scope s.heap.objs.size f c')) → PE (lamCx X A outer s H E scope f c') body (t E)) :
    PE X (.Call (.Name "_law_answer" p) [.Lambda params body scope lpos] [] pos) (tLam T (TTans X.K (.ref cA) (.ref cB) (.ref cC) sp) t) := by
  obtain ⟨g, st, fd, j1, j2, p1, p2, p3, p4, p5, p6, p7, p8, p9, p10, p11, p12, p13, p14, p15, p16, p17, p18, F, b, m, kp, Sg, ⟨v0, v1, v2⟩, ⟨gA, gB, gC, gS⟩, hbg⟩ := Z.ex
  obtain ⟨oc, od, kV, doc, pm, an, cdv, ct, osl, efd, hlk, hcodeA⟩ := F.ex
  subst efd
  rw [hbg] at hlk b
  exact pe_lamcall (bg := _) (k := k) (a := "_law_call_here") (Ng := ansN) hg m kp hlk hcodeA b Sg rfl (.inl v0) (ans_gives (k := k + 1) hgd hr ⟨by
    obtain ⟨f1, fd1, F1, r1⟩ := Z.S.ex
    exact ⟨f1, fd1, ⟨F1.many, fun A out s H ar us vs Q p D dd h1 h2 => F1.goes A out s H ar us vs Q p D dd h1 (h2.mono hk)⟩, r1⟩⟩ Sg Z.mA Z.mB Z.mC v1 v2 gA gB gC gS) TB hcode hmT hu hr L hdef hbind hbody
end
end Lamp
set_option Elab.async false
set_option linter.all false
set_option maxRecDepth 100000
set_option maxHeartbeats 1000000
namespace Lamp
open PySem PySem.Spec PyProof.Rows L2 LamX
/-! the end of a law whose defs make lambdas: the tables of their code objects -/
abbrev tabO : Obj := { cls := .none, data := .fields #[] }
abbrev MainB (mg : Str → Option Value) (h : Heap) : Prop := ∃ (bm : Addr) (ob : Obj), mg "__builtins__" = some (.ref bm) ∧ bm ≠ builtinsNs ∧ h.get? bm = some ob ∧ ob.cls = .type "module" ∧ ob.dict = some builtinsNs ∧ ob.data = .plain
theorem law_goesT {P : Program} {w : World} {K : PySem.W.Frag} {mg mb : Str → Option Value} {k : Nat} {fa a : Addr} {cs : List (Addr × Addr)} {fd : FuncData} {x : Str} {sp : Sp} {sh : Shared} {vs : List Value} {H : Hp}
    (inK : K.In sh.heap) (nsG : sh.heap.Ns mainGlobals mg) (nsB : sh.heap.Ns builtinsNs mb) (bltn : ∀ x : Str, x ≠ "__name__" → mb x = bootBuiltins x) (noLim : sh.heap.NoLimit) (noGen : sh.gens = #[])
    (tabs : ∀ p ∈ cs, sh.heap.get? p.2 = some tabO) (codes : ∀ p ∈ cs, PySem.W.CodeHd sh.heap p.1 p.2) (mainB : MainB mg sh.heap)
    (there : sh.heap.get? a = some { cls := .type "list", data := .seq vs.toArray }) (room : Room k callerA)
    (F : ∀ base : Heap, K.In base → base.Ns mainGlobals mg → (∀ p ∈ cs, TabB base mg p.1 p.2) → FnG P w K mg base k fa fd [x] sp) (hbind : ∀ (s : Shared) (u : Value), BindsTo s fd ⟨[u], []⟩ [(x, u)])
    (asked : sp [.ref a] H (fun v _ => v = .bl true) E0) (hok : HOk P w H sh.heap) (hH : ∀ p ∈ cs, H p.2 = some (.tbl #[]))
    (kinds : ∀ b u, H b = some u → K.lookup b = none ∧ ((b = a ∧ ∃ o xs, u = .frz o (.lst xs)) ∨ ∃ p ∈ cs, p.2 = b)) :
    codeAny (model P w) callerA (.call (.ref fa) ⟨[.ref a], []⟩) (fun r s' => r = .ok (.ret (.bool true)) ∧ OldK sh.heap s'.heap ∧ s'.os = sh.os ∧ AllBare s'.gens) sh := by
  have untold : ∀ {b : Addr} {o : Obj}, sh.heap.get? b = some o → o.cls ≠ .type "list" → o.cls ≠ .none → H b = none := fun {b o} e n1 n2 => by
    cases q : H b with
    | none => rfl
    | some u =>
      rcases (kinds b u q).2 with ⟨eb, _⟩ | ⟨p, hp, eb⟩
      · rw [eb, there] at e
        cases e
        exact absurd rfl n1
      · have z := tabs p hp
        rw [eb, e] at z
        cases z
        exact absurd rfl n2
  have notDict : ∀ {b : Addr} {o : Obj} {es : Array DictEntry} {ep : Nat}, sh.heap.get? b = some o → o.data = .dict es ep → H b = none := fun {b o es ep} e d => by
    cases q : H b with
    | none => rfl
    | some u =>
      rcases (kinds b u q).2 with ⟨eb, _⟩ | ⟨p, hp, eb⟩
      · rw [eb, there] at e
        cases e
        cases d
      · have z := tabs p hp
        rw [eb, e] at z
        cases z
        cases d
  have nsKeep : ∀ {b : Addr} {m : Str → Option Value}, sh.heap.Ns b m → (hidT sh.heap H).Ns b m := fun {b m} ⟨o, es, ep, e, d, r⟩ => ⟨o, es, ep, hidT_get e (notDict e d), d, r⟩
  have inK' : K.In (hidT sh.heap H) := fun b o e => hidT_get (inK b o e) (by
    cases q : H b with
    | none => rfl
    | some u =>
      have z := (kinds b u q).1
      rw [z] at e
      cases e)
  obtain ⟨mc, lim1, lim2⟩ := noLim
  have isMod : L2.Mod K mg (hidT sh.heap H) := ⟨inK', nsKeep nsG, ⟨mb, nsKeep nsB, bltn⟩, ⟨mc, nsKeep lim1, lim2⟩⟩
  have mainG : ∀ b, sh.heap.get? b = some tabO → mainGlobals ≠ b := fun b e z => by
    obtain ⟨o, es, ep, e1, d, _⟩ := nsG
    rw [z, e] at e1
    cases e1
    cases d
  have tabB : ∀ p ∈ cs, TabB (hidT sh.heap H) mg p.1 p.2 := fun p hp => by
    refine ⟨?_, ?_, mainG _ (tabs p hp)⟩
    · obtain ⟨o, us, file, tf, flags, tg, inF, text, tt, e1, r1, r2, more⟩ := codes p hp
      exact ⟨o, us, file, tf, flags, tg, inF, text, tt, hidT_get e1 (untold e1 (by rw [r1]; decide) (by rw [r1]; intro z; cases z)), r1, r2, more⟩
    · obtain ⟨bm, ob, b1, b2, b3, b4, b5, b6⟩ := mainB
      refine ⟨bm, ob, b1, b2, fun q => ?_, fun q => ?_, hidT_get b3 (untold b3 (by rw [b4]; decide) (by rw [b4]; intro z; cases z)), b4, b5, b6⟩
      · obtain ⟨o, es, ep, e, d, _⟩ := nsG
        rw [q, e] at b3
        cases b3
        rw [d] at b6
        cases b6
      · rw [q, tabs p hp] at b3
        cases b3
        cases b6
  have start0 : Env0 P w K mg (hidT sh.heap H) callerA [] sh H :=
    { frames := rfl, mod := isMod, bs := fun b o e => of_hidT e, bsz := Nat.le_of_eq (hidT_size _ _), funs := trivial, frf := (fun b hb => nomatch hb), hok := hok, bare := .of_eq noGen }
  refine codeAny_mono ((F _ inK' (nsKeep nsG) tabB).goes callerA [] sh H ⟨[.ref a], []⟩ [.ref a] [.ref a] _ _ rfl room start0 (hbind sh (.ref a)) (.cons rfl .nil) asked) fun res s' told => ?_
  match res, told with
  | .error _, told => exact False.elim told
  | .ok .next, told => exact False.elim told
  | .ok .brk, told => exact False.elim told
  | .ok .cont, told => exact False.elim told
  | .ok (.ret u), ⟨v, H', os, bare, un, hok', rv, ev⟩ =>
    have ev' : v = .bl true := ev
    subst ev'
    have eu : u = Value.bool true := rv
    subst eu
    have grown : ∀ p ∈ cs, ∃ more : Array Value, s'.heap.get? p.2 = some { cls := .none, data := .fields more } := fun p hp => by
      obtain ⟨more, z⟩ := un.tbls p.2 #[] (hH p hp)
      exact ⟨_, hok' p.2 _ z⟩
    have kept : ∀ b o, (∀ p ∈ cs, p.2 ≠ b) → sh.heap.get? b = some o → s'.heap.get? b = some o := fun b o nb e => by
      cases q : H b with
      | none => exact un.keep b o e q (fun z => nomatch z) (fun z => nomatch z)
      | some u =>
        rcases (kinds b u q).2 with ⟨_, ob, xs, rfl⟩ | ⟨p, hp, eb⟩
        · have old := (hok b _ q).1
          have new := (hok' b _ (un.frzs b ob _ q)).1
          rw [e] at old
          cases old
          exact new
        · exact absurd eb (nb p hp)
    refine ⟨rfl, ⟨fun b o e => ?_, fun b o e => ?_⟩, os, bare⟩
    · by_cases hb : ∃ p ∈ cs, p.2 = b
      · obtain ⟨p, hp, rfl⟩ := hb
        obtain ⟨more, hm⟩ := grown p hp
        have z := tabs p hp
        rw [e] at z
        cases z
        exact .inr (.inl ⟨((codes p hp).tab (tabs p hp)).isCodeTable, rfl, #[], more, rfl, by rw [Array.empty_append]; exact hm⟩)
      · exact .inl (kept b o (fun p hp z => hb ⟨p, hp, z⟩) e)
    · by_cases hb : ∃ p ∈ cs, p.2 = b
      · obtain ⟨p, hp, rfl⟩ := hb
        obtain ⟨more, hm⟩ := grown p hp
        exact ⟨_, hm⟩
      · exact ⟨o, kept b o (fun p hp z => hb ⟨p, hp, z⟩) e⟩
/-- the place of a code object, and of its table -/
def codeA : Value → Addr
  | .ref c => c
  | _ => 0
def tabIn (K : PySem.W.Frag) (c : Addr) : Option Addr := match K.lookup c with
  | some ⟨_, _, .fields vs, _⟩ => (match (vs[11]? : Option Value) with
    | some (Value.ref q) => some q
    | _ => none)
  | _ => none
def tabA (K : PySem.W.Frag) (v : Value) : Addr := (tabIn K (codeA v)).getD 0
def isStrV : Value → Bool
  | .str _ _ => true
  | _ => false
def isIntV : Value → Bool
  | .int _ _ => true
  | _ => false
def isBoolV : Value → Bool
  | .bool _ => true
  | _ => false
def isRefV : Value → Bool
  | .ref _ => true
  | _ => false
def codeB (K : PySem.W.Frag) (v : Value) : Bool := isRefV v && (match K.lookup (codeA v) with
  | some ⟨.type t, _, .fields vs, _⟩ => decide (t = "code") && (decide (vs[11]? = some (.ref (tabA K v))) && (isStrV (vs.getD 18 .none) && (isIntV (vs.getD 7 .none) && (isBoolV (vs.getD 9 .none) && (isIntV (vs.getD 10 .none) && (decide (codeA v ≠ tabA K v) && (K.lookup (tabA K v)).isNone))))))
  | _ => false)
theorem codeB_ok {K : PySem.W.Frag} {v : Value} (h : codeB K v = true) : v = .ref (codeA v) ∧ K.lookup (tabA K v) = none ∧ ∃ dd vs sl, K.lookup (codeA v) = some ⟨.type "code", dd, .fields vs, sl⟩ ∧ vs[11]? = some (.ref (tabA K v)) ∧ ∀ hp : Heap, K.In hp → PySem.W.CodeHd hp (codeA v) (tabA K v) := by
  unfold codeB at h
  simp only [Bool.and_eq_true] at h
  obtain ⟨h1, h⟩ := h
  have isR : v = .ref (codeA v) := by
    cases v <;> first | rfl | (cases h1)
  refine ⟨isR, ?_⟩
  split at h
  · rename_i t dd vs sl look
    simp only [Bool.and_eq_true, decide_eq_true_eq] at h
    obtain ⟨rfl, h2, h3, h4, h5, h6, h7, h8⟩ := h
    refine ⟨Option.isNone_iff_eq_none.mp h8, dd, vs, sl, look, h2, fun hp inK => ?_⟩
    have e11 : vs.getD 11 .none = .ref (tabA K v) := by
      obtain ⟨l, e⟩ := Array.getElem?_eq_some_iff.mp h2
      unfold Array.getD
      rw [dif_pos l]
      exact e
    obtain ⟨s1, s2, es⟩ : ∃ a b, vs.getD 18 .none = .str a b := by
      generalize vs.getD 18 .none = z at h3 ⊢
      cases z <;> first | exact ⟨_, _, rfl⟩ | (cases h3)
    obtain ⟨i1, i2, ei⟩ : ∃ a b, vs.getD 7 .none = .int a b := by
      generalize vs.getD 7 .none = z at h4 ⊢
      cases z <;> first | exact ⟨_, _, rfl⟩ | (cases h4)
    obtain ⟨b1, eb⟩ : ∃ a, vs.getD 9 .none = .bool a := by
      generalize vs.getD 9 .none = z at h5 ⊢
      cases z <;> first | exact ⟨_, rfl⟩ | (cases h5)
    obtain ⟨j1, j2, ej⟩ : ∃ a b, vs.getD 10 .none = .int a b := by
      generalize vs.getD 10 .none = z at h6 ⊢
      cases z <;> first | exact ⟨_, _, rfl⟩ | (cases h6)
    exact ⟨_, vs, s1, s2, i1, i2, b1, j1, j2, inK _ _ look, rfl, rfl, h2, e11, es, ei, eb, ej, h7⟩
  · cases h
/-- a def of the top with its code object's table -/
def TabOf (K : PySem.W.Frag) (mg : Str → Option Value) (xs : List Str) (p : Addr × Addr) : Prop := ∃ x ∈ xs, ∃ (f : Addr) (o : Obj) (fd : FuncData) (v : Value), mg x = some (.ref f) ∧ K.lookup f = some o ∧ o.data = .func fd ∧ fd.code = v ∧ codeB K v = true ∧ p = (codeA v, tabA K v)
open PySem.W in
theorem walk_ofGT {l : PySem.W.OpenLaw} {n k : Nat} {q : Program} {loose : List Str} {XP : (Str → Option Value) → Heap → Prop} {YP : World → Heap → Prop} {d : DefRec} {K : Params → PySem.W.Frag} {x : Str} (xs : List Str)
    (hn : l.most = some n) (hn2 : n ≤ sizeLine) (hdf : d.params.defaults = []) (hr : Room k callerA) (hrec : ∀ x ∈ xs, ((recsOf q).any fun e => e.name == x) = true) (hY : ∀ (w : World) (h : Heap), YP w h → (K w.params).In h)
    (F : ∀ (w : World) (mg : Str → Option Value) (fa : Addr) (h : Heap), (K w.params).In h → h.Ns mainGlobals mg → mg d.name = some (.ref fa) → ∃ (fd : FuncData) (cs : List (Addr × Addr)) (sp : Sp), (∀ p ∈ cs, TabOf (K w.params) mg xs p) ∧ (∀ (s : Shared) (u : Value), BindsTo s fd ⟨[u], []⟩ [(x, u)]) ∧
      (∀ (H : Hp) (a : Addr) (ns : List Int), ns.length ≤ n → (∀ z ∈ ns, Builtin.Int.intBits z ≤ 1048576) → (∀ p ∈ cs, H p.2 = some (.tbl #[])) → SqL (K w.params) H a (ns.map V.int) → sp [.ref a] H (fun v _ => v = .bl true) E0) ∧
        ∀ base : Heap, (K w.params).In base → base.Ns mainGlobals mg → (∀ p ∈ cs, TabB base mg p.1 p.2) → FnG l.prog w (K w.params) mg base k fa fd [x] sp) :
    PySem.W.WalkO q loose XP YP l.row.toRowW d [] (fun f vs => PySem.call f vs) :=
  Att.attach_callB hn hdf fun w s₀ s₁ mg mb fa o pm cd doc a vs ns G Y ho hd hcd hmg hobj hints hlen hbits hg => by
    have inK := hY w _ Y
    obtain ⟨fd, cs, sp, tabs, hb, hsp, hF⟩ := F w mg fa _ inK G.T.g hmg
    have facts : ∀ p ∈ cs, s₁.heap.get? p.2 = some tabO ∧ (K w.params).lookup p.2 = none ∧ PySem.W.CodeHd s₁.heap p.1 p.2 := fun p hp => by
      obtain ⟨y, hy, f, o1, fd1, v, m1, k1, k2, k3, cb, rfl⟩ := tabs p hp
      obtain ⟨ev, noTab, dd, vs1, sl, k4, k5, hd1⟩ := codeB_ok cb
      refine ⟨?_, noTab, hd1 _ inK⟩
      obtain ⟨dL, hm, hn1⟩ := List.any_eq_true.mp (hrec y hy)
      have hn2 : dL.name = y := beq_iff_eq.mp hn1
      obtain ⟨a', o', fd', c', P', h1, h2, h3, h4, h5, h6⟩ := G.T.tab dL hm
      rw [hn2, m1] at h1
      cases h1
      have g1 := inK _ _ k1
      rw [g1] at h2
      cases h2
      rw [k2] at h3
      cases h3
      rw [k3, ev] at h4
      cases h4
      obtain ⟨⟨oc, vc, e1, _, e3, e4⟩, hP⟩ := h6
      have g2 := inK _ _ k4
      rw [g2] at e1
      cases e1
      cases e3
      rw [k5] at e4
      cases e4
      exact hP
    have same := hints.length
    have vals := vals_ints hints
    have short : ns.length ≤ sizeLine := Nat.le_trans hlen hn2
    have notA : ∀ p ∈ cs, p.2 ≠ a := fun p hp z => by
      have e := (facts p hp).1
      rw [z, hobj] at e
      cases e
    cases look : (K w.params).lookup a with
    | some ob =>
      have e := inK a ob look
      rw [hobj] at e
      cases e
      let H : Hp := fun b => if b ∈ cs.map (·.2) then some (.tbl #[]) else none
      have on : ∀ p ∈ cs, H p.2 = some (.tbl #[]) := fun p hp => if_pos (List.mem_map.mpr ⟨p, hp, rfl⟩)
      refine law_goesT (H := H) (cs := cs) inK G.T.g G.T.b G.T.builtins G.T.nolimit hg (fun p hp => (facts p hp).1) (fun p hp => (facts p hp).2.2) G.T.bmain hobj hr hF hb (hsp H a ns hlen hbits on ?_) (fun b u z => ?_) on (fun b u z => ?_)
      · exact .inr ⟨_, vs.toArray, _, look, rfl, rfl, rfl, by rw [List.size_toArray, same]; exact short, vals⟩
      · by_cases hb : b ∈ cs.map (·.2)
        · have z2 := (if_pos hb).symm.trans z
          cases z2
          obtain ⟨p, hp, rfl⟩ := List.mem_map.mp hb
          exact (facts p hp).1
        · have z2 := (if_neg hb).symm.trans z
          cases z2
      · by_cases hb : b ∈ cs.map (·.2)
        · obtain ⟨p, hp, rfl⟩ := List.mem_map.mp hb
          exact ⟨(facts p hp).2.1, .inr ⟨p, hp, rfl⟩⟩
        · have z2 := (if_neg hb).symm.trans z
          cases z2
    | none =>
      let held : HO := .frz { cls := .type "list", data := .seq vs.toArray } (.lst (ns.map V.int))
      let H : Hp := fun b => if b = a then some held else if b ∈ cs.map (·.2) then some (.tbl #[]) else none
      have on : ∀ p ∈ cs, H p.2 = some (.tbl #[]) := fun p hp => (if_neg (notA p hp)).trans (if_pos (List.mem_map.mpr ⟨p, hp, rfl⟩))
      have atA : H a = some held := if_pos rfl
      refine law_goesT (H := H) (cs := cs) inK G.T.g G.T.b G.T.builtins G.T.nolimit hg (fun p hp => (facts p hp).1) (fun p hp => (facts p hp).2.2) G.T.bmain hobj hr hF hb (hsp H a ns hlen hbits on (.inl (.inr ⟨_, atA⟩))) (fun b u z => ?_) on (fun b u z => ?_)
      · by_cases hb : b = a
        · subst hb
          rw [atA] at z
          cases z
          exact ⟨hobj, by rw [List.length_map]; exact short, vs, _, vals, hobj⟩
        · have z1 := (if_neg hb).symm.trans z
          by_cases hb2 : b ∈ cs.map (·.2)
          · have z2 := (if_pos hb2).symm.trans z1
            cases z2
            obtain ⟨p, hp, rfl⟩ := List.mem_map.mp hb2
            exact (facts p hp).1
          · have z2 := (if_neg hb2).symm.trans z1
            cases z2
      · by_cases hb : b = a
        · subst hb
          rw [atA] at z
          cases z
          exact ⟨look, .inl ⟨rfl, _, _, rfl⟩⟩
        · have z1 := (if_neg hb).symm.trans z
          by_cases hb2 : b ∈ cs.map (·.2)
          · obtain ⟨p, hp, rfl⟩ := List.mem_map.mp hb2
            exact ⟨(facts p hp).2.1, .inr ⟨p, hp, rfl⟩⟩
          · have z2 := (if_neg hb2).symm.trans z1
            cases z2
end Lamp
set_option Elab.async false
set_option linter.all false
set_option maxRecDepth 100000
set_option maxHeartbeats 1000000
namespace Lamp
open PySem PySem.Spec PyProof.Rows L2
/-! parts of tuples, tuples behind one another: whatever object it is -/
theorem cut_lo (xs : List V) {k : Nat} (h : k ≤ xs.length) : cutV xs none (some (k : Int)) = xs.take k := by
  unfold cutV
  rw [HT.sIx_none, HT.sIx_nat, Nat.min_eq_left h]
  rfl
theorem cut_hi (xs : List V) (k : Nat) : cutV xs (some (k : Int)) none = xs.drop k := by
  unfold cutV
  rw [HT.sIx_none, HT.sIx_nat]
  by_cases h : k ≤ xs.length
  · rw [Nat.min_eq_left h]
    exact List.take_of_length_le (by rw [List.length_drop]; exact Nat.le_refl _)
  · rw [Nat.min_eq_right (by omega), List.drop_length, List.drop_of_length_le (by omega)]
    exact List.take_nil
theorem paired_take {α β : Type} {R : α → β → Prop} : ∀ (n : Nat) {xs : List α} {ys : List β}, Paired R xs ys → Paired R (xs.take n) (ys.take n)
  | 0, _, _, _ => by simp only [List.take_zero]; exact .nil
  | n + 1, _, _, .nil => .nil
  | n + 1, _, _, .cons h t => .cons h (paired_take n t)
theorem paired_drop {α β : Type} {R : α → β → Prop} : ∀ (n : Nat) {xs : List α} {ys : List β}, Paired R xs ys → Paired R (xs.drop n) (ys.drop n)
  | 0, _, _, h => h
  | n + 1, _, _, .nil => .nil
  | n + 1, _, _, .cons _ t => paired_drop n t
theorem sl_any {K : PySem.W.Frag} {H : Hp} {a : Addr} {xs : List V} {lo hi : Option Int} {Q : VK} (h : H a = some (.tup xs)) (k : ∀ b H', Same H H' → H' b = some (.tup (cutV xs lo hi)) → Q (.ref b) H') : rSlA K (.ref a) lo hi H Q := by
  refine ⟨a, xs, rfl, SqT.of h, fun w => ?_, fun _ p np => k p _ (same_of np) upd_same⟩
  have e : cutV xs lo hi = xs := by
    unfold cutV
    rw [w.1, w.2]
    exact List.take_of_length_le (by rw [List.length_drop]; omega)
  exact k a H (Same.refl H) (by rw [e]; exact h)
theorem cat_any {K : PySem.W.Frag} {H : Hp} {a b : Addr} {xs ys : List V} {Q : VK} (h1 : H a = some (.tup xs)) (h2 : H b = some (.tup ys)) (hl : xs.length + ys.length ≤ sizeLine) (k : ∀ c H', Same H H' → H' c = some (.tup (xs ++ ys)) → Q (.ref c) H') : rCatA K (.ref a) (.ref b) H Q := by
  refine ⟨a, b, xs, ys, rfl, rfl, SqT.of h1, SqT.of h2, hl, fun e => ?_, fun _ e => ?_, fun _ _ p np => k p _ (same_of np) upd_same⟩
  · subst e
    exact k b H (Same.refl H) h2
  · subst e
    exact k a H (Same.refl H) (by rw [List.append_nil]; exact h1)
end Lamp
set_option Elab.async false
set_option linter.all false
set_option maxRecDepth 100000
set_option maxHeartbeats 1000000
namespace Lamp
open PySem PySem.Spec PyProof.Rows L2 LamX
/-! values of any kind -/
inductive T
  | non
  | bl (b : Bool)
  | int (i : Int)
  | str (x : Str)
  | tup (ts : List T)
  | lst
  | dct
mutual
inductive An (K : PySem.W.Frag) (H : Hp) : V → T → Prop
  | non : An K H .non .non
  | bl (b : Bool) : An K H (.bl b) (.bl b)
  | int (i : Int) : An K H (.int i) (.int i)
  | str (x : Str) : An K H (.str x) (.str x)
  | tup {a : Addr} {xs : List V} {ts : List T} : SqT K H a xs → AnAll K H xs ts → An K H (.ref a) (.tup ts)
  | lst {a : Addr} {xs : List V} : SqL K H a xs → An K H (.ref a) .lst
  | dct {a : Addr} {kvs : List (Key × V)} : H a = some (.dK kvs) → An K H (.ref a) .dct
inductive AnAll (K : PySem.W.Frag) (H : Hp) : List V → List T → Prop
  | nil : AnAll K H [] []
  | cons {v : V} {vs : List V} {t : T} {ts : List T} : An K H v t → AnAll K H vs ts → AnAll K H (v :: vs) (t :: ts)
end
theorem sqT_ext {K : PySem.W.Frag} {H H' : Hp} {a : Addr} {xs : List V} (e : ExtN H H') (h : SqT K H a xs) : SqT K H' a xs := by
  rcases h with (h | ⟨o, h⟩) | h
  · exact .inl (.inl (e _ _ h fun _ z => by cases z))
  · exact .inl (.inr ⟨o, e _ _ h fun _ z => by cases z⟩)
  · exact .inr h
theorem sqL_ext {K : PySem.W.Frag} {H H' : Hp} {a : Addr} {xs : List V} (e : ExtN H H') (h : SqL K H a xs) : SqL K H' a xs := by
  rcases h with (h | ⟨o, h⟩) | h
  · exact .inl (.inl (e _ _ h fun _ z => by cases z))
  · exact .inl (.inr ⟨o, e _ _ h fun _ z => by cases z⟩)
  · exact .inr h
mutual
theorem an_ext {K : PySem.W.Frag} {H H' : Hp} (e : ExtN H H') : ∀ (t : T) (v : V), An K H v t → An K H' v t
  | .non, _, h => by cases h; exact .non
  | .bl _, _, h => by cases h; exact .bl _
  | .int _, _, h => by cases h; exact .int _
  | .str _, _, h => by cases h; exact .str _
  | .lst, _, h => by
    cases h with
    | lst hs => exact .lst (sqL_ext e hs)
  | .dct, _, h => by
    cases h with
    | dct hs => exact .dct (e _ _ hs fun _ z => by cases z)
  | .tup ts, _, h => by
    cases h with
    | tup hs ha => exact .tup (sqT_ext e hs) (anAll_ext e ts _ ha)
theorem anAll_ext {K : PySem.W.Frag} {H H' : Hp} (e : ExtN H H') : ∀ (ts : List T) (vs : List V), AnAll K H vs ts → AnAll K H' vs ts
  | [], _, h => by cases h; exact .nil
  | t :: ts, _, h => by
    cases h with
    | cons h1 h2 => exact .cons (an_ext e t _ h1) (anAll_ext e ts _ h2)
theorem dp_ext {K : PySem.W.Frag} {H H' : Hp} (e : ExtN H H') : ∀ (d : PyData) (v : V), Dp K H v d → Dp K H' v d
  | .none, _, h => by cases h; exact .non
  | .bool _, _, h => by cases h; exact .bl _
  | .int _, _, h => by cases h; exact .int _
  | .str _, _, h => by cases h; exact .str _
  | .list ds, _, h => by
    cases h with
    | lst hs ha => exact .lst (sqL_ext e hs) (dpAll_ext e ds _ ha)
  | .tuple ds, _, h => by
    cases h with
    | tup hs ha => exact .tup (sqT_ext e hs) (dpAll_ext e ds _ ha)
  | .dict _, _, h => by cases h
theorem dpAll_ext {K : PySem.W.Frag} {H H' : Hp} (e : ExtN H H') : ∀ (ds : List PyData) (vs : List V), DpAll K H vs ds → DpAll K H' vs ds
  | [], _, h => by cases h; exact .nil
  | d :: ds, _, h => by
    cases h with
    | cons h1 h2 => exact .cons (dp_ext e d _ h1) (dpAll_ext e ds _ h2)
end
theorem ext_same {H H' : Hp} (e : Same H H') : ExtN H H' := ExtN.of e
theorem dq_ext {K : PySem.W.Frag} {H H' : Hp} (e : ExtN H H') {d : PyData} {v : V} (h : Dq K H v d) : Dq K H' v d := by
  cases h with
  | plain h => exact .plain (dp_ext e d v h)
  | dict h1 h2 => exact .dict (e _ _ h1 fun _ z => by cases z) h2
theorem an_same {K : PySem.W.Frag} {H H' : Hp} (e : Same H H') {t : T} {v : V} (h : An K H v t) : An K H' v t := an_ext (ext_same e) t v h
theorem anAll_same {K : PySem.W.Frag} {H H' : Hp} (e : Same H H') {ts : List T} {vs : List V} (h : AnAll K H vs ts) : AnAll K H' vs ts := anAll_ext (ext_same e) ts vs h
theorem Pail.ext {H H' : Hp} {p : Addr} (h : Pail H p) (s : ExtN H H') : Pail H' p := by
  obtain ⟨x, y, z, e, r⟩ := h
  exact ⟨x, y, z, s _ _ e (fun _ z => by cases z), r⟩
/-- all but p and the tables stands as it stood -/
def ButN (p : Addr) (H H' : Hp) : Prop := ExtN (delH H p) (delH H' p)
theorem ButN.of {p : Addr} {H H' : Hp} (b : But p H H') : ButN p H H' := ext_same b.del
theorem ButN.trans {p : Addr} {H H1 H2 : Hp} (a : ButN p H H1) (b : ButN p H1 H2) : ButN p H H2 := ExtN.trans a b
theorem ButN.ext {p : Addr} {H H' : Hp} (e : ExtN H H') : ButN p H H' := fun a o h n => by
  by_cases z : a = p
  · rw [z, delH_same] at h; cases h
  · rw [delH_ne z] at h ⊢
    exact e a o h n
/-! data among them -/
mutual
def tOf : PyData → T
  | .none => .non
  | .bool b => .bl b
  | .int i => .int i
  | .str x => .str x
  | .tuple ds => .tup (tOfAll ds)
  | .list _ => .lst
  | .dict _ => .dct
def tOfAll : List PyData → List T
  | [] => []
  | d :: ds => tOf d :: tOfAll ds
end
mutual
theorem an_dp {K : PySem.W.Frag} {H : Hp} : ∀ (d : PyData) (v : V), Dp K H v d → An K H v (tOf d)
  | .none, _, h => by cases h; simp only [tOf]; exact .non
  | .bool _, _, h => by cases h; simp only [tOf]; exact .bl _
  | .int _, _, h => by cases h; simp only [tOf]; exact .int _
  | .str _, _, h => by cases h; simp only [tOf]; exact .str _
  | .list ds, _, h => by
    cases h with
    | lst hs ha => simp only [tOf]; exact .lst hs
  | .tuple ds, _, h => by
    cases h with
    | tup hs ha => simp only [tOf]; exact .tup hs (anAll_dp ds _ ha)
  | .dict _, _, h => by cases h
theorem anAll_dp {K : PySem.W.Frag} {H : Hp} : ∀ (ds : List PyData) (vs : List V), DpAll K H vs ds → AnAll K H vs (tOfAll ds)
  | [], _, h => by cases h; simp only [tOfAll]; exact .nil
  | d :: ds, _, h => by
    cases h with
    | cons h1 h2 => simp only [tOfAll]; exact .cons (an_dp d _ h1) (anAll_dp ds _ h2)
end
theorem an_dq {K : PySem.W.Frag} {H : Hp} {d : PyData} {v : V} (h : Dq K H v d) : An K H v (tOf d) := by
  cases h with
  | plain h => exact an_dp d v h
  | dict h1 h2 => simp only [tOf]; exact .dct h1
/-! rows of them -/
section
variable {K : PySem.W.Frag} {H : Hp}
theorem anAll_len : ∀ {ts : List T} {vs : List V}, AnAll K H vs ts → vs.length = ts.length
  | [], _, h => by cases h; rfl
  | t :: ts, _, h => by
    cases h with
    | cons h1 h2 => rw [List.length_cons, List.length_cons, anAll_len h2]
theorem anAll_get : ∀ {ts : List T} {vs : List V} {i : Nat} {v : V}, AnAll K H vs ts → vs[i]? = some v → ∃ t, ts[i]? = some t ∧ An K H v t
  | [], _, _, _, h, e => by cases h; simp at e
  | t :: ts, _, i, v, h, e => by
    cases h with
    | @cons v' vs' _ _ h1 h2 =>
      cases i with
      | zero => simp only [List.getElem?_cons_zero] at e ⊢; cases e; exact ⟨t, rfl, h1⟩
      | succ i => simp only [List.getElem?_cons_succ] at e ⊢; exact anAll_get h2 e
theorem anAll_take : ∀ (n : Nat) {ts : List T} {vs : List V}, AnAll K H vs ts → AnAll K H (vs.take n) (ts.take n)
  | 0, _, _, _ => by simp only [List.take_zero]; exact .nil
  | n + 1, _, _, .nil => .nil
  | n + 1, _, _, .cons h t => .cons h (anAll_take n t)
theorem anAll_drop : ∀ (n : Nat) {ts : List T} {vs : List V}, AnAll K H vs ts → AnAll K H (vs.drop n) (ts.drop n)
  | 0, _, _, h => h
  | n + 1, _, _, .nil => .nil
  | n + 1, _, _, .cons _ t => anAll_drop n t
theorem anAll_app : ∀ {ts us : List T} {vs ws : List V}, AnAll K H vs ts → AnAll K H ws us → AnAll K H (vs ++ ws) (ts ++ us)
  | _, _, _, _, .nil, s => s
  | _, _, _, _, .cons r t, s => .cons r (anAll_app t s)
theorem anAll_rev : ∀ {ts : List T} {vs : List V}, AnAll K H vs ts → AnAll K H vs.reverse ts.reverse
  | _, _, .nil => .nil
  | _, _, .cons r t => by rw [List.reverse_cons, List.reverse_cons]; exact anAll_app (anAll_rev t) (.cons r .nil)
end
/-! how deep, how long, how great they are -/
def Fits (w : Nat) (b : Int) : Nat → T → Prop
  | _, .int i => -b ≤ i ∧ i ≤ b
  | 0, .tup ts => ts = []
  | n + 1, .tup ts => ts.length ≤ w ∧ ∀ t ∈ ts, Fits w b n t
  | _, _ => True
theorem fits_int {w n : Nat} {b i : Int} : Fits w b n (.int i) = (-b ≤ i ∧ i ≤ b) := by cases n <;> rfl
theorem fits_non {w n : Nat} {b : Int} : Fits w b n .non := by cases n <;> exact True.intro
theorem fits_bl {w n : Nat} {b : Int} {c : Bool} : Fits w b n (.bl c) := by cases n <;> exact True.intro
theorem fits_str {w n : Nat} {b : Int} {x : Str} : Fits w b n (.str x) := by cases n <;> exact True.intro
theorem fits_lst {w n : Nat} {b : Int} : Fits w b n .lst := by cases n <;> exact True.intro
theorem fits_dct {w n : Nat} {b : Int} : Fits w b n .dct := by cases n <;> exact True.intro
theorem fits_tup {w n : Nat} {b : Int} {ts : List T} (h : Fits w b n (.tup ts)) : ts = [] ∨ ∃ m, n = m + 1 ∧ ts.length ≤ w ∧ ∀ t ∈ ts, Fits w b m t := by
  cases n with
  | zero => exact .inl h
  | succ m => exact .inr ⟨m, rfl, h⟩
theorem fits_mono {w w' : Nat} {b b' : Int} (hw : w ≤ w') (hb : b ≤ b') : ∀ (n n' : Nat) (t : T), n ≤ n' → Fits w b n t → Fits w' b' n' t := by
  intro n
  induction n with
  | zero =>
    intro n' t hn h
    cases t with
    | int i => rw [fits_int] at h ⊢; omega
    | tup ts =>
      have e : ts = [] := h
      subst e
      cases n' with
      | zero => rfl
      | succ m => exact ⟨Nat.zero_le _, fun t ht => by cases ht⟩
    | non => exact fits_non
    | bl _ => exact fits_bl
    | str _ => exact fits_str
    | lst => exact fits_lst
    | dct => exact fits_dct
  | succ n ih =>
    intro n' t hn h
    cases t with
    | int i => rw [fits_int] at h ⊢; omega
    | tup ts =>
      obtain ⟨l, all⟩ := h
      cases n' with
      | zero => omega
      | succ m => exact ⟨by omega, fun t ht => ih m t (by omega) (all t ht)⟩
    | non => exact fits_non
    | bl _ => exact fits_bl
    | str _ => exact fits_str
    | lst => exact fits_lst
    | dct => exact fits_dct
end Lamp
set_option Elab.async false
set_option linter.all false
set_option maxRecDepth 100000
set_option maxHeartbeats 1000000
namespace Lamp
open PySem PySem.Spec PyProof.Rows L2 LamX HT
/-! a tuple read backwards -/
theorem rev_places (n : Nat) : Builtin.Slice.slicePlaces ((n : Int) - 1) (-1) (-1) = n := by
  unfold Builtin.Slice.slicePlaces
  have h1 : ¬ (-1 : Int) > 0 := by omega
  simp only [h1, if_false]
  by_cases h : (n : Int) - 1 > -1
  · simp only [h, if_true]
    have e : -(-1 : Int) = 1 := by decide
    rw [e, Int.ediv_one]
    omega
  · simp only [h, if_false]
    omega
theorem fm_same {α β : Type} {f g : α → Option β} : ∀ {l : List α}, (∀ a ∈ l, f a = g a) → l.filterMap f = l.filterMap g
  | [], _ => rfl
  | a :: r, h => by rw [List.filterMap_cons, List.filterMap_cons, h a (List.mem_cons_self ..), fm_same fun b hb => h b (List.mem_cons_of_mem _ hb)]
theorem rev_pick (xs : Array Value) : ((List.range xs.size).filterMap fun (m : Nat) => xs[(((xs.size : Int) - 1) + (m : Int) * (-1)).toNat]?).toArray = xs.toList.reverse.toArray := by
  have e : ((List.range xs.size).filterMap fun (m : Nat) => xs[(((xs.size : Int) - 1) + (m : Int) * (-1)).toNat]?) = ((List.range xs.size).map (fun k => xs.size - 1 - k)).filterMap (xs[·]?) := by
    rw [List.filterMap_map]
    refine fm_same fun m hm => ?_
    have lt := List.mem_range.mp hm
    have e : (((xs.size : Int) - 1) + (m : Int) * (-1)).toNat = xs.size - 1 - m := by omega
    show xs[(((xs.size : Int) - 1) + (m : Int) * (-1)).toNat]? = xs[xs.size - 1 - m]?
    rw [e]
  rw [e, PySem.W.krv_range, List.filterMap_reverse, PySem.W.krv_all]
section
variable {prog : Program} {w : World} {A : Around} {E : Value → Shared → Prop} {s : Shared}
theorem applied_rev {sl : Addr} {vk : Value} {n : Nat} {Q : Int × Int × Nat → Shared → Prop} (hs : s.heap.IsSliceOf sl .none .none vk) (pk : IsPart vk (some (-1))) (h : Q ((n : Int) - 1, -1, n) s) : wpAny (model prog w) A (Builtin.Slice.sliceApplied (.ref sl) (pure (n : Int))) Q E s := by
  obtain ⟨ob, there, _, parts⟩ := id hs
  unfold Builtin.Slice.sliceApplied Builtin.Slice.sliceFields
  refine wpAny_bind (wpAny_bind (wpAny_field there parts (x := .none) rfl (wpAny_bind (wpAny_field there parts (x := .none) rfl (wpAny_bind (wpAny_field there parts (x := vk) rfl (wpAny_pure ?_)))))))
  refine wpAny_bind (slicePart_ pk ?_)
  show wpAny _ _ (if ((-1 : Int) == 0) = true then _ else _) _ _ s
  rw [if_neg (by decide)]
  refine wpAny_bind (slicePart_none (wpAny_bind (slicePart_none (wpAny_bind (wpAny_pure ?_)))))
  show wpAny _ _ (pure (((n : Int) - 1), (-1 : Int), Builtin.Slice.slicePlaces ((n : Int) - 1) (-1) (-1))) _ _ s
  rw [rev_places]
  exact wpAny_pure h
theorem item_rev {t sl : Addr} {items : Array Value} {vk : Value} {Q : Value → Shared → Prop} (ht : IsTup s.heap t items) (hs : s.heap.IsSliceOf sl .none .none vk) (pk : IsPart vk (some (-1))) (hz : items.size ≤ sizeLine)
    (h : Q (.ref s.heap.objs.size) { s with heap := s.heap.push { cls := .type "tuple", data := .seq items.toList.reverse.toArray } }) : wpAny (model prog w) A (getItem (.ref t) (.ref sl)) Q E s := by
  have fits : sizeOk (.seq items.toList.reverse.toArray) := by
    show items.toList.reverse.toArray.size ≤ sizeLine
    rw [List.size_toArray, List.length_reverse, Array.length_toList]
    exact hz
  obtain ⟨ob, there, isSl, _⟩ := id hs
  have slT : s.TypeIs (.ref sl) "slice" := ⟨ob, there, isSl⟩
  unfold getItem
  try with_reducible refine wpAny_holding ?_
  first | refine wpAny_bind (wpAny_pure ?_) | skip
  refine wpAny_bind (wpAny_sequenceKey ht.typeIs (by decide) ?_)
  refine wpAny_bind (wpAny_callSpecial?_slot (name := Str.ofString "__getitem__") ht.typeIs PyProof.Rows.slot_tuple_getitem (wpAny_call_entry PyProof.Rows.slot_tuple_getitem ht.typeIs entry_tuple_getitem ?_ (args_tuple_getitem _ _)))
  show wpAny _ _ (Builtin.Tuple.tupleItemsOf (.ref t) >>= _) _ _ s
  refine wpAny_bind (tupleItemsOf_ ht (wpAny_bind (wpAny_typeOf slT ?_)))
  rw [if_pos (by decide)]
  refine wpAny_bind (applied_rev hs pk ?_)
  have no : ¬ (((items.size : Int) - 1 == 0 && (-1 : Int) == 1 && items.size == items.size) = true) := by
    have e : ((-1 : Int) == 1) = false := by decide
    rw [e, Bool.and_false, Bool.false_and]
    decide
  show wpAny _ _ (if (((items.size : Int) - 1) == 0 && (-1 : Int) == 1 && items.size == items.size) = true then _ else _) _ _ s
  rw [if_neg no, rev_pick]
  first
    | exact wpAny_bind (m := Builtin.Tuple.tupleExact _) (wpAny_newObj_type (wpAny_pure ⟨_, rfl, wpAny_pure h⟩) fits)
    | exact wpAny_bind (m := Builtin.Tuple.tupleExact _) (wpAny_newObj_type (wpAny_bind (wpAny_pure (wpAny_pure ⟨_, rfl, wpAny_pure h⟩))) fits)
    | exact wpAny_bind (wpAny_bind (m := Builtin.Tuple.tupleExact _) (wpAny_newObj_type (wpAny_pure (wpAny_pure ⟨_, rfl, wpAny_pure h⟩)) fits))
    | exact wpAny_bind (wpAny_bind (m := Builtin.Tuple.tupleExact _) (wpAny_newObj_type (wpAny_pure ⟨_, rfl, wpAny_pure h⟩) fits))
end
def tRevT (K : PySem.W.Frag) (te : TE) : TE := fun σ H Q => te σ H fun x H1 => ∃ a xs, x = .ref a ∧ SqT K H1 a xs ∧ ∀ p, H1 p = none → Q (.ref p) (upd H1 p (.tup xs.reverse))
theorem pe_revT {X : Cx} {e : Expr} {te : TE} {k : Nat} {p1 p2 p3 pos : Pos} (he : PE X e te) : PE X (.Subscript e (.Slice none none (some (.UnaryOp .USub (.Constant (.int 1) k p1) p2)) p3) pos) (tRevT X.K te) := by
  refine ⟨fun pins s σ H Q I told => Subscript_ (thn (he.run pins s σ H _ I told) fun v s1 ⟨x, H1, I1, r1, a, xs, ex, hx, q⟩ => ?_)⟩
  subst ex
  cases r1
  have step : PO X (some (.UnaryOp .USub (.Constant (.int 1) k p1) p2)) (tPart (tUn (rU fun i => .int (-i)) (tC (.int 1)))) := po_some (pe_un un_neg pe_int)
  refine wpAny_Slice (thn (po_none.run pins s1 σ H1 (fun o H2 => o = none ∧ H2 = H1) I1 ⟨rfl, rfl⟩) fun vl s2 ⟨l, H2, I2, pl, el, e2⟩ => ?_)
  subst el e2
  refine thn (po_none.run pins s2 σ H2 (fun o H3 => o = none ∧ H3 = H2) I2 ⟨rfl, rfl⟩) fun vu s3 ⟨u, H3, I3, pu, eu, e3⟩ => ?_
  subst eu e3
  refine thn (step.run pins s3 σ H3 (fun o H4 => o = some (-1) ∧ H4 = H3) I3 ⟨1, rfl, -1, rfl, rfl, rfl⟩) fun vs s4 ⟨o, H4, I4, ps, eo, e4⟩ => ?_
  subst eo e4
  cases pl
  cases pu
  have I5 : Inv X pins σ H4 { s4 with heap := s4.heap.push { cls := .type "slice", data := .fields #[.none, .none, vs] } } := I4.kept (t' := s4.toks) fun b ob q => Heap.get?_push_of_some _ q
  obtain ⟨its, r, ht, hz⟩ := I5.tuple hx
  have hlen := r.length
  show wpAny (model X.prog X.w) X.A (subscriptTail e (.Slice none none (some (.UnaryOp .USub (.Constant (.int 1) k p1) p2)) p3) (.ref a) (.ref s4.heap.objs.size)) (EP X pins σ Q) X.xe { s4 with heap := s4.heap.push { cls := .type "slice", data := .fields #[.none, .none, vs] } }
  refine tail_any (ops := [.ref a, .ref s4.heap.objs.size]) ht.typeIs (PyProof.Rows.slot_tuple_getitem.lookup) ?_ (by with_unfolding_all rfl)
  refine item_rev ht (Heap.IsSliceOf.new _ .none .none vs) ps (by rw [List.size_toArray]; omega) ?_
  refine ⟨.ref _, _, I5.laid (t' := s4.toks) (o := .tup xs.reverse) (fun b ob q => Heap.get?_push_of_some _ q) (Nat.le_refl _) ?_, rfl, q _ (I5.hok.fresh (Nat.le_refl _))⟩
  exact ⟨by rw [List.length_reverse]; exact hz, _, r.reverse, _, Heap.get?_push_size _ rfl, rfl, 0, rfl⟩
/-! isinstance of them -/
def isI : T → Bool
  | .int _ => true
  | .bl _ => true
  | _ => false
def isB : T → Bool
  | .bl _ => true
  | _ => false
def isT : T → Bool
  | .tup _ => true
  | _ => false
def whole : T → Bool
  | .int _ => true
  | _ => false
section
variable {K : PySem.W.Frag} {H : Hp} {σ : L2.St} {te : TE} {v : V} {t : T}
theorem ty_lst {a : Addr} {xs : List V} (h : SqL K H a xs) : TyX K H (.ref a) (.type "list") := by
  rcases h with (h | ⟨o, h⟩) | ⟨o, its, n, h, c, _⟩
  · exact .base (.lst h)
  · exact .base (.frz h)
  · exact .kList h c
theorem ty_tup {a : Addr} {xs : List V} (h : SqT K H a xs) : TyX K H (.ref a) (.type "tuple") := by
  rcases h with (h | ⟨o, h⟩) | ⟨o, its, n, h, c, _⟩
  · exact .base (.tup h)
  · exact .fTuple h
  · exact .kTuple h c
theorem isi_int (h : An K H v t) {Q : VK} (q : Q (.bl (isI t)) H) : rIsi K [v, .ty "int"] H Q := by
  cases h with
  | non => exact ⟨_, _, _, .type "int", false, rfl, .ty "int", .base .non, kit_ty (by decide +kernel), q⟩
  | bl b => exact ⟨_, _, _, .type "int", true, rfl, .ty "int", .base (.bl b), kit_ty (by decide +kernel), q⟩
  | int i => exact ⟨_, _, _, .type "int", true, rfl, .ty "int", .base (.int i), kit_ty (by decide +kernel), q⟩
  | str x => exact ⟨_, _, _, .type "int", false, rfl, .ty "int", .base (.str x), kit_ty (by decide +kernel), q⟩
  | tup h _ => exact ⟨_, _, _, .type "int", false, rfl, .ty "int", ty_tup h, kit_ty (by decide +kernel), q⟩
  | lst h => exact ⟨_, _, _, .type "int", false, rfl, .ty "int", ty_lst h, kit_ty (by decide +kernel), q⟩
  | dct h => exact ⟨_, _, _, .type "int", false, rfl, .ty "int", .base (.dK h), kit_ty (by decide +kernel), q⟩
theorem isi_bool (h : An K H v t) {Q : VK} (q : Q (.bl (isB t)) H) : rIsi K [v, .ty "bool"] H Q := by
  cases h with
  | non => exact ⟨_, _, _, .type "bool", false, rfl, .ty "bool", .base .non, kit_ty (by decide +kernel), q⟩
  | bl b => exact ⟨_, _, _, .type "bool", true, rfl, .ty "bool", .base (.bl b), kit_ty (by decide +kernel), q⟩
  | int i => exact ⟨_, _, _, .type "bool", false, rfl, .ty "bool", .base (.int i), kit_ty (by decide +kernel), q⟩
  | str x => exact ⟨_, _, _, .type "bool", false, rfl, .ty "bool", .base (.str x), kit_ty (by decide +kernel), q⟩
  | tup h _ => exact ⟨_, _, _, .type "bool", false, rfl, .ty "bool", ty_tup h, kit_ty (by decide +kernel), q⟩
  | lst h => exact ⟨_, _, _, .type "bool", false, rfl, .ty "bool", ty_lst h, kit_ty (by decide +kernel), q⟩
  | dct h => exact ⟨_, _, _, .type "bool", false, rfl, .ty "bool", .base (.dK h), kit_ty (by decide +kernel), q⟩
theorem isi_tuple (h : An K H v t) {Q : VK} (q : Q (.bl (isT t)) H) : rIsi K [v, .ty "tuple"] H Q := by
  cases h with
  | non => exact ⟨_, _, _, .type "tuple", false, rfl, .ty "tuple", .base .non, kit_ty (by decide +kernel), q⟩
  | bl b => exact ⟨_, _, _, .type "tuple", false, rfl, .ty "tuple", .base (.bl b), kit_ty (by decide +kernel), q⟩
  | int i => exact ⟨_, _, _, .type "tuple", false, rfl, .ty "tuple", .base (.int i), kit_ty (by decide +kernel), q⟩
  | str x => exact ⟨_, _, _, .type "tuple", false, rfl, .ty "tuple", .base (.str x), kit_ty (by decide +kernel), q⟩
  | tup h _ => exact ⟨_, _, _, .type "tuple", true, rfl, .ty "tuple", ty_tup h, kit_ty (by decide +kernel), q⟩
  | lst h => exact ⟨_, _, _, .type "tuple", false, rfl, .ty "tuple", ty_lst h, kit_ty (by decide +kernel), q⟩
  | dct h => exact ⟨_, _, _, .type "tuple", false, rfl, .ty "tuple", .base (.dK h), kit_ty (by decide +kernel), q⟩
theorem v_int (h : Val te σ H v) (a : An K H v t) : Val (tCB (rIsi K) (tCons te (tCons (tC (.ty "int")) tNil))) σ H (.bl (isI t)) := fun Q q => h _ (isi_int a q)
theorem v_bool (h : Val te σ H v) (a : An K H v t) : Val (tCB (rIsi K) (tCons te (tCons (tC (.ty "bool")) tNil))) σ H (.bl (isB t)) := fun Q q => h _ (isi_bool a q)
theorem v_tuple (h : Val te σ H v) (a : An K H v t) : Val (tCB (rIsi K) (tCons te (tCons (tC (.ty "tuple")) tNil))) σ H (.bl (isT t)) := fun Q q => h _ (isi_tuple a q)
/-- isinstance(v, int) and not isinstance(v, bool) -/
theorem whole_and (hI : Val te σ H v) (h : An K H v t) : Val (tAndV (tCB (rIsi K) (tCons te (tCons (tC (.ty "int")) tNil))) (tNotV (tCB (rIsi K) (tCons te (tCons (tC (.ty "bool")) tNil))))) σ H (.bl (whole t)) := by
  intro Q q
  refine v_int hI h _ ⟨isI t, rfl, ?_⟩
  cases t with
  | int i => exact iteT (v_bool hI h _ ⟨false, rfl, q⟩)
  | bl b => exact iteT (v_bool hI h _ ⟨true, rfl, q⟩)
  | non => exact iteF q
  | str x => exact iteF q
  | tup ts => exact iteF q
  | lst => exact iteF q
  | dct => exact iteF q
/-! parts of tuples, whatever they hold -/
theorem sl_anyT {a : Addr} {xs : List V} {lo hi : Option Int} {Q : VK} (h : SqT K H a xs) (k : ∀ b H', Same H H' → SqT K H' b (cutV xs lo hi) → Q (.ref b) H') : rSlA K (.ref a) lo hi H Q := by
  refine ⟨a, xs, rfl, h, fun w => ?_, fun _ p np => k p _ (same_of np) (SqT.of upd_same)⟩
  have e : cutV xs lo hi = xs := by
    unfold cutV
    rw [w.1, w.2]
    exact List.take_of_length_le (by rw [List.length_drop]; omega)
  exact k a H (Same.refl H) (by rw [e]; exact h)
theorem cat_anyT {a b : Addr} {xs ys : List V} {Q : VK} (h1 : SqT K H a xs) (h2 : SqT K H b ys) (hl : xs.length + ys.length ≤ sizeLine) (k : ∀ c H', Same H H' → SqT K H' c (xs ++ ys) → Q (.ref c) H') : rCatA K (.ref a) (.ref b) H Q := by
  refine ⟨a, b, xs, ys, rfl, rfl, h1, h2, hl, fun e => ?_, fun _ e => ?_, fun _ _ p np => k p _ (same_of np) (SqT.of upd_same)⟩
  · subst e
    exact k b H (Same.refl H) h2
  · subst e
    exact k a H (Same.refl H) (by rw [List.append_nil]; exact h1)
end
/-- t != (), whatever t holds -/
def rNeT0 (K : PySem.W.Frag) : R2 := fun x y H Q => ∃ (a b : Addr) (xs : List V), x = .ref a ∧ y = .ref b ∧ SqT K H a xs ∧ SqT K H b [] ∧ Q (.bl (!xs.isEmpty)) H
theorem op_neT0 {X : Cx} (hu : X.A.units < cLine) : OpR X (compareOp .NotEq) (rNeT0 X.K) := by
  intro pins s σ H x y v u Q I rx ry h
  obtain ⟨a, b, xs, rfl, rfl, ha, hb, q⟩ := h
  cases rx
  cases ry
  obtain ⟨its, r1, ⟨⟨c1, d1, t1, sl1⟩, ho1, hc1, n1, hd1⟩, _⟩ := I.tuple ha
  obtain ⟨its2, r2, ⟨⟨c2, d2, t2, sl2⟩, ho2, hc2, n2, hd2⟩, _⟩ := I.tuple hb
  cases r2
  simp only at hc1 hd1 hc2 hd2
  subst hc1 hd1 hc2 hd2
  refine richCompare_meets_room (op := .NotEq) ⟨_, ho1, rfl⟩ ⟨_, ho2, rfl⟩ PySem.F.slot_tuple_ne PySem.F.entry_tuple_ne (PySem.F.args_tuple_ne_2 _ _) (PySem.SeqAt.tuple_neAt a b its.toArray ([] : List Value).toArray n1 n2 d1 d2 sl1 sl2 (fun _ => true))
    ⟨ho1, ho2, fun j h1 h2 => absurd h2 (by simp), ?_⟩ hu
  have hlen := r1.length
  have e : (!((List.range (min its.toArray.size ([] : List Value).toArray.size)).all (fun _ => true) && its.toArray.size == ([] : List Value).toArray.size)) = !xs.isEmpty := by
    cases xs with
    | nil =>
      cases r1
      rfl
    | cons c r =>
      cases r1
      simp
  rw [e]
  exact ⟨(fun z => nomatch z), ⟨.bl (!xs.isEmpty), H, I, rfl, q⟩⟩
end Lamp
set_option Elab.async false
set_option linter.all false
set_option maxRecDepth 100000
set_option maxHeartbeats 1000000
namespace Lamp
open PySem PySem.Spec PyProof.Rows L2 LamX
/-! defs that may raise: called by name, within one that lets it out, or within a lambda -/
structure DrX (P : Program) (w : World) (K : PySem.W.Frag) (mg : Str → Option Value) (base : Heap) (sp : Sp) (x : Str) (ps : List Str) (k : Nat) : Prop where
  ex : ∃ (f : Addr) (fd : FuncData), FnOk P w K mg base (L2.CX P w) k f fd ps sp ∧ Binds K fd ps [] ∧ mg x = some (.ref f) ∧ PySem.W.keepIn K (.ref f) = true
def tCallX (sp : Sp) (E : XK) (ta : TA) : TE := fun σ H Q => ta σ H fun vs H1 => sp vs H1 Q E
theorem pe_drX {X : Cx} {sp : Sp} {x : Str} {ps : List Str} {k j : Nat} {e : Expr} {es : List Expr} {t : TA} {p pos : Pos} {E : XK} (Z : DrX X.prog X.w X.K X.mg X.base sp x ps k) (hk : k ≤ j) (hr : Room j X.A) (hg : Gl X x) (hx : Passes (L2.CX X.prog X.w) X E) (ha : PA X (e :: es) t) (hdb : (x == ("__debug__" : Str)) = false := by decide)
    (he : starEach (e :: es) X.env = (false, eval e X.env) :: starEach es X.env := by rfl) (hpl : (backTo pos (starEach es X.env)).any (·.1) = false := by rfl) : PE X (.Call (.Name x p) (e :: es) [] pos) (tCallX sp E t) := by
  obtain ⟨f, fd, F, b, m, kp⟩ := Z.ex
  have z := pe_call (pos := pos) (p := p) F (hr.mono hk) hg m kp b .nil hx ha hdb he hpl
  refine ⟨fun pins s σ H Q I h => z.run pins s σ H Q I ?_⟩
  unfold tCall
  simp only [List.append_nil]
  exact h
/-- what is let out by a callee is let out -/
theorem passes_on {X : Cx} {E : XK} (tk : Takes X (fun cls d _ H => E cls d H)) : Passes (L2.CX X.prog X.w) X E := passes_call tk fun _ _ _ _ h => h
theorem raise_run {X : Cx} {C : Addr} {f : Str} {te : TE} {σ : L2.St} {H : Hp} {y : V} {Q : XK} (h : Val te σ H y) (hs : ∀ a, H a = none → Fr0 X.H_0 a) (rs : Raises X (.ref C)) (k : ∀ dx H', Same H H' → H' dx = some (exd dx [(f, y)]) → Q (.ref C) (some dx) H') :
    tMkE C f te σ H fun x H1 => ∃ (a C' : Addr) (d : Option Addr), x = .ref a ∧ H1 a = some (exo a C' d) ∧ Fr0 X.H_0 a ∧ Raises X (.ref C') ∧ Q (.ref C') d (delH H1 a) := by
  refine h _ fun a dx na nd ne => ⟨a, C, some dx, rfl, upd_same, hs a na, rs, k dx _ (fun b o e => ?_) ?_⟩
  · rw [delH_ne (ne_of_none e na), upd_ne (ne_of_none e na), upd_ne (ne_of_none e nd), upd_ne (ne_of_none e na)]
    exact e
  · rw [delH_ne ne, upd_ne ne, upd_same]
theorem xc_raises {X : Cx} {x f : Str} {C : Addr} (Z : XC X.prog X.w X.K X.mg C x f) (ty : PySem.W.typeIn X.K (.ref C) = some (.type "type")) : Raises X (.ref C) := by
  obtain ⟨B, n, i, t, T⟩ := Z.T
  exact raises_ec T ty
end Lamp
set_option Elab.async false
set_option linter.all false
set_option maxRecDepth 100000
set_option maxHeartbeats 1000000
namespace Lamp
open PySem PySem.Spec PyProof.Rows L2 LamX
/-! laws whose defs make lambdas -/
section
variable {K : PySem.W.Frag}
/-- what is changed is a list -/
theorem tabs_butL {T : List (Addr × Str)} {H H' : Hp} {p : Addr} {xs : List V} (hp : H p = some (.lst xs)) (b : But p H H') (t : Tabs T H) : Tabs T H' := fun x hx => by
  obtain ⟨ps, h1, h2, h3⟩ := t x hx
  have n1 : x.1 ≠ p := fun z => by rw [z, hp] at h1; cases h1
  refine ⟨ps, b _ _ n1 h1, h2, fun pos cv hc => ?_⟩
  obtain ⟨c', e1, e2⟩ := h3 pos cv hc
  have n2 : c' ≠ p := fun z => by rw [z, hp] at e2; unfold CodeO at e2; cases e2
  exact ⟨c', e1, b _ _ n2 e2⟩
theorem tabs_upd {T : List (Addr × Str)} {H : Hp} {l : Addr} {xs ys : List V} (h : H l = some (.lst xs)) (t : Tabs T H) : Tabs T (upd H l (.lst ys)) := fun x hx => by
  obtain ⟨ps, h1, h2, h3⟩ := t x hx
  have n1 : x.1 ≠ l := fun z => by rw [z, h] at h1; cases h1
  refine ⟨ps, by rw [upd_ne n1]; exact h1, h2, fun pos cv hc => ?_⟩
  obtain ⟨c', e1, e2⟩ := h3 pos cv hc
  have n2 : c' ≠ l := fun z => by rw [z, h] at e2; unfold CodeO at e2; cases e2
  exact ⟨c', e1, by rw [upd_ne n2]; exact e2⟩
end
section
variable {P : Program} {w : World} {K : PySem.W.Frag} {mg : Str → Option Value} {base : Heap}
/-- the rule for a def whose code object is asked -/
theorem okGC {x qual : Str} {st : Stmt} {f : Addr} {fd : FuncData} {N ps : List Str} {k : Nat} {sp : Sp} (F : Fun K x qual st f fd) (S : FnScope N ps (defScope st)) (len : ∀ vs H Q E, sp vs H Q E → vs.length = ps.length)
    (hbody : ∀ (cdv : Value) (A : Around) (outer : List Env) (s : Shared) (H : Hp) (vs : List V) (Q : VK) (E : XK), fd.code = cdv → A.guards = some [] → Room k (A.deeper (envOfC qual (defScope st) s.heap.objs.size f cdv)) → sp vs H Q E →
      ∃ t, PSs (cxOf CX0 P w K mg base N qual (defScope st) f cdv A outer s H E).nox (defBody st) t ∧ t { nx := fun _ H' => Q .non H', rt := Q } (start N vs) H) : FnG P w K mg base (k + 1) f fd ps sp := by
  obtain ⟨oc, od, kV, doc, pm, an, cdv, ct, osl, efd, hlk, hcode⟩ := F.ex
  subst efd
  refine ⟨len, fun A out s H ar us vs Q E hgd hroom hst hbind hvals hs => ?_⟩
  have hcount := len _ _ _ _ hs
  have inK : K.In s.heap := hst.mod.kin.keeps fun b o e => (hst.bs b o e).1
  have noLim : s.heap.NoLimit := hst.mod.nolimit.keeps fun b o e => (hst.bs b o e).1
  refine codeAny_call_function hroom.depth (inK _ _ hlk) rfl S.co S.gen rfl (PySem.W.codeRec_of inK hcode) (hbind _ _ _ _ ?_)
  refine wpAny_newFunctionEnv_cells S.kind (fun y hy => ?_) fun env eenv s1 xin => ?_
  · obtain ⟨nm, val⟩ := y
    cases S.par nm (List.of_mem_zip hy).1 with
    | inl isLocal => exact .inl isLocal
    | inr isCell => exact .inr ⟨isCell, PySem.W.cellsFrom_some _ _ _ (.inl isCell)⟩
  subst eenv
  refine ⟨noLim.keeps xin.toInCall.keep, codeAny_func ?_⟩
  obtain ⟨t, ht0, hq⟩ := hbody cdv A out s H vs Q E rfl hgd (hroom.deeper _) hs
  have ht := ht0.nox
  have inv0 : Inv (cxOf CX0 P w K mg base N qual (defScope st) f cdv A out s H E) [] (start N vs) H s1 := inv_start S hroom.hd hst hcount hvals xin
  have fin : ∀ {σ' : L2.St} {H' : Hp} {v : V} {u : Value} {s' : Shared}, Inv (cxOf CX0 P w K mg base N qual (defScope st) f cdv A out s H E) [] σ' H' s' → RelV v u → Q v H' → CE out P w H s Q u s' := fun J rv q => ⟨_, _, J.os, J.bare, J.base, J.hok, rv, q⟩
  refine wpAny_mono (ht.run [] s1 (start N vs) H _ inv0 hq) (fun flow s' told => ?_) fun e s' told => told
  match flow, told with
  | .ret u, ⟨v, σ', H', J, rv, q⟩ => exact fin J rv q
  | .next, ⟨σ', H', J, q⟩ => exact fin (v := V.non) (u := Value.none) J rfl q
  | .brk, ⟨_, _, _, q⟩ => exact False.elim q
  | .cont, ⟨_, _, _, q⟩ => exact False.elim q
end
theorem passes_lam2 {X : Cx} {E : XK} {A : Around} {outer : List Env} {s : Shared} {H : Hp} {scope : Scope} {f c' : Addr} : Passes (L2.CX (lamCx X A outer s H E scope f c').prog (lamCx X A outer s H E scope f c').w) (lamCx X A outer s H E scope f c') E := passes_call (X := lamCx X A outer s H E scope f c') (takes_of rfl rfl rfl rfl) fun _ _ _ _ h => h
end Lamp
set_option Elab.async false
set_option linter.all false
set_option maxRecDepth 100000
set_option maxHeartbeats 1000000
namespace Lamp
open PySem PySem.Spec PyProof.Rows L2 LamX
abbrev sThing : Stmt := top 159
section
variable {P : Program} {w : World} {K : PySem.W.Frag} {mg : Str → Option Value} {base : Heap}
/-! the things -/
def things : List PyData := [.none, .bool true, .bool false, .int 0, .int 1, .int (-1), .int 2, .int 4, .int (-(10 ^ (39 : Int).toNat)), .str "", .str "a", .str "levels 2 end 0 dark", .tuple [], .tuple [.int 0], .tuple [.int 0, .int 1], .str "A"] ++
  [.list [], .list [.int 1], .dict [], .dict [(.str "a", .int 1)], .tuple [.tuple [.int 0, .int 1]], .tuple [.tuple [.int 1, .int 1], .tuple [.int 0, .int 1]], .tuple [.str "step", .int 1], .tuple [.none], .str "abcdefghi", .str "+>", .int 11]
theorem things_ok : things.all okD = true := by decide +kernel
def spThing (K : PySem.W.Frag) : Sp := fun vs H Q _ => ∃ (p : Addr), vs = [.ref p] ∧ Pail H p ∧ ∀ (v : V) (d : PyData) H', Dq K (delH H' p) v d → d ∈ things → Pail H' p → But p H H' → Q v H'
theorem sq_lstQ {ta : TA} {ds : List PyData} {t2 : TS} {D : Ends} {σ : L2.St} {H : Hp} {i : Nat} {p : Addr} (h : EvQs K p ta ds) (hp : Pail H p) (hl : ds.length ≤ 100)
    (k : ∀ l vs H', H' l = some (.lst vs) → l ≠ p → Same H H' → Paired (Dq K (delH H' p)) vs ds → t2 D (σ.set i (some (.ref l))) H') : tSeq (tAsg (tLst ta) (gName i)) t2 D σ H := h σ H hp _ fun vs H1 s1 d1 => by
  have hlen := Paired.length d1
  refine ⟨Nat.le_of_lt (small1000 (by omega)), fun r hr => ?_⟩
  have s2 : Same H1 (upd H1 r (.lst vs)) := same_of hr
  exact k r vs _ upd_same ((hp.same s1).ne hr) (s1.trans s2) (paired_same (But.of s2).del d1)
theorem sq_catQ {ta : TA} {ds ds0 : List PyData} {vs0 : List V} {t2 : TS} {D : Ends} {σ : L2.St} {H : Hp} {i : Nat} {p l0 : Addr} (hx : σ[i]? = some (some (.ref l0))) (h0 : H l0 = some (.lst vs0)) (ne0 : l0 ≠ p) (d0 : Paired (Dq K (delH H p)) vs0 ds0) (h : EvQs K p ta ds) (hp : Pail H p) (hl : ds.length ≤ 100) (hl0 : ds0.length ≤ 100)
    (k : ∀ l vs H', H' l = some (.lst vs) → l ≠ p → Same H H' → Paired (Dq K (delH H' p)) vs (ds0 ++ ds) → t2 D (σ.set i (some (.ref l))) H') : tSeq (tAsg (tOp rCat (tVar i) (tLst ta)) (gName i)) t2 D σ H := by
  refine ⟨_, hx, h σ H hp _ fun vs H1 s1 d1 => ?_⟩
  have hlen := Paired.length d1
  have hlen0 := Paired.length d0
  refine ⟨Nat.le_of_lt (small1000 (by omega)), fun r hr => ?_⟩
  have s2 : Same H1 (upd H1 r (.lst vs)) := same_of hr
  refine ⟨l0, r, vs0, vs, rfl, rfl, s2 _ _ (s1 _ _ h0), upd_same, Nat.le_of_lt (small1000 (by omega)), fun r2 hr2 => ?_⟩
  have s3 : Same (upd H1 r (.lst vs)) (upd (upd H1 r (.lst vs)) r2 (.lst (vs0 ++ vs))) := same_of hr2
  exact k r2 _ _ upd_same (((hp.same s1).same s2).ne hr2) ((s1.trans s2).trans s3) (paired_app (paired_same (But.of ((s1.trans s2).trans s3)).del d0) (paired_same (But.of (s2.trans s3)).del d1))
theorem scThing : FnScope ["_law_pail", "_law_menu"] ["_law_pail"] (defScope sThing) := ⟨rfl, rfl, rfl, by decide +kernel, rfl, by decide +kernel, by decide +kernel⟩
local macro_rules | `(tactic| walk_at "pe") => `(tactic| first
  | exact pe_non
  | exact pe_bl
  | exact pe_int
  | exact pe_str
  | (refine' pe_un un_neg ?ha; (case ha => walk_at "pe"))
  | (refine' pe_op op_pow ?ha ?hb; (case ha => walk_at "pe"); (case hb => walk_at "pe"))
  | (refine' pe_tup ?ha; (case ha => walk_at "pa"))
  | (refine' pe_lst ?ha; (case ha => walk_at "pa"))
  | exact pe_dnewK
  | exact pe_disp (pps_cons pe_str pe_int pps_nil) (by rfl) (by rfl) (fun z => by cases z) (by decide))
local macro_rules | `(tactic| walk_at "pa") => `(tactic| first
  | exact pa_nil
  | (refine' pa_cons ?ha ?hb; (case ha => walk_at "pe"); (case hb => walk_at "pa")))
local macro_rules | `(tactic| walk_at "evp") => `(tactic| first
  | exact evp_non
  | exact evp_bl
  | exact evp_int
  | exact evp_str
  | (refine' evp_neg ?ha; (case ha => walk_at "evp"))
  | exact evp_pow ⟨by decide, by decide, by decide⟩
  | (refine' evp_tup ?ha ?hb; (case ha => walk_at "evps"); (case hb => decide))
  | (refine' evp_lst ?ha ?hb; (case ha => walk_at "evps"); (case hb => decide)))
local macro_rules | `(tactic| walk_at "evps") => `(tactic| first
  | exact evps_nil
  | (refine' evps_cons ?ha ?hb; (case ha => walk_at "evp"); (case hb => walk_at "evps")))
local macro_rules | `(tactic| walk_at "evqs") => `(tactic| first
  | exact evqs_nil
  | (refine' evqs_cons ?ha ?hb; (case ha => first | exact evq_d0 | exact evq_d1 | (refine' evq_of ?hc; (case hc => walk_at "evp"))); (case hb => walk_at "evqs")))
theorem ok_thing {f fA : Addr} {fd fdA : FuncData} {k : Nat} (F : Fun K "_law_thing" "_law_thing" sThing f fd) (G : FnOk P w K mg base CX0 k fA fdA ["_law_pail", "_law_some"] spAny) (bA : Binds K fdA ["_law_pail", "_law_some"] []) (mA : mg "_law_any_of" = some (.ref fA)) (kA : PySem.W.keepIn K (.ref fA) = true) :
    FnOk P w K mg base CX0 (k + 1) f fd ["_law_pail"] (spThing K) := by
  refine F.ok scThing (fun vs H Q E h => ?_) (fun cdv A outer s H vs Q E hr h => ?_)
  · obtain ⟨p, rfl, _⟩ := h
    rfl
  · obtain ⟨p, rfl, hp, q⟩ := h
    refine ⟨_, pss_cons (ps_set (i := 1) scThing.nd rfl (.inl rfl) (pe_lst (by walk_at "pa")))
      (pss_cons (ps_set (i := 1) scThing.nd rfl (.inl rfl) (pe_op op_cat (pv 1) (pe_lst (by walk_at "pa"))))
      (pss_one (ps_ret (pe_call G hr rfl mA kA bA .nil pass0 (pa_cons (pv 0) (pa_cons (pv 1) pa_nil)))))), ?_⟩
    refine sq_lstQ (K := K) (ds := things.take 16) (by walk_at "evqs") hp (by decide) fun l0 vs0 H0 hl0 ne0 s0 d0 => ?_
    refine sq_catQ (K := K) (ds := things.drop 16) (l0 := l0) rfl hl0 ne0 d0 (by walk_at "evqs") (hp.same s0) (by decide) (by decide) fun l1 vs1 H1 hl1 ne1 s1 d1 => ?_
    have hlen : vs1.length = 27 := by rw [Paired.length d1]; decide
    refine ⟨_, rfl, _, rfl, p, l1, vs1, rfl, ne1, hl1, by omega, by omega, (hp.same s0).same s1, fun v H2 hv hp2 bt => ?_⟩
    obtain ⟨d, hd, hdq⟩ := paired_mem d1 hv
    exact q v d H2 (dq_same bt.del hdq) (by rw [← List.take_append_drop 16 things]; exact hd) hp2 ((But.of (s0.trans s1)).trans bt)
theorem things_okD {d : PyData} (h : d ∈ things) : okD d = true := by
  have hall := things_ok
  rw [List.all_eq_true] at hall
  exact hall d h
end
end Lamp
set_option Elab.async false
set_option linter.all false
set_option maxRecDepth 100000
set_option maxHeartbeats 1000000
namespace LampMx
open PySem PySem.Spec PyProof.Rows
/-! max(list of ints, default=number) -/
section
variable {P : Program} {wd : World} {A : Around} {R : Result → Shared → Prop} {it : Addr} {own chg : List Addr} {n : Nat} {St : Nat → Heap → Prop} {f : Nat → Int}
abbrev IsNum (f : Nat → Int) : Nat → Value → Prop := fun i v => ∃ t, v = .int (f i) t
/-- the greatest of the first j -/
def Top (f : Nat → Int) (j : Nat) (m : Int) : Prop := (∀ i < j, f i ≤ m) ∧ ∃ i < j, f i = m
theorem Top.next {j : Nat} {m : Int} (h : Top f j m) : Top f (j + 1) (if f j > m then f j else m) := by
  obtain ⟨h1, i, hi, e⟩ := h
  split
  · exact ⟨fun k hk => by
      rcases (by omega : k < j ∨ k = j) with z | z
      · have := h1 k z
        omega
      · subst z
        exact Int.le_refl _, j, Nat.lt_succ_self _, rfl⟩
  · exact ⟨fun k hk => by
      rcases (by omega : k < j ∨ k = j) with z | z
      · exact h1 k z
      · subst z
        omega, i, Nat.lt_succ_of_lt hi, e⟩
theorem loop_name : (toString "max" ++ toString ".loop" : String) = "max.loop" := by decide
theorem go_on (Wk : Walks P wd A.in1 it own chg n (IsNum f) St) (box : Addr) (apart : box ∉ own) (kw : List (Str × Value)) : ∀ (m j : Nat) (s : Shared) (b : Int) (t : Tok) (k : Nat), n = j + m → St j s.heap → Top f j b →
    s.heap.get? box = some { cls := .type "list", dict := none, data := .seq #[.int b t, .int b t] k, slots := #[] } →
    (∀ top u h' tk, Top f n top → (∀ x o, x ∉ chg → x ≠ box → s.heap.get? x = some o → h'.get? x = some o) → R (.ok (.ret (.int top u))) { s with heap := h', toks := tk }) →
    codeAny (model P wd) A (.builtin "max.loop" ⟨[.ref it, .none, .ref box], kw⟩) R s := by
  have apart' : box ∉ chg := fun h => apart (Wk.sub _ h)
  intro m
  induction m with
  | zero =>
    intro j s b t k hn here best hbox told
    have hj : j = n := by omega
    subst hj
    refine codeAny_builtin F.entry_max_loop ?_
    rw [Around.under_plainId F.plain_max_loop _]
    show wpAny _ A.in1 (seqItems? (.ref box) >>= _) _ _ s
    refine wpAny_bind (wpAny_seqItems hbox rfl ?_)
    show wpAny _ A.in1 (tryCatch (pyNext (.ref it)) _ >>= _) _ _ s
    refine wpAny_bind (wpAny_tryCatch (Wk.done s _ _ here fun h' tk same => ?_))
    have hbox' := same box _ apart' hbox
    show wpAny _ A.in1 (updateSeq box (fun _ => #[]) >>= _) _ _ _
    refine wpAny_bind (wpAny_updateSeq hbox' rfl (wpAny_bind (wpAny_letGo (wpAny_pure ?_))))
    exact told b t _ tk best fun x o h1 h2 e => (Heap.get?_update_other _ _ (Ne.symm h2)).trans (same x o h1 e)
  | succ m ih =>
    intro j s b t k hn here best hbox told
    refine codeAny_builtin F.entry_max_loop ?_
    rw [Around.under_plainId F.plain_max_loop _]
    show wpAny _ A.in1 (seqItems? (.ref box) >>= _) _ _ s
    refine wpAny_bind (wpAny_seqItems hbox rfl ?_)
    show wpAny _ A.in1 (tryCatch (pyNext (.ref it)) _ >>= _) _ _ s
    refine wpAny_bind (wpAny_tryCatch (Wk.item j s _ _ (by omega) here fun v h' tk isn next same => ?_))
    obtain ⟨t', rfl⟩ := isn
    have hbox' := same box _ apart' hbox
    have cmp : CmpOf P wd A.in1 .Gt (fun (i : Nat) v => ∃ u, v = .int (if i = 0 then f j else b) u) _ := CmpOf.ints_gt (fun i => if i = 0 then f j else b) (fun i v z => z)
    show wpAny _ A.in1 (tryCatch (holding [.int (f j) t', .int (f j) t'] (richCompare .Gt (.int (f j) t') (.int b t) >>= _)) _ >>= _) _ _ _
    refine wpAny_bind (wpAny_tryCatch (wpAny_holding (wpAny_bind (cmp 0 1 _ _ _ _ _ ⟨t', rfl⟩ ⟨t, rfl⟩ ?_))))
    refine wpAny_bind (wpAny_holding (wpAny_truthy_bool ?_))
    refine wpAny_bind (wpAny_letGo (wpAny_pure ?_))
    have nb := best.next
    show wpAny _ A.in1 (if decide (f j > b) = true then _ else _) _ _ _
    by_cases hb : f j > b
    · rw [if_pos hb] at nb
      rw [decide_eq_true hb]
      simp only [if_true]
      refine wpAny_bind (wpAny_updateSeq hbox' rfl (wpAny_bind (wpAny_letGo ?_)))
      rw [loop_name]
      refine wpAny_pure ⟨plainId_quiet F.plain_max_loop _, ih (j + 1) _ (f j) t' _ (by omega) (Wk.frame _ _ _ next fun x hx o e => ?_) nb (Heap.get?_update_self _ hbox' rfl) fun top u h2 tk2 ht same2 => ?_⟩
      · exact (Heap.get?_update_other _ _ (fun z : box = x => apart (by rw [z]; exact hx))).trans e
      · exact told top u h2 tk2 ht fun x o h3 h4 e => same2 x o h3 h4 ((Heap.get?_update_other _ _ (Ne.symm h4)).trans (same x o h3 e))
    · rw [if_neg hb] at nb
      rw [decide_eq_false hb]
      simp only [Bool.false_eq_true, if_false]
      refine wpAny_bind (wpAny_letGo ?_)
      rw [loop_name]
      refine wpAny_pure ⟨plainId_quiet F.plain_max_loop _, ih (j + 1) _ b t k (by omega) next nb hbox' fun top u h2 tk2 ht same2 => ?_⟩
      exact told top u h2 tk2 ht fun x o h3 h4 e => same2 x o h3 h4 (same x o h3 e)
/-- from the start on -/
theorem go_first (Wk : Walks P wd A.in1 it own chg n (IsNum f) St) (box : Addr) (apart : box ∉ own) {d : Value} {s : Shared} {k : Nat} (here : St 0 s.heap)
    (hbox : s.heap.get? box = some { cls := .type "list", dict := none, data := .seq #[] k, slots := #[] })
    (told : ∀ top u h' tk, Top f n top → (∀ x o, x ∉ chg → x ≠ box → s.heap.get? x = some o → h'.get? x = some o) → R (.ok (.ret (.int top u))) { s with heap := h', toks := tk })
    (none' : n = 0 → ∀ h' tk, (∀ x o, x ∉ chg → x ≠ box → s.heap.get? x = some o → h'.get? x = some o) → R (.ok (.ret d)) { s with heap := h', toks := tk }) :
    codeAny (model P wd) A (.builtin "max.loop" ⟨[.ref it, .none, .ref box], [("default", d)]⟩) R s := by
  have apart' : box ∉ chg := fun h => apart (Wk.sub _ h)
  refine codeAny_builtin F.entry_max_loop ?_
  rw [Around.under_plainId F.plain_max_loop _]
  show wpAny _ A.in1 (seqItems? (.ref box) >>= _) _ _ s
  refine wpAny_bind (wpAny_seqItems hbox rfl ?_)
  show wpAny _ A.in1 (tryCatch (pyNext (.ref it)) _ >>= _) _ _ s
  by_cases hn : n = 0
  · subst hn
    refine wpAny_bind (wpAny_tryCatch (Wk.done s _ _ here fun h' tk same => ?_))
    refine wpAny_bind (wpAny_rule (wpAny_pure ?_))
    exact none' rfl h' tk fun x o h1 h2 e => same x o h1 e
  · refine wpAny_bind (wpAny_tryCatch (Wk.item 0 s _ _ (by omega) here fun v h' tk isn next same => ?_))
    obtain ⟨t', rfl⟩ := isn
    have hbox' := same box _ apart' hbox
    show wpAny _ A.in1 (updateSeq box (fun _ => #[.int (f 0) t', .int (f 0) t']) >>= _) _ _ _
    refine wpAny_bind (wpAny_updateSeq hbox' rfl ?_)
    rw [loop_name]
    refine wpAny_pure ⟨plainId_quiet F.plain_max_loop _, go_on Wk box apart _ (n - 1) 1 _ (f 0) t' _ (by omega) (Wk.frame _ _ _ next fun x hx o e => ?_) ⟨fun i hi => by
      have : i = 0 := by omega
      subst this
      exact Int.le_refl _, 0, by decide, rfl⟩ (Heap.get?_update_self _ hbox' rfl) fun top u h2 tk2 ht same2 => ?_⟩
    · exact (Heap.get?_update_other _ _ (fun z : box = x => apart (by rw [z]; exact hx))).trans e
    · exact told top u h2 tk2 ht fun x o h3 h4 e => same2 x o h3 h4 ((Heap.get?_update_other _ _ (Ne.symm h4)).trans (same x o h3 e))
end
theorem args_maxD (a d : Value) : argsOk "max" ⟨[a], [("default", d)]⟩ := by unfold argsOk; kernel_rfl
section
variable {P : Program} {wd : World} {A : Around} {E : Value → Shared → Prop} {s : Shared}
/-- a built-in whose work goes on in another -/
theorem fn_kw {id : String} {b : Builtin} {pos : List Value} {kw : List (Str × Value)} {Q : Value → Shared → Prop} (kind : builtinKind id = none) (plain : plainId id = true) (entry : entryFor table id = some b) (args : argsOk id ⟨pos, kw⟩)
    (body : wpAny (model P wd) A.in1 (b ⟨pos, kw⟩) (fun fin s' => match fin with
      | .done fl => (match (Except.ok fl : Result) with | .ok (.ret v) => Q v s' | .ok _ => False | .error e => E e s')
      | .again c => c.quiet = true ∧ codeAny (model P wd) A c (fun r s' => match r with | .ok (.ret v) => Q v s' | .ok _ => False | .error e => E e s') s') E s) :
    wpAny (model P wd) A (call (.builtin id) pos kw) Q E s := by
  apply wpAny_call
  apply codeAny_call_builtin plain entry
  unfold checkBuiltinCall
  simp only [kind]
  cases sg : Manifest.signature? id with
  | none => exact wpAny_pure body
  | some sig =>
    unfold argsOk at args
    simp only [sg] at args
    have ok : Bind.checkArgs id sig ⟨pos, kw⟩ = pure () := args
    show wpAny _ A.in1 (Bind.checkArgs id sig ⟨pos, kw⟩) _ _ s
    rw [ok]
    exact wpAny_pure body
theorem maxD_ints {l : Addr} {its : List Value} {ns : List Int} {d : Value} {Q : Value → Shared → Prop} (hh : A.handled = none) (hl : s.heap.IsList l its.toArray) (hi : IntsAre its ns)
    (q0 : ns = [] → ∀ h' tk, (∀ b o, s.heap.get? b = some o → h'.get? b = some o) → Q d { s with heap := h', toks := tk })
    (q : ∀ m u h' tk, m ∈ ns → (∀ y ∈ ns, y ≤ m) → (∀ b o, s.heap.get? b = some o → h'.get? b = some o) → Q (.int m u) { s with heap := h', toks := tk }) :
    wpAny (model P wd) A (call (.builtin "max") [.ref l] [("default", d)]) Q E s := by
  obtain ⟨xs, e⟩ := hi.allInts.items
  have hn : numsOf (intItems xs).toList = ns := by rw [← e]; exact hi.numsOf
  rw [nums_intItems] at hn
  subst hn
  rw [e] at hl
  refine fn_kw F.kind_max F.plain_max F.entry_max (args_maxD _ _) ?_
  show wpAny _ A.in1 (Builtin.Builtins.bindParams "max" ["key", "default"] 0 ⟨[], [("default", d)]⟩ >>= _) _ _ s
  refine wpAny_bind (wpAny_of_eq (show Builtin.Builtins.bindParams "max" ["key", "default"] 0 ⟨[], [("default", d)]⟩ = pure [none, some d] from rfl) ?_)
  refine wpAny_bind (wpAny_pure ?_)
  refine wpAny_bind (iter_intList hl fun s2 e2 st far ne => ?_)
  subst e2
  refine wpAny_bind (wpAny_newObj_type ?_)
  rw [loop_name]
  have out : ∀ b ∈ [s.heap.objs.size, l], b ≠ (s.heap.push { cls := .type "list_iterator", data := .fields #[.ref l, .int 0 0] }).objs.size := fun b hb => Nat.ne_of_lt (far b hb)
  refine wpAny_pure ⟨plainId_quiet F.plain_max_loop _, go_first (f := numAt xs) (n := (intItems xs).size) (it := s.heap.objs.size) (own := [s.heap.objs.size, l]) (chg := [s.heap.objs.size]) (St := fun i h => h.IsListIter s.heap.objs.size l i ∧ h.IsList l (intItems xs)) ?_ _ ?_ ?_ (Heap.get?_push_size _ rfl) (fun top u h' tk ht same => ?_) fun z h' tk same => ?_⟩
  · have W := Walks.list (prog := P) (w := wd) (A := A.in1) hh s.heap.objs.size l ne (intItems xs)
    exact ⟨W.sub, W.frame, fun i s Q E hi st told => W.item i s Q E hi st fun v h' tk hv => told v h' tk (intItems_at hv), W.done, W.self⟩
  · exact fun hm => out _ hm rfl
  · exact ⟨st.1.at fun o e => Heap.get?_push_of_some _ e, st.2.push _⟩
  · obtain ⟨h1, j, hj, h2⟩ := ht
    have hsz : (intItems xs).size = xs.size := by simp [intItems]
    rw [hsz] at h1 hj
    refine q top u h' tk ?_ (fun y hy => ?_) fun b o e => ?_
    · rw [← h2, numAt_eq]
      exact PySem.getD_mem (by rw [List.length_map, Array.length_toList]; omega)
    · obtain ⟨k, hk, rfl⟩ := mem_getD hy
      rw [List.length_map, Array.length_toList] at hk
      rw [← numAt_eq]
      exact h1 k hk
    · refine same b o (fun hm => ?_) (fun z => ?_) (Heap.get?_push_of_some _ (Heap.get?_push_of_some _ e))
      · rw [List.mem_singleton.mp hm] at e
        exact absurd (Heap.lt_size e) (Nat.lt_irrefl _)
      · have := Heap.lt_size e
        rw [z] at this
        have e2 : (s.heap.push { cls := .type "list_iterator", data := .fields #[.ref l, .int 0 0] }).objs.size = s.heap.objs.size + 1 := Heap.size_push ..
        rw [e2] at this
        exact Nat.lt_irrefl _ (Nat.lt_trans (Nat.lt_succ_self _) this)
  · have hsz : (intItems xs).size = xs.size := by simp [intItems]
    rw [hsz] at z
    refine q0 ?_ h' tk fun b o e => ?_
    · have : xs.toList.length = 0 := by rw [Array.length_toList]; exact z
      rw [List.length_eq_zero_iff.mp this]
      rfl
    · refine same b o (fun hm => ?_) (fun z => ?_) (Heap.get?_push_of_some _ (Heap.get?_push_of_some _ e))
      · rw [List.mem_singleton.mp hm] at e
        exact absurd (Heap.lt_size e) (Nat.lt_irrefl _)
      · have := Heap.lt_size e
        rw [z] at this
        have e2 : (s.heap.push { cls := .type "list_iterator", data := .fields #[.ref l, .int 0 0] }).objs.size = s.heap.objs.size + 1 := Heap.size_push ..
        rw [e2] at this
        exact Nat.lt_irrefl _ (Nat.lt_trans (Nat.lt_succ_self _) this)
end
end LampMx
namespace Lamp
open PySem PySem.Spec PyProof.Rows L2
/-- max(xs, default=d) -/
def rMaxD (K : PySem.W.Frag) : List V → List V → Hp → VK → Prop := fun vs zs H Q => ∃ (a : Addr) (ns : List Int) (d : Int), vs = [.ref a] ∧ zs = [.int d] ∧ SqL K H a (ns.map V.int) ∧ (ns = [] → Q (.int d) H) ∧ ∀ m ∈ ns, (∀ y ∈ ns, y ≤ m) → Q (.int m) H
theorem cr_maxD {X : Cx} (hc : X.calm = true) : CallRK X (.builtin "max") ["default"] (rMaxD X.K) := by
  intro pins s σ H vs zs us ws Q I r r2 h
  obtain ⟨a, ns, d, rfl, rfl, hs, q0, q⟩ := h
  obtain ⟨its, rv, hl, _⟩ := I.list hs
  rw [Vals.ref1 r]
  obtain ⟨dv, rfl, t, rfl⟩ := vals1 r2
  exact LampMx.maxD_ints (I.ok.hd hc) hl.isList rv.ints (fun e h' tk hk => ⟨.int d, H, I.kept hk, ⟨_, rfl⟩, q0 e⟩) fun m u h' tk h1 h2 hk => ⟨.int m, H, I.kept hk, ⟨_, rfl⟩, q m h1 h2⟩
end Lamp
set_option Elab.async false
set_option linter.all false
set_option maxRecDepth 100000
set_option maxHeartbeats 1000000
namespace Lamp
open PySem PySem.Spec PyProof.Rows L2
/-! comprehensions over pairs of addresses and what stands there -/
theorem fb_fst {β : Type} : ∀ {as : List Addr} {rs : List β}, as.length = rs.length → (as.zip rs).map (fun p => V.ref p.1) = as.map V.ref
  | [], [], _ => rfl
  | a :: as, r :: rs, h => by
    show V.ref a :: (as.zip rs).map (fun p => V.ref p.1) = _
    rw [fb_fst (Nat.succ.inj h)]
    rfl
theorem fb_snd {β γ : Type} (f : β → γ) : ∀ {as : List Addr} {rs : List β}, as.length = rs.length → (as.zip rs).map (fun p => f p.2) = rs.map f
  | [], [], _ => rfl
  | a :: as, r :: rs, h => by
    show f r :: (as.zip rs).map (fun p => f p.2) = _
    rw [fb_snd f (Nat.succ.inj h)]
    rfl
theorem fb_out {α β : Type} {f : α → β} (l : List α) : l.filterMap (fun x => some (f x)) = l.map f := by
  induction l with
  | nil => rfl
  | cons x l ih => rw [List.filterMap_cons, ih]; rfl
theorem fb_if {α β : Type} {g : α → Bool} {f : α → β} (l : List α) : l.filterMap (fun x => if g x = true then some (f x) else none) = (l.filter g).map f := by
  induction l with
  | nil => rfl
  | cons x l ih =>
    rw [List.filterMap_cons, ih, List.filter_cons]
    cases g x <;> rfl
theorem fb_at {β : Type} : ∀ {as : List Addr} {rs : List β} {i : Nat} {u : Addr × β}, (as.zip rs)[i]? = some u → as[i]? = some u.1 ∧ rs[i]? = some u.2
  | [], _, _, _, h => by simp at h
  | _ :: _, [], _, _, h => by simp at h
  | a :: as, r :: rs, 0, u, h => by
    have e : (a, r) = u := Option.some.inj h
    rw [← e]
    exact ⟨rfl, rfl⟩
  | a :: as, r :: rs, i + 1, u, h => fb_at (as := as) (rs := rs) (i := i) h
theorem fb_ints {ys : List V} {zs : List Int} (h : Paired (fun v (z : Int) => v = V.int z) ys zs) : ys = zs.map V.int := by
  induction zs generalizing ys with
  | nil => cases h; rfl
  | cons z zs ih =>
    cases h with
    | cons e t => rw [e, ih t]; rfl
theorem fb_strs {ys : List V} {zs : List Str} (h : Paired (fun v (z : Str) => v = V.str z) ys zs) : ys = zs.map V.str := by
  induction zs generalizing ys with
  | nil => cases h; rfl
  | cons z zs ih =>
    cases h with
    | cons e t => rw [e, ih t]; rfl
theorem fb_get {α β : Type} {R : α → β → Prop} : ∀ {as : List α} {bs : List β} {i : Nat} {a : α}, Paired R as bs → as[i]? = some a → ∃ b, bs[i]? = some b ∧ R a b
  | _, _, 0, _, .cons h _, e => ⟨_, rfl, by cases Option.some.inj e; exact h⟩
  | _, _, i + 1, a, .cons _ t, e => fb_get (i := i) t e
  | _, _, _, _, .nil, e => by cases e
theorem fb_get' {α β : Type} {R : α → β → Prop} : ∀ {as : List α} {bs : List β} {i : Nat} {b : β}, Paired R as bs → bs[i]? = some b → ∃ a, as[i]? = some a ∧ R a b
  | _, _, 0, _, .cons h _, e => ⟨_, rfl, by cases Option.some.inj e; exact h⟩
  | _, _, i + 1, b, .cons _ t, e => fb_get' (i := i) t e
  | _, _, _, _, .nil, e => by cases e
theorem fb_len {α β : Type} {R : α → β → Prop} : ∀ {as : List α} {bs : List β}, Paired R as bs → as.length = bs.length
  | _, _, .nil => rfl
  | _, _, .cons _ t => by rw [List.length_cons, List.length_cons, fb_len t]
/-- atI at a place that is told by a number from 0 on -/
theorem fb_ix {xs : List V} {n : Nat} {x : V} (h : xs[n]? = some x) : atI xs (n : Int) = some x := L2.at_of (j := n) rfl h
theorem lay_ints : ∀ (ns : List Int), PyData.canLayAll0 (ns.map PyData.int) = true ∧ PyData.depthAll (ns.map PyData.int) = 0
  | [] => ⟨rfl, rfl⟩
  | n :: r => by
    obtain ⟨h1, h2⟩ := lay_ints r
    refine ⟨?_, ?_⟩
    · show (true && PyData.canLayAll0 (r.map PyData.int)) = true
      rw [h1]
      rfl
    · show max 0 (PyData.depthAll (r.map PyData.int)) = 0
      rw [h2]
      rfl
theorem shaped_ints (ns : List Int) : SeqAt.shaped (.list (ns.map PyData.int)) = true := by
  obtain ⟨h1, h2⟩ := lay_ints ns
  unfold SeqAt.shaped
  rw [Bool.and_eq_true]
  refine ⟨h1, decide_eq_true ?_⟩
  show PyData.depthAll (ns.map PyData.int) + 1 ≤ 64
  omega
theorem dp_ints {K : PySem.W.Frag} {H : Hp} : ∀ (ns : List Int), DpAll K H (ns.map V.int) (ns.map PyData.int)
  | [] => .nil
  | n :: ns => .cons (.int _) (dp_ints ns)
/-- two ways that meet again -/
theorem fb_seq {A B : TS} {D : Ends} {σ : L2.St} {H : Hp} (R : L2.St → Hp → Prop) (h : ∀ T : L2.St → Hp → Prop, (∀ σ' H', R σ' H' → T σ' H') → A { D with nx := T } σ H) (k : ∀ σ' H', R σ' H' → B D σ' H') : tSeq A B D σ H := h (B D) k
end Lamp
set_option Elab.async false
set_option linter.all false
set_option maxRecDepth 100000
set_option maxHeartbeats 1000000
namespace Lamp
open PySem PySem.Spec PyProof.Rows L2 LamX
/-! values of any kind are no instances -/
structure NoKd (K : PySem.W.Frag) (C : Addr) : Prop where
  k1 : PySem.W.kitOne K (.type "NoneType") (.ref C) = some false
  k2 : PySem.W.kitOne K (.type "bool") (.ref C) = some false
  k3 : PySem.W.kitOne K (.type "int") (.ref C) = some false
  k4 : PySem.W.kitOne K (.type "str") (.ref C) = some false
  k5 : PySem.W.kitOne K (.type "list") (.ref C) = some false
  k6 : PySem.W.kitOne K (.type "tuple") (.ref C) = some false
  k7 : PySem.W.kitOne K (.type "dict") (.ref C) = some false
def noKdB (K : PySem.W.Frag) (C : Addr) : Bool := ["NoneType", "bool", "int", "str", "list", "tuple", "dict"].all fun n => decide (PySem.W.kitOne K (.type n) (.ref C) = some false)
theorem noKdB_ok {K : PySem.W.Frag} {C : Addr} (h : noKdB K C = true) : NoKd K C := by
  unfold noKdB at h
  simp only [List.all_cons, List.all_nil, Bool.and_eq_true, decide_eq_true_eq] at h
  obtain ⟨h1, h2, h3, h4, h5, h6, h7, _⟩ := h
  exact ⟨h1, h2, h3, h4, h5, h6, h7⟩
theorem isi_own {K : PySem.W.Frag} {H : Hp} {C : Addr} {v : V} {t : T} (N : NoKd K C) (h : An K H v t) {Q : VK} (q : Q (.bl false) H) : rIsi K [v, .ref C] H Q := by
  cases h with
  | non => exact ⟨_, _, _, .ref C, false, rfl, .own C, .base .non, N.k1, q⟩
  | bl b => exact ⟨_, _, _, .ref C, false, rfl, .own C, .base (.bl b), N.k2, q⟩
  | int i => exact ⟨_, _, _, .ref C, false, rfl, .own C, .base (.int i), N.k3, q⟩
  | str x => exact ⟨_, _, _, .ref C, false, rfl, .own C, .base (.str x), N.k4, q⟩
  | tup h _ => exact ⟨_, _, _, .ref C, false, rfl, .own C, ty_tup h, N.k6, q⟩
  | lst h => exact ⟨_, _, _, .ref C, false, rfl, .own C, ty_lst h, N.k5, q⟩
  | dct h => exact ⟨_, _, _, .ref C, false, rfl, .own C, .base (.dK h), N.k7, q⟩
end Lamp
set_option Elab.async false
set_option linter.all false
set_option maxRecDepth 100000
set_option maxHeartbeats 2000000
namespace Lamp
open PySem PySem.Spec PyProof.Rows L2 LamX
/-! what may stand among the rounds of a lot -/
abbrev sIsSmall : Stmt := top 46
abbrev sWrongR : Stmt := top 47
def sizeI (e : Int) : Int := if e < 0 then -e else e
/-- keeps the bounds of lots -/
def smallB (fin : Int) (ls : List (Int × Int)) : Bool := (ls.all fun q => decide (sizeI q.1 ≤ 24)) && decide (sizeI fin ≤ 8)
def spIsSmall (K : PySem.W.Frag) (C : Addr) : Sp := fun vs H Q _ => ∃ (a : Addr) (lv fin : Int) (ls : List (Int × Int)), vs = [.ref a] ∧ RndW K C H a lv fin ls ∧ ∀ H', Same H H' → Q (.bl (smallB fin ls)) H'
inductive El where
  | rnd (lv fin : Int) (ls : List (Int × Int))
  | oth (d : PyData)
def ElAt (K : PySem.W.Frag) (C : Addr) (H : Hp) (v : V) : El → Prop
  | .rnd lv fin ls => ∃ a, v = .ref a ∧ RndW K C H a lv fin ls
  | .oth d => Dq K H v d
def okEl (lv0 : Int) : El → Bool
  | .rnd lv fin ls => decide (lv = lv0) && smallB fin ls
  | .oth _ => false
def lvOf : List El → Int
  | .rnd lv _ _ :: _ => lv
  | _ => 0
def wrongGo (lv0 : Int) : Nat → List El → Option Nat
  | _, [] => none
  | i, e :: es => if i = 4 then some i else if okEl lv0 e = true then wrongGo lv0 (i + 1) es else some i
def wrongOf (es : List El) : Option Nat := wrongGo (lvOf es) 0 es
def optV : Option Nat → V
  | some i => .int (i : Int)
  | none => .non
def spWrongR (K : PySem.W.Frag) (C : Addr) : Sp := fun vs H Q _ => ∃ (t : Addr) (xs : List V) (es : List El), vs = [.ref t] ∧ SqT K H t xs ∧ Paired (ElAt K C H) xs es ∧ es.length ≤ 9000 ∧ ∀ H', Same H H' → Q (optV (wrongOf es)) H'
theorem ElAt.same {K : PySem.W.Frag} {C : Addr} {H H' : Hp} {v : V} {e : El} (h : ElAt K C H v e) (s : Same H H') : ElAt K C H' v e := by
  cases e with
  | rnd lv fin ls =>
    obtain ⟨a, e, h⟩ := h
    exact ⟨a, e, h.same s⟩
  | oth d => exact dq_same s h
section
variable {P : Program} {w : World} {K : PySem.W.Frag} {mg : Str → Option Value} {base : Heap} {C : Addr}
theorem scIsSmall : FnScope ["trip", "sizes", "place", "level"] ["trip"] (defScope sIsSmall) := ⟨rfl, rfl, rfl, by decide +kernel, rfl, by decide +kernel, by decide +kernel⟩
theorem scWrongR : FnScope ["rounds", "index", "trip"] ["rounds"] (defScope sWrongR) := ⟨rfl, rfl, rfl, by decide +kernel, rfl, by decide +kernel, by decide +kernel⟩
theorem ok_isSmall {f : Addr} {fd : FuncData} {t1 t2 : Tok} (F : Fun K "is_small" "is_small" sIsSmall f fd) (R : RCls K C) (Z : Ask3 P w K mg base C) (ma : mg "abs" = none) (mmax : mg "max" = none) (mMP : mg "MOST_PLACE" = some (.int 24 t1)) (mME : mg "MOST_END" = some (.int 8 t2)) : FnOk P w K mg base CX0 3 f fd ["trip"] (spIsSmall K C) := by
  refine F.ok scIsSmall (fun vs H Q E h => ?_) (fun cdv A outer s H vs Q E hr h => ?_)
  · obtain ⟨a, lv, fin, ls, rfl, _⟩ := h
    rfl
  · obtain ⟨a, lv, fin, ls, rfl, ⟨⟨t, ha, hp⟩, hg, hi⟩, q⟩ := h
    refine ⟨_, pss_cons (ps_setLc (i := 1) (own := [("place", 2), ("level", 3)]) (g := gTup K 2 (gCons (gName 2) (gCons (gName 3) gNil))) (tt := tYes) rfl scIsSmall.nd rfl rfl (sw_true rfl rfl rfl rfl)
          (pi_tup (pe_prR Z.la R (by decide) hr (pv 0)))
          (blkOk_by (own := [("place", 2), ("level", 3)]) (N := ["trip", "sizes", "place", "level"]) (sc := defScope sIsSmall) (by decide +kernel))
          (fun _ _ _ _ _ => pg_tup rfl (pgs_cons (pg_name (i := 2) scIsSmall.nd rfl (Or.inl rfl)) (pgs_cons (pg_name (i := 3) scIsSmall.nd rfl (Or.inl rfl)) pgs_nil))) (fun _ _ _ _ _ => pts_nil)
          (fun _ _ _ _ _ => pe_callB call_abs (by rfl) ma (by decide +kernel) (pa_cons (pv 2) pa_nil)))
      (pss_one (ps_ret (pe_and (pe_cmpR op_le (pe_callBK (cr_maxD rfl) (by rfl) mmax (by decide +kernel) (pa_cons (pv 1) pa_nil) (pk_cons pe_int pk_nil)) (pe_glob (v := .int 24) rfl mMP ⟨_, rfl⟩) (nomark _))
        (pe_one (pe_cmpR op_le (pe_callB call_abs (by rfl) ma (by decide +kernel) (pa_cons (pe_prR Z.en R (by decide) hr (pv 0)) pa_nil)) (pe_glob (v := .int 8) rfl mME ⟨_, rfl⟩) (nomark _)))))), ?_⟩
    obtain ⟨dx, hA⟩ := id ha
    obtain ⟨as, ht, hal, hat⟩ := pair_get hp
    have few := hi.few
    refine ⟨_, rfl, a, dx, _, rfl, hA, a, t, lv, fin, rfl, ha, t, rfl, ⟨_, .inl ht⟩, fun D hD => ?_⟩
    refine lc_genT (us := as.zip ls) (enc := fun u => V.ref u.1) (out := fun u => some (sizeI u.2.1)) (Rel := fun (z : Int) v _ => v = .int z) (fun _ _ _ _ _ z => z) hD (by rw [fb_fst hal]; exact .inl ht) (by rw [List.length_zip]; omega) ?_ ?_
    · intro i u H' hu s1 R' Z' hR hZ
      obtain ⟨u1, u2⟩ := fb_at hu
      have h1 := s1 _ _ (hat i _ _ u1 u2)
      refine ⟨u.1, _, rfl, SqT.of h1, rfl, _, _, rfl, _, _, rfl, rfl, rfl, ?_⟩
      exact ⟨_, rfl, u.2.1, rfl, hR _ _ _ rfl (Same.refl _) rfl⟩
    · intro H1 ys s1 hD1 hp1
      have ey := fb_ints hp1
      rw [fb_out, fb_snd (fun q : Int × Int => sizeI q.1) hal] at ey
      subst ey
      dsimp only [gName]
      have res := q H1 s1
      have top : ∀ {m : Int}, ((ls.map fun q => sizeI q.1) = [] → m = 0) → ((ls.map fun q => sizeI q.1) ≠ [] → m ∈ (ls.map fun q => sizeI q.1) ∧ ∀ y ∈ (ls.map fun q => sizeI q.1), y ≤ m) → decide (m ≤ 24) = ls.all fun q => decide (sizeI q.1 ≤ 24) := fun {m} h1 h2 => by
        cases ls with
        | nil =>
          rw [h1 rfl]
          rfl
        | cons q0 r =>
          obtain ⟨hm, hM⟩ := h2 (by simp)
          by_cases z : m ≤ 24
          · rw [decide_eq_true z]
            refine (List.all_eq_true.mpr fun q hq => decide_eq_true ?_).symm
            exact Int.le_trans (hM _ (List.mem_map.mpr ⟨q, hq, rfl⟩)) z
          · rw [decide_eq_false z]
            refine (Bool.eq_false_iff.mpr fun k => z ?_).symm
            obtain ⟨q, hq, e⟩ := List.mem_map.mp hm
            rw [← e]
            exact of_decide_eq_true (List.all_eq_true.mp k q hq)
      have go : ∀ m : Int, decide (m ≤ 24) = (ls.all fun q => decide (sizeI q.1 ≤ 24)) → tRet (tAndV
          (tOp (rI0 fun i j => V.bl (decide (i ≤ j))) (tC (.int m)) (tC (V.int 24)))
          (tOp (rI0 fun i j => V.bl (decide (i ≤ j))) (tCB (fun xs H Q => ∃ i, xs = [V.int i] ∧ Q (V.int (if i < 0 then -i else i)) H) (tCons (tProp C (spEnd C) [] E0 (tVar 0)) tNil)) (tC (V.int 8))))
          { nx := fun x H' => Q V.non H', rt := Q } (List.set (L2.start ["trip", "sizes", "place", "level"] [V.ref a]) 1 (some (V.ref D))) H1 := fun m em => by
        unfold smallB at res
        rw [← em] at res
        refine ⟨_, _, rfl, rfl, decide (m ≤ 24), rfl, ?_⟩
        by_cases z : m ≤ 24
        · rw [decide_eq_true z] at res ⊢
          refine iteT ⟨_, rfl, a, dx, _, rfl, s1 _ _ hA, a, t, lv, fin, rfl, ha.same s1, fin, rfl, _, _, rfl, rfl, ?_⟩
          exact res
        · rw [decide_eq_false z] at res ⊢
          exact iteF res
      refine ⟨_, rfl, D, _, 0, rfl, rfl, SqL.of hD1, fun e => ?_, fun m hm hM => ?_⟩
      · exact go 0 (top (fun _ => rfl) (fun z => absurd e z))
      · exact go m (top (fun z => by rw [z] at hm; cases hm) fun _ => ⟨hm, hM⟩)
theorem ok_wrongR {f : Addr} {fd : FuncData} {t1 : Tok} (F : Fun K "wrong_round" "wrong_round" sWrongR f fd) (R : RCls K C) (S : IsR K C) (N : NoKd K C) (Z : Ask3 P w K mg base C) (Sm : Dr P w K mg base (spIsSmall K C) "is_small" ["trip"] 3) (me : mg "enumerate" = none) (mis : mg "isinstance" = none) (mR : mg "Round" = some (.ref C)) (mMR : mg "MOST_ROUNDS" = some (.int 4 t1)) : FnOk P w K mg base CX0 4 f fd ["rounds"] (spWrongR K C) := by
  refine F.ok scWrongR (fun vs H Q E h => ?_) (fun cdv A outer s H vs Q E hr h => ?_)
  · obtain ⟨t, xs, es, rfl, _⟩ := h
    rfl
  · obtain ⟨t, xs, es, rfl, ht, hx, hlen, q⟩ := h
    refine ⟨_, pss_cons (ps_for PassesOwn.never rfl (pi_enumT rfl me (pa_cons (pv 0) pa_nil)) (pg_tup rfl (pgs_cons (pg_name (i := 1) scWrongR.nd rfl (.inl rfl)) (pgs_cons (pg_name (i := 2) scWrongR.nd rfl (.inl rfl)) pgs_nil)))
        (pss_cons (ps_if (PW.pt (pw_or (pt_cmpR op_eq (pv 1) (pe_glob (v := .int 4) rfl mMR ⟨_, rfl⟩) (nomark _)) (pw_or1 (pt_not (pt_val (pe_callB call_isi (by rfl) mis (by decide +kernel) (pa_cons (pv 2) (pa_cons (pe_glob (v := .ref C) rfl mR rfl) pa_nil)))))))) (pss_one (ps_ret (pv 1))) pss_nil)
        (pss_one (ps_if (PW.pt (pw_or (pt_cmpR op_ne (pe_prR Z.lv R (by decide) hr (pv 2)) (pe_prR Z.lv R (by decide) hr (pe_ix ix_tup (pv 0) pe_int (fun _ _ => rfl))) (nomark _)) (pw_or1 (pt_not (pt_val (pe_dr Sm (by decide) hr rfl (pa_cons (pv 2) pa_nil))))))) (pss_one (ps_ret (pv 1))) pss_nil))))
      (pss_one (ps_ret pe_non)), ?_⟩
    refine ⟨_, rfl, t, xs, rfl, ht, for_enumT (xs := xs) (fun i σ H' => ∃ x y, σ = [some (.ref t), x, y] ∧ Same H H' ∧ wrongOf es = wrongGo (lvOf es) i (es.drop i) ∧ (0 < i → ∃ lv fin ls, es[0]? = some (.rnd lv fin ls))) ⟨_, _, rfl, Same.refl H, rfl, fun z => absurd z (by decide)⟩ (fun i σ H' _ z => ?_) (fun i x σ H' T hi z hT => ?_) (fun σ H' z => ?_)⟩
    · obtain ⟨_, _, _, s', _⟩ := z
      exact same_seqT s' ht
    · obtain ⟨x0, y0, rfl, s0, hgo, h0⟩ := z
      have s1 := s0.trans (same_of (o := .tup [V.int (i : Nat), x]) hT)
      obtain ⟨e, he, hE⟩ := fb_get hx hi
      have hE1 := hE.same s1
      have hd : es.drop i = e :: es.drop (i + 1) := by
        have li := (List.getElem?_eq_some_iff.mp he).1
        rw [List.drop_eq_getElem_cons li]
        congr 1
        exact (List.getElem?_eq_some_iff.mp he).2
      rw [hd] at hgo
      have hgo' : wrongOf es = if i = 4 then some i else if okEl (lvOf es) e = true then wrongGo (lvOf es) (i + 1) (es.drop (i + 1)) else some i := hgo
      refine ⟨T, _, rfl, SqT.of upd_same, rfl, _, _, rfl, _, _, rfl, rfl, ?_⟩
      have ret : wrongOf es = some i → Q (.int (i : Int)) (upd H' T (.tup [V.int (i : Nat), x])) := fun z => by
        have := q _ s1
        rw [z] at this
        exact this
      by_cases h4 : i = 4
      · refine ⟨_, rfl, rfl, true, ?_, iteT (iteT ?_)⟩
        · show V.bl (decide (V.int (i : Int) = V.int 4)) = _
          rw [h4]
          rfl
        refine ⟨_, rfl, ret ?_⟩
        rw [hgo', if_pos h4]
      refine ⟨_, rfl, rfl, false, ?_, iteF ?_⟩
      · show V.bl (decide (V.int (i : Int) = V.int 4)) = _
        rw [decide_eq_false (fun z => h4 (by have := V.int.inj z; omega))]
      rw [if_neg h4] at hgo'
      cases e with
      | oth d =>
        have hd1 : Dq K _ x d := hE1
        refine ans_not (b := false) (ans_val fun Q2 q2 => ⟨_, rfl, isi_own N (an_dq hd1) q2⟩) _ ?_
        refine iteT ?_
        exact ⟨_, rfl, ret (by rw [hgo']; rfl)⟩
      | rnd lv fin ls =>
        obtain ⟨a, rfl, hR⟩ := hE1
        obtain ⟨⟨ta, hA, hP⟩, hg, hw⟩ := id hR
        obtain ⟨dx, hAx⟩ := id hA
        refine ans_not (b := true) (ans_val (v_isR R S (val_var rfl) hA)) _ ?_
        refine iteF ?_
        dsimp only [tNext]
        obtain ⟨lv0, fin0, ls0, e0⟩ : ∃ lv0 fin0 ls0, es[0]? = some (.rnd lv0 fin0 ls0) := by
          by_cases z : i = 0
          · rw [z] at he
            exact ⟨_, _, _, he⟩
          · exact h0 (by omega)
        have elv : lvOf es = lv0 := by
          cases es with
          | nil => cases e0
          | cons e1 es1 =>
            have := Option.some.inj e0
            subst this
            rfl
        obtain ⟨x1, hx1, hE0⟩ := fb_get' hx e0
        obtain ⟨a0, rfl, hR0⟩ := hE0
        have hR0' := hR0.same s1
        obtain ⟨⟨ta0, hA0, hP0⟩, _, _⟩ := id hR0'
        obtain ⟨dx0, hAx0⟩ := id hA0
        refine ⟨_, rfl, a, dx, _, rfl, hAx, a, ta, lv, fin, rfl, hA, _, rfl, t, xs, 0, .ref a0, rfl, rfl, same_seqT s1 ht, fb_ix (n := 0) hx1, a0, dx0, _, rfl, hAx0, a0, ta0, lv0, fin0, rfl, hA0, rfl, decide (lv ≠ lv0), ?_, ?_⟩
        · show V.bl (!decide (V.int lv = V.int lv0)) = _
          by_cases z : lv = lv0
          · rw [z, decide_eq_true rfl, decide_eq_false (fun h => h rfl)]
            rfl
          · rw [decide_eq_false (fun h => z (V.int.inj h)), decide_eq_true z]
            rfl
        have hok : okEl (lvOf es) (.rnd lv fin ls) = (decide (lv = lv0) && smallB fin ls) := by rw [elv]; rfl
        by_cases z : lv = lv0
        · rw [decide_eq_false (fun h => h z)]
          refine iteF ?_
          rw [decide_eq_true z, Bool.true_and] at hok
          refine ⟨_, rfl, a, lv, fin, ls, rfl, hR, fun H2 s2 => ?_⟩
          refine ⟨smallB fin ls, rfl, ?_⟩
          by_cases zs : smallB fin ls = true
          · rw [zs]
            refine iteF ?_
            dsimp only [tNext]
            rw [zs] at hok
            rw [if_pos hok] at hgo'
            exact ⟨_, _, rfl, s1.trans s2, hgo', fun _ => ⟨_, _, _, e0⟩⟩
          · have zf : smallB fin ls = false := by simpa using zs
            rw [zf]
            refine iteT ⟨_, rfl, ?_⟩
            rw [zf] at hok
            have := q _ (s1.trans s2)
            rw [hgo', if_neg (by rw [hok]; decide)] at this
            exact this
        · rw [decide_eq_true z]
          refine iteT (iteT ⟨_, rfl, ret ?_⟩)
          rw [decide_eq_false z, Bool.false_and] at hok
          rw [hgo', if_neg (by rw [hok]; decide)]
    · obtain ⟨_, _, rfl, s', hgo, _⟩ := z
      rw [fb_len hx, List.drop_length] at hgo
      have := q _ s'
      rw [hgo] at this
      exact this
end
end Lamp
set_option Elab.async false
set_option linter.all false
set_option maxRecDepth 100000
set_option maxHeartbeats 1000000
namespace Lamp
open PySem PySem.Spec PyProof.Rows L2
/-! an exception that is handled, at p: with a dict of its own, or without -/
/-- the exception's class and its dict -/
structure PinO (p : Addr × Obj) (D : Addr) (d : Option Addr) : Prop where
  z : Zc (.ref D) d p.2
  f : ∃ vs, p.2.data = .fields vs
theorem PinO.some {p : Addr × Obj} {D dd : Addr} (h : PinO p D (some dd)) : Pinned p D dd := ⟨h.z, h.f⟩
/-- what stands where its dict is told to be -/
def DictO (H : Hp) : Option Addr → Prop
  | none => True
  | some dd => ∃ fs, H dd = some (exd dd fs)
section
variable {X : Cx} {p : Addr × Obj} {D : Addr} {d : Option Addr}
/-- isinstance(e, c) of it -/
def rIsO (K : PySem.W.Frag) (a D : Addr) (d : Option Addr) : List V → Hp → VK → Prop := fun xs H Q => ∃ (c : V) (u : Value) (b : Bool), xs = [.ref a, c] ∧ DictO H d ∧ ClsV c u ∧ PySem.W.kitOne K (.ref D) u = some b ∧ Q (.bl b) H
theorem call_isO (G : ClsG X.K) (T : ∃ (B newId initId : String) (tail : List Value), EC X.K D B newId initId tail) (hp : p ∈ X.pn) (Z : PinO p D d) : CallR X (.builtin "isinstance") (rIsO X.K p.1 D d) := by
  cases d with
  | some dd =>
    intro pins s σ H xs us Q I r h
    obtain ⟨c, cv, b, rfl, ⟨fs, hd⟩, hc, hk, q⟩ := h
    exact call_isP G T hp Z.some pins s σ H _ us Q I r ⟨c, cv, b, fs, rfl, hd, hc, hk, q⟩
  | none =>
    intro pins s σ H xs us Q I r h
    obtain ⟨c, cv, b, rfl, _, hc, hk, q⟩ := h
    obtain ⟨u1, u2, rfl, r1, r2⟩ := vals2 r
    have e1 : u1 = Value.ref p.1 := r1
    subst e1
    have e2 := hc.eq r2
    subst e2
    obtain ⟨⟨h1, h2⟩, vs, h3⟩ := Z
    have pin := (I.pin p (List.mem_append_left _ hp)).1
    have J : PySem.W.InstAt s.heap p.1 p.2 D none := ⟨pin, h1, by unfold PySem.W.notCls; rw [h3] <;> rfl, by rw [h2]; trivial⟩
    obtain ⟨B, newId, initId, tail, T⟩ := T
    have isCls : (PySem.W.clsIn X.K D).isSome = true := by
      obtain ⟨cd, hcd, _⟩ := PySem.W.any_some T.hd
      rw [hcd]
      rfl
    exact PySem.W.kia_one (PySem.W.kitx_exc isCls T.ga T.gg T.exC T.cls G.get G.tak T.obj) I.kIn J hk (fun z => nomatch z) fun tk => ⟨.bl b, H, I.tok tk, rfl, q⟩
end
/-! a def that is called where an exception is handled: what it promises of it -/
abbrev SpO := Addr → Addr → Option Addr → Sp
structure FnO (P : Program) (w : World) (K : PySem.W.Frag) (mg : Str → Option Value) (base : Heap) (k : Nat) (f : Addr) (fd : FuncData) (ps : List Str) (sp : SpO) : Prop where
  many : ∀ a D d vs H Q E, sp a D d vs H Q E → vs.length = ps.length
  goes : ∀ (A : Around) (out : List Env) (s : Shared) (H : Hp) (ar : Args) (us : List Value) (vs : List V) (Q : VK) (p : Addr × Obj) (D : Addr) (d : Option Addr), A.guards = some [] → L2H.RoomH k A → L2H.PinOk out H s p → PinO p D d → Env0 P w K mg base A out s H →
    BindsTo s fd ar (ps.zip us) → Vals vs us → sp p.1 D d vs H Q E0 → codeAny (model P w) A (.call (.ref f) ar) (CR CX0 out P w H s Q E0) s
section
variable {P : Program} {w : World} {K : PySem.W.Frag} {mg : Str → Option Value} {base : Heap}
/-- the rule for such a def, by its body -/
theorem okO {x qual : Str} {st : Stmt} {f : Addr} {fd : FuncData} {N ps : List Str} {k : Nat} {sp : SpO} (F : Fun K x qual st f fd) (S : FnScope N ps (defScope st)) (len : ∀ a D d vs H Q E, sp a D d vs H Q E → vs.length = ps.length)
    (hbody : ∀ (cdv : Value) (A : Around) (outer : List Env) (s : Shared) (H : Hp) (vs : List V) (Q : VK) (p : Addr × Obj) (D : Addr) (d : Option Addr), A.guards = some [] → L2H.RoomH k (A.deeper (envOfC qual (defScope st) s.heap.objs.size f cdv)) → PinO p D d → sp p.1 D d vs H Q E0 →
      ∃ t, PSs (L2H.cxH CX0 P w K mg base N qual (defScope st) f cdv A outer s H E0 p).nox (defBody st) t ∧ t { nx := fun _ H' => Q .non H', rt := Q } (start N vs) H) : FnO P w K mg base (k + 1) f fd ps sp := by
  obtain ⟨oc, od, kV, doc, pm, an, cdv, ct, osl, efd, hlk, hcode⟩ := F.ex
  subst efd
  refine ⟨len, fun A out s H ar us vs Q p D d hgd hroom hpin hz hst hbind hvals hs => ?_⟩
  have hcount := len _ _ _ _ _ _ _ hs
  have inK : K.In s.heap := hst.mod.kin.keeps fun b o e => (hst.bs b o e).1
  have noLim : s.heap.NoLimit := hst.mod.nolimit.keeps fun b o e => (hst.bs b o e).1
  refine codeAny_call_function hroom.depth (inK _ _ hlk) rfl S.co S.gen rfl (PySem.W.codeRec_of inK hcode) (hbind _ _ _ _ ?_)
  refine wpAny_newFunctionEnv_cells S.kind (fun y hy => ?_) fun env eenv s1 xin => ?_
  · obtain ⟨nm, val⟩ := y
    cases S.par nm (List.of_mem_zip hy).1 with
    | inl isLocal => exact .inl isLocal
    | inr isCell => exact .inr ⟨isCell, PySem.W.cellsFrom_some _ _ _ (.inl isCell)⟩
  subst eenv
  refine ⟨noLim.keeps xin.toInCall.keep, codeAny_func ?_⟩
  obtain ⟨t, ht0, hq⟩ := hbody cdv A out s H vs Q p D d hgd (hroom.deeper _) hz hs
  have ht := ht0.nox
  have inv0 : Inv (L2H.cxH CX0 P w K mg base N qual (defScope st) f cdv A out s H E0 p) [] (start N vs) H s1 := L2H.inv_startH S hpin hst hcount hvals xin
  have fin : ∀ {σ' : L2.St} {H' : Hp} {v : V} {u : Value} {s' : Shared}, Inv (L2H.cxH CX0 P w K mg base N qual (defScope st) f cdv A out s H E0 p) [] σ' H' s' → RelV v u → Q v H' → CE out P w H s Q u s' := fun J rv q => ⟨_, _, J.os, J.bare, J.base, J.hok, rv, q⟩
  refine wpAny_mono (ht.run [] s1 (start N vs) H _ inv0 hq) (fun flow s' told => ?_) fun e s' told => told
  match flow, told with
  | .ret u, ⟨v, σ', H', J, rv, q⟩ => exact fin J rv q
  | .next, ⟨σ', H', J, q⟩ => exact fin (v := V.non) (u := Value.none) J rfl q
  | .brk, ⟨_, _, _, q⟩ => exact False.elim q
  | .cont, ⟨_, _, _, q⟩ => exact False.elim q
end
section
variable {X : Cx} {k : Nat} {f : Addr} {fd : FuncData} {ps : List Str} {sp : SpO} {x : Str} {q pos : Pos} {e : Expr} {es : List Expr} {t : TA} {p : Addr × Obj} {D : Addr} {d : Option Addr}
theorem runO {pins : List (Addr × Obj)} {σ : L2.St} {H : Hp} {s : Shared} {Q : VK} {us : List Value} {vs : List V} (F : FnO X.prog X.w X.K X.mg X.base k f fd ps sp) (hgd : X.A.guards = some []) (hr : L2H.RoomH k X.A) (hp : p ∈ X.pn) (Z : PinO p D d) (hb : Binds X.K fd ps [])
    (I : Inv X pins σ H s) (r : Vals vs us) (h : sp p.1 D d vs H Q E0) : wpAny (model X.prog X.w) X.A (call (.ref f) us) (EP X pins σ Q) X.xe s := by
  have hl : (us ++ []).length = ps.length := by rw [List.append_nil, ← r.length]; exact F.many _ _ _ _ _ _ _ h
  have hbb := hb s us I.kIn hl
  rw [List.append_nil] at hbb
  obtain ⟨g1, g2, g3, g4, g5⟩ := I.pin p (List.mem_append_left _ hp)
  have pin : L2H.PinOk X.stack H s p := ⟨g1, g2, fun hm => (List.mem_cons.mp (I.stkSub p.1 hm)).elim g3 g4, g5⟩
  refine wpAny_call (codeAny_mono (F.goes X.A X.stack s H ⟨us, []⟩ us vs Q p D d hgd hr pin Z I.env0 hbb r h) fun res s' told => ?_)
  match res, told with
  | .error _, told => exact False.elim told
  | .ok (.ret u), told => exact I.after told
  | .ok .next, told => exact False.elim told
  | .ok .brk, told => exact False.elim told
  | .ok .cont, told => exact False.elim told
/-- f(e, ..), where p is handled -/
theorem pe_callO (F : FnO X.prog X.w X.K X.mg X.base k f fd ps sp) (hgd : X.A.guards = some []) (hr : L2H.RoomH k X.A) (hp : p ∈ X.pn) (Z : PinO p D d) (hg : Gl X x) (hm : X.mg x = some (.ref f)) (hk : PySem.W.keepIn X.K (.ref f) = true) (hb : Binds X.K fd ps [])
    (ha : PA X (e :: es) t) (hdb : (x == ("__debug__" : Str)) = false := by decide) (he : starEach (e :: es) X.env = (false, eval e X.env) :: starEach es X.env := by rfl) (hpl : (backTo pos (starEach es X.env)).any (·.1) = false := by rfl) :
    PE X (.Call (.Name x q) (e :: es) [] pos) (tCallG (sp p.1 D d) t) :=
  ⟨fun pins s σ H Q I h => wpAny_Call_Name_kw (ld_glob I hg hm (PySem.W.callWith_K (h₀ := X.base) I.ok.mod.kin hk (thn (ha.run pos pins s σ H _ I h) fun us s1 ⟨vs, H1, I1, r, q⟩ =>
    ⟨I1.kIn, runO F hgd hr hp Z hb I1 r q⟩) he hpl) hdb)⟩
end
end Lamp
set_option Elab.async false
set_option linter.all false
set_option maxRecDepth 100000
set_option maxHeartbeats 1000000
namespace Lamp
open PySem PySem.Spec PyProof.Rows L2 LamX
/-! as LampB, the exception with a dict of its own or without -/
def raisO (K : PySem.W.Frag) (c1 c2 c3 : Value) (sp : SpO) (Q : VK) : XK := fun cls d H' => ∃ D, cls = .ref D ∧ PySem.W.exmAny K cls [c1, c2, c3] = some true ∧ ∀ a, H' a = none → sp a D d [.ref a] H' Q E0
def TTanO (K : PySem.W.Frag) (c1 c2 c3 : Value) (sp : SpO) : (XK → Hp → VK → Prop) → Hp → VK → Prop := fun tl H Q => ∀ f, tl (raisO K c1 c2 c3 sp Q) H (backE f Q)
/-- its suite -/
def tSuiteO (sp : SpO) (a : Addr) (cls : Value) (d : Option Addr) : TS := fun D' σ H => ∃ D, cls = .ref D ∧ tRet (tCallG (sp a D d) (tCons (tVar 2) tNil)) D' σ H
section
variable {P : Program} {w : World} {K : PySem.W.Frag} {mg : Str → Option Value} {base : Heap}
/-- what is known of the def that sorts errors -/
structure SortO (P : Program) (w : World) (K : PySem.W.Frag) (mg : Str → Option Value) (base : Heap) (sp : SpO) (k : Nat) : Prop where
  ex : ∃ (f : Addr) (fd : FuncData), FnO P w K mg base k f fd ["_law_e"] sp ∧ Binds K fd ["_law_e"] [] ∧ mg "_law_sort" = some (.ref f) ∧ PySem.W.keepIn K (.ref f) = true
theorem ans_givesO {X : Cx} {x q : Str} {sg : Scope} {g cA cB cC : Addr} {cdg : Value} {k j1 j2 : Nat} {sp : SpO} {p1 p2 p3 p4 p5 p6 p7 p8 p9 p10 p11 p12 p13 p14 p15 p16 p17 p18 : Pos} (hgd : X.A.guards = some []) (hr : Room (k + 1) X.A) (S : SortO X.prog X.w X.K X.mg X.base sp k)
    (Sg : FnScope ansN ["_law_call_here"] sg) (mA : X.mg "WrongValue" = some (.ref cA)) (mB : X.mg "WrongName" = some (.ref cB)) (mC : X.mg "NotPossible" = some (.ref cC)) (v1 : sg.names.lookup ("_law_got" : Str) = some NameKind.local) (v2 : sg.names.lookup ("_law_e" : Str) = some NameKind.local)
    (gA : sg.names.lookup ("WrongValue" : Str) = some .globalImplicit) (gB : sg.names.lookup ("WrongName" : Str) = some .globalImplicit) (gC : sg.names.lookup ("NotPossible" : Str) = some .globalImplicit) (gS : sg.names.lookup ("_law_sort" : Str) = some .globalImplicit) :
    GivesTo X ansN x sg g cdg [.Try [.Assign [.Name "_law_got" p1] (.Call (.Name "_law_call_here" p2) [] [] p3) p4] [.ExceptHandler (some (.Tuple [.Name "WrongValue" p5, .Name "WrongName" p6, .Name "NotPossible" p7] j1 p8)) (some "_law_e") [.Return (some (.Call (.Name "_law_sort" p9) [.Name "_law_e" p10] [] p11)) p12] p13] [] [] p14,
      .Return (some (.List [.Constant (.str "back") j2 p15, .Name "_law_got" p16] p17)) p18] "_law_call_here" q (TTanO X.K (.ref cA) (.ref cB) (.ref cC) sp) := by
  intro f c' s H Q tl act hc h
  obtain ⟨fS, fdS, F, b, m, kp⟩ := S.ex
  have rm : L2H.RoomH k (X.A.deeper (envOfC x sg s.heap.objs.size g cdg)) := L2H.roomH_of (hr.deeper _)
  refine ⟨_, pss_cons (ps_try_tup (X := (cxOf C8.CX0 X.prog X.w X.K X.mg X.base ansN x sg g cdg X.A X.stack s H C8.E0).nox) (i := 2) (c1 := .ref cA) (c2 := .ref cB) (c3 := .ref cC)
      (tb := fun W D σ H => ∃ Ech : XK, (∀ cls d σ' H', Ech cls d H' → W cls d σ' H') ∧ σ[0]? = some (some (.ref f)) ∧ H c' = some (CodeO c' q) ∧ tl Ech H (fun v H' => D.nx (σ.set 1 (some v)) H')) (ts := tSuiteO sp)
      rfl rfl Sg.nd rfl v2 ⟨gA, rfl, .inl mA⟩ ⟨gB, rfl, .inl mB⟩ ⟨gC, rfl, .inl mC⟩ (fun W pn xe tk _ => ?_) (fun a oe cls d pn hz hf => ?_)) (pss_one (ps_ret (pe_lst (pa_cons pe_str (pa_cons (pv (x := "_law_got") 1 rfl (.inl v1)) pa_nil))))), ?_⟩
  · refine ⟨fun pins s' σ H' D I h' => ?_⟩
    obtain ⟨Ech, hW, h1, h2, h3⟩ := h'
    have hp := act W pn xe Ech p2 p3 tk hW
    have hs : PS ((cxOf C8.CX0 X.prog X.w X.K X.mg X.base ansN x sg g cdg X.A X.stack s H C8.E0).tr pn xe) (.Assign [.Name "_law_got" p1] (.Call (.Name "_law_call_here" p2) [] [] p3) p4) _ := ps_set (i := 1) Sg.nd rfl (.inl v1) hp
    exact (pss_one hs).run pins s' σ H' D I ⟨h1, h2, h3⟩
  · refine ⟨fun pins s' σ H' D I h' => ?_⟩
    obtain ⟨Dc, rfl, h'⟩ := h'
    refine PSs.run (pss_one (ps_ret (pe_callO (X := ((cxOf C8.CX0 X.prog X.w X.K X.mg X.base ansN x sg g cdg X.A X.stack s H C8.E0).nox).suite a ((a, oe) :: pn)) (p := (a, oe)) (D := Dc) (d := d) F hgd ⟨rm.dp, rm.un⟩ (List.mem_cons_self ..) ⟨hz, hf⟩ gS m kp b (pa_cons (pv (x := "_law_e") 2 rfl (.inl v2)) pa_nil)))) pins s' σ H' D I h'
  · refine ⟨raisO X.K (.ref cA) (.ref cB) (.ref cC) sp Q, ?_, rfl, hc, h f⟩
    rintro cls d σ' H' ⟨Dc, rfl, e, hq⟩ hlen
    refine ⟨e, fun a na => ⟨Dc, rfl, .ref a, ?_, hq a na⟩⟩
    have l3 : σ'.length = 3 := hlen
    have l2 : 2 < σ'.length := by omega
    exact List.getElem?_set_self l2
/-- what is known of the def -/
structure AnsO (P : Program) (w : World) (K : PySem.W.Frag) (mg : Str → Option Value) (base : Heap) (cA cB cC : Addr) (sp : SpO) (k : Nat) : Prop where
  S : SortO P w K mg base sp k
  mA : mg "WrongValue" = some (.ref cA)
  mB : mg "WrongName" = some (.ref cB)
  mC : mg "NotPossible" = some (.ref cC)
  ex : ∃ (g : Addr) (st : Stmt) (fd : FuncData) (j1 j2 : Nat) (p1 p2 p3 p4 p5 p6 p7 p8 p9 p10 p11 p12 p13 p14 p15 p16 p17 p18 : Pos), Fun K "_law_answer" "_law_answer" st g fd ∧ Binds K fd ["_law_call_here"] [] ∧ mg "_law_answer" = some (.ref g) ∧ PySem.W.keepIn K (.ref g) = true ∧
    FnScope ansN ["_law_call_here"] (defScope st) ∧ ((defScope st).names.lookup ("_law_call_here" : Str) = some NameKind.local ∧ (defScope st).names.lookup ("_law_got" : Str) = some NameKind.local ∧ (defScope st).names.lookup ("_law_e" : Str) = some NameKind.local) ∧
    ((defScope st).names.lookup ("WrongValue" : Str) = some .globalImplicit ∧ (defScope st).names.lookup ("WrongName" : Str) = some .globalImplicit ∧ (defScope st).names.lookup ("NotPossible" : Str) = some .globalImplicit ∧ (defScope st).names.lookup ("_law_sort" : Str) = some .globalImplicit) ∧
    defBody st = [.Try [.Assign [.Name "_law_got" p1] (.Call (.Name "_law_call_here" p2) [] [] p3) p4] [.ExceptHandler (some (.Tuple [.Name "WrongValue" p5, .Name "WrongName" p6, .Name "NotPossible" p7] j1 p8)) (some "_law_e") [.Return (some (.Call (.Name "_law_sort" p9) [.Name "_law_e" p10] [] p11)) p12] p13] [] [] p14,
      .Return (some (.List [.Constant (.str "back") j2 p15, .Name "_law_got" p16] p17)) p18]
/-- _law_answer(lambda: body) -/
theorem pe_ansO {X : Cx} {cA cB cC c Pt : Addr} {sp : SpO} {k kS : Nat} {T : List (Addr × Str)} {params : Arguments} {body : Expr} {scope : Scope} {t : XK → TE} {p lpos pos : Pos} (Z : AnsO X.prog X.w X.K X.mg X.base cA cB cC sp kS) (hk : kS ≤ k + 1) (hgd : X.A.guards = some []) (hr : Room (k + 2) X.A) (hg : Gl X "_law_answer")
    (TB : TabB X.base X.mg c Pt) (hcode : X.env.code = .ref c) (hmT : (Pt, X.env.qual ++ "<lambda>") ∈ T) (hu : ∀ p ∈ T, p.1 = Pt → p.2 = X.env.qual ++ "<lambda>") (L : LamS X.env.scope scope) (hdef : defaultsOf params X.env = ([], []))
    (hbind : ∀ (q : Str) (cl : List (Str × Addr)) (pm cv ctv : Value), bindArgs (PySem.W.kla_fn "<lambda>" q params body scope cl pm cv ctv) ⟨[], []⟩ = pure [])
    (hbody : ∀ (A : Around) (outer : List Env) (s : Shared) (H : Hp) (E : XK) (f c' : Addr), Room k (A.deeper (lamEnv X scope s.heap.objs.size f c')) → PE (lamCx X A outer s H E scope f c') body (t E)) :
    PE X (.Call (.Name "_law_answer" p) [.Lambda params body scope lpos] [] pos) (tLam T (TTanO X.K (.ref cA) (.ref cB) (.ref cC) sp) t) := by
  obtain ⟨g, st, fd, j1, j2, p1, p2, p3, p4, p5, p6, p7, p8, p9, p10, p11, p12, p13, p14, p15, p16, p17, p18, F, b, m, kp, Sg, ⟨v0, v1, v2⟩, ⟨gA, gB, gC, gS⟩, hbg⟩ := Z.ex
  obtain ⟨oc, od, kV, doc, pm, an, cdv, ct, osl, efd, hlk, hcodeA⟩ := F.ex
  subst efd
  rw [hbg] at hlk b
  exact pe_lamcall (bg := _) (k := k) (a := "_law_call_here") (Ng := ansN) hg m kp hlk hcodeA b Sg rfl (.inl v0) (ans_givesO (k := k + 1) hgd hr ⟨by
    obtain ⟨f1, fd1, F1, r1⟩ := Z.S.ex
    exact ⟨f1, fd1, ⟨F1.many, fun A out s H ar us vs Q p D d h1 h2 => F1.goes A out s H ar us vs Q p D d h1 (h2.mono hk)⟩, r1⟩⟩ Sg Z.mA Z.mB Z.mC v1 v2 gA gB gC gS) TB hcode hmT hu hr L hdef hbind hbody
end
end Lamp
set_option Elab.async false
set_option linter.all false
set_option maxRecDepth 100000
set_option maxHeartbeats 1000000
namespace Lamp
open PySem PySem.Spec PyProof.Rows L2
/-! a tuple that is written out has no dict of its own -/
def tTupB (t : TA) : TE := fun σ H Q => t σ H fun xs H1 => xs.length ≤ sizeLine ∧ ∀ (p : Addr) (o : Obj), H1 p = none → o.dict = none → Q (.ref p) (upd H1 p (.frz o (.tup xs)))
section
variable {X : Cx} {es : List Expr} {t : TA} {pos : Pos}
theorem pe_tupB {x1} (h : PA X es t) : PE X (.Tuple es x1 pos) (tTupB t) := by
  refine ⟨fun pins s σ H Q I hq => ?_⟩
  refine wpAny_Tuple_spliced (thn (h.run pos pins s σ H _ I hq) fun us s1 ⟨xs, H1, I1, r, z, q⟩ => ⟨by rw [← r.length]; exact z, ?_⟩)
  have hf : H1 s1.heap.objs.size = none := I1.hok.fresh (Nat.le_refl _)
  obtain ⟨o, eo⟩ : ∃ o : Obj, o = { cls := .type "tuple", data := .seq us.toArray } := ⟨_, rfl⟩
  refine ⟨.ref s1.heap.objs.size, upd H1 s1.heap.objs.size (.frz o (.tup xs)), I1.laid (t' := s1.toks) (fun b u e => Heap.get?_push_of_some _ e) (Nat.le_refl _) (show ObjOk X.prog X.w _ _ _ (.frz o (.tup xs)) from ⟨by rw [eo]; exact Heap.get?_push_size _ rfl, z, us, r, ⟨_, Heap.get?_push_size _ rfl, rfl, _, rfl⟩⟩), rfl, q _ o hf (by rw [eo])⟩
end
end Lamp
set_option Elab.async false
set_option linter.all false
set_option maxRecDepth 100000
set_option maxHeartbeats 2000000
namespace Lamp
open PySem PySem.Spec PyProof.Rows L2 LamX
/-! lots: made, or refused -/
abbrev sLot : Stmt := top 48
abbrev sLotInit : Stmt := inClass sLot 0
def UpI (E : XK) (H : Hp) (x : Addr) (y : V) : Prop := ∀ d H', Same H H' → H' d = some (exd d [("index", y)]) → E (.ref x) (some d) H'
theorem UpI.on {E : XK} {H H1 : Hp} {x : Addr} {y : V} (h : UpI E H x y) (s : Same H H1) : UpI E H1 x y := fun d H' s' e => h d H' (s.trans s') e
structure LCls (K : PySem.W.Frag) (L : Addr) : Prop where
  cl : Cls K L
  n1 : NoAttr K L "_rounds"
  n2 : NoAttr K L "_levels"
  n3 : NoAttr K L "_text"
def fldL (t : Addr) (lv : Int) (x : Str) : List (Str × V) := [("_rounds", .ref t), ("_levels", .int lv), ("_text", .str x)]
def elOf (r : Parts) : El := .rnd r.lv r.fin r.ls
def lv0 : List Parts → Int
  | r :: _ => r.lv
  | [] => 0
def lineS (r : Parts) : Str := sheetS r.lv r.ls r.fin
def lotS (rs : List Parts) : Str := Txt.join ("\n" : Str) (rs.map lineS)
def RndP (K : PySem.W.Frag) (C : Addr) (H : Hp) (a : Addr) (r : Parts) : Prop := RndW K C H a r.lv r.fin r.ls
/-- the rounds of a lot, in the tuple at t -/
def RoundsAt (K : PySem.W.Frag) (C : Addr) (H : Hp) (t : Addr) (rs : List Parts) : Prop := ∃ as : List Addr, SqT K H t (as.map V.ref) ∧ Paired (RndP K C H) as rs
theorem RoundsAt.same {K : PySem.W.Frag} {C : Addr} {H H' : Hp} {t : Addr} {rs : List Parts} (h : RoundsAt K C H t rs) (s : Same H H') : RoundsAt K C H' t rs := by
  obtain ⟨as, h1, h2⟩ := h
  exact ⟨as, same_seqT s h1, L2.Paired.mapP h2 fun _ _ z => RndW.same z s⟩
/-- at a: a lot of these rounds, which stand in the tuple at t -/
structure LotAt (K : PySem.W.Frag) (C L : Addr) (H : Hp) (a t : Addr) (rs : List Parts) : Prop where
  obj : ∃ dx, H a = some (.ins L dx (fldL t (lv0 rs) (lotS rs)))
  rds : RoundsAt K C H t rs
structure GoodLot (rs : List Parts) : Prop where
  ne : rs ≠ []
  ok : wrongOf (rs.map elOf) = none
  fit : ∀ r ∈ rs, Fit r.lv r.ls r.fin
theorem LotAt.same {K : PySem.W.Frag} {C L : Addr} {H H' : Hp} {a t : Addr} {rs : List Parts} (h : LotAt K C L H a t rs) (s : Same H H') : LotAt K C L H' a t rs := by
  obtain ⟨⟨dx, h1⟩, h2⟩ := h
  exact ⟨⟨dx, s _ _ h1⟩, h2.same s⟩
/-- no tuple -/
def NoTup (K : PySem.W.Frag) (H : Hp) (v : V) : Prop := ∀ Q : VK, Q (.bl false) H → rIsi K [v, .ty "tuple"] H Q
/-- what comes of a value in the place of rounds -/
def LotOf (K : PySem.W.Frag) (C : Addr) (xI : Addr) (v : V) (H : Hp) (good : Addr → List Parts → Prop) (E : XK) : Prop :=
  (NoTup K H v ∧ UpI E H xI .non) ∨ ∃ (t : Addr) (xs : List V) (es : List El), v = .ref t ∧ SqT K H t xs ∧ Paired (ElAt K C H) xs es ∧ es.length ≤ 9000 ∧
    ((es = [] ∧ UpI E H xI .non) ∨ (∃ i : Nat, es ≠ [] ∧ wrongOf es = some i ∧ UpI E H xI (.int (i : Int))) ∨ ∃ rs, es = rs.map elOf ∧ GoodLot rs ∧ good t rs)
def spLotInit (K : PySem.W.Frag) (C L xI : Addr) : Sp := fun vs H Q E => ∃ (x dx : Addr) (v : V), vs = [.ref x, v] ∧ H x = some (.ins L dx []) ∧ LotOf K C xI v H (fun t rs => ∀ H', But x H H' → LotAt K C L H' x t rs → Q .non H') E
theorem wrong_len {l : Int} : ∀ {es : List El} {i : Nat}, wrongGo l i es = none → i ≤ 4 → i + es.length ≤ 4
  | [], _, _, h => h
  | e :: es, i, h, hi => by
    have h' : (if i = 4 then some i else if okEl l e = true then wrongGo l (i + 1) es else some i) = none := h
    by_cases z : i = 4
    · rw [if_pos z] at h'
      cases h'
    · rw [if_neg z] at h'
      by_cases y : okEl l e = true
      · rw [if_pos y] at h'
        have := wrong_len h' (by omega)
        show i + (es.length + 1) ≤ 4
        omega
      · rw [if_neg y] at h'
        cases h'
theorem GoodLot.few {rs : List Parts} (h : GoodLot rs) : rs.length ≤ 4 := by
  have := wrong_len h.ok (by decide)
  rw [List.length_map] at this
  omega
theorem wrong_all {l : Int} : ∀ {es : List El} {i : Nat}, wrongGo l i es = none → ∀ e ∈ es, okEl l e = true
  | [], _, _ => fun _ h => nomatch h
  | e :: es, i, h => fun x hx => by
    have h' : (if i = 4 then some i else if okEl l e = true then wrongGo l (i + 1) es else some i) = none := h
    by_cases z : i = 4
    · rw [if_pos z] at h'
      cases h'
    · rw [if_neg z] at h'
      by_cases y : okEl l e = true
      · rw [if_pos y] at h'
        rcases List.mem_cons.mp hx with k | k
        · rw [k]; exact y
        · exact wrong_all h' x k
      · rw [if_neg y] at h'
        cases h'
theorem GoodLot.same {rs : List Parts} (h : GoodLot rs) : ∀ r ∈ rs, r.lv = lv0 rs ∧ smallB r.fin r.ls = true := fun r hr => by
  have z := wrong_all h.ok (elOf r) (List.mem_map.mpr ⟨r, hr, rfl⟩)
  have e : lvOf (rs.map elOf) = lv0 rs := by
    cases rs with
    | nil => rfl
    | cons x xs => rfl
  rw [e] at z
  have z' : (decide (r.lv = lv0 rs) && smallB r.fin r.ls) = true := z
  rw [Bool.and_eq_true, decide_eq_true_eq] at z'
  exact z'
theorem rnd_lot {K : PySem.W.Frag} {C L : Addr} {H : Hp} {x b dx : Addr} {lv fin : Int} {ls : List (Int × Int)} {fs : List (Str × V)} {o : HO} (h : RndW K C H b lv fin ls) (hx : H x = some (.ins L dx fs)) (hf : ∀ (v : V) (r : List (Str × V)), fs ≠ (("_levels" : Str), v) :: r) : RndW K C (upd H x o) b lv fin ls := by
  obtain ⟨⟨t, ⟨d, h1⟩, as, h2, h3⟩, h4, h5⟩ := h
  have ne : b ≠ x := fun z => by
    rw [z, hx] at h1
    injection h1 with h1
    injection h1 with _ _ h1
    exact hf _ _ h1
  refine ⟨⟨t, ⟨d, by rw [upd_ne ne]; exact h1⟩, as, ?_, L2.Paired.mapP h3 fun y q z => by rw [upd_ne (fun k => by rw [k, hx] at z; cases z)]; exact z⟩, h4, h5⟩
  rcases h2 with h2 | ⟨o', h2⟩
  · exact .inl (by rw [upd_ne (fun k => by rw [k, hx] at h2; cases h2)]; exact h2)
  · exact .inr ⟨o', by rw [upd_ne (fun k => by rw [k, hx] at h2; cases h2)]; exact h2⟩
theorem rounds_ins {K : PySem.W.Frag} {C L : Addr} {H : Hp} {x t dx : Addr} {rs : List Parts} {fs : List (Str × V)} {o : HO} (h : RoundsAt K C H t rs) (hx : H x = some (.ins L dx fs)) (hf : ∀ (v : V) (r : List (Str × V)), fs ≠ (("_levels" : Str), v) :: r) : RoundsAt K C (upd H x o) t rs := by
  obtain ⟨as, h1, h2⟩ := h
  refine ⟨as, ?_, L2.Paired.mapP h2 fun a r z => rnd_lot z hx hf⟩
  rcases h1 with (h1 | ⟨o', h1⟩) | h1
  · exact .inl (.inl (by rw [upd_ne (fun k => by rw [k, hx] at h1; cases h1)]; exact h1))
  · exact .inl (.inr ⟨o', by rw [upd_ne (fun k => by rw [k, hx] at h1; cases h1)]; exact h1⟩)
  · exact .inr h1
theorem els_rounds {K : PySem.W.Frag} {C : Addr} {H : Hp} : ∀ {xs : List V} {rs : List Parts}, Paired (ElAt K C H) xs (rs.map elOf) → ∃ as : List Addr, xs = as.map V.ref ∧ Paired (RndP K C H) as rs
  | _, [], h => by cases h; exact ⟨[], rfl, .nil⟩
  | _, r :: rs, h => by
    cases h with
    | cons h1 h2 =>
      obtain ⟨a, rfl, hr⟩ := h1
      obtain ⟨as, rfl, hp⟩ := els_rounds h2
      exact ⟨a :: as, rfl, .cons hr hp⟩
theorem line_len {r : Parts} (h : Fit r.lv r.ls r.fin) : (lineS r).length ≤ 130 + 88 * 128 := by
  have := sheet_len h.lv h.fin h.all
  have := h.few
  unfold lineS
  omega
section
variable {P : Program} {w : World} {K : PySem.W.Frag} {mg : Str → Option Value} {base : Heap} {C L xI : Addr}
theorem scLotInit : FnScope ["self", "rounds", "index", "trip"] ["self", "rounds"] (defScope sLotInit) := ⟨rfl, rfl, rfl, by decide +kernel, rfl, by decide +kernel, by decide +kernel⟩
theorem ok_lotInit {f : Addr} {fd : FuncData} (F : Fun K "__init__" "Lot.__init__" sLotInit f fd) (R : RCls K C) (RL : LCls K L) (Z : Ask3 P w K mg base C) (Tx : PrR P w K mg base C "text" (spText K C) 2) (Wr : Dr P w K mg base (spWrongR K C) "wrong_round" ["rounds"] 4) (ZI : XC P w K mg xI "InvalidRounds" "index") (yI : PySem.W.typeIn K (.ref xI) = some (.type "type")) (mis : mg "isinstance" = none) (mt : mg "tuple" = none) (ml : mg "len" = none) : FnOk P w K mg base (L2.CX P w) 6 f fd ["self", "rounds"] (spLotInit K C L xI) := by
  refine F.okX scLotInit (fun vs H Q E h => ?_) (fun cdv A outer s H vs Q E hr h => ?_)
  · obtain ⟨x, dx, v, rfl, _⟩ := h
    rfl
  · obtain ⟨x, dx, v, rfl, hx, h⟩ := h
    refine ⟨_, pss_cons (ps_if (PW.pt (pw_or (pt_not (pt_val (pe_callB call_isi (by rfl) mis (by decide +kernel) (pa_cons (pv 1) (pa_cons (pe_bltn (v := .ty "tuple") (by rfl) mt (by decide +kernel) rfl) pa_nil))))) (pw_or1 (pt_cmpR op_eq (pe_callB call_len_seq (by rfl) ml PySem.boot_len (pa_cons (pv 1) pa_nil)) pe_int (nomark _)))))
        (pss_one (ps_raise rfl (takes_of rfl rfl rfl rfl) (pmk_xo rfl (pe_xc ZI (hr.mono (by decide)) rfl pe_non)))) pss_nil)
      (pss_cons (ps_set (i := 2) scLotInit.nd rfl (.inl rfl) (pe_dr Wr (by decide) hr rfl (pa_cons (pv 1) pa_nil)))
      (pss_cons (ps_if (pt_cmpR op_notN1 (pv 2) pe_non (nomark _)) (pss_one (ps_raise rfl (takes_of rfl rfl rfl rfl) (pmk_xo rfl (pe_xc ZI (hr.mono (by decide)) rfl (pv 2))))) pss_nil)
      (pss_cons (ps_fld (pv 0) (pv 1) (by rfl))
      (pss_cons (ps_fld (pv 0) (pe_prR Z.lv R (by decide) hr (pe_ix ix_tup (pv 1) pe_int (fun _ _ => rfl))) (by rfl))
      (pss_one (ps_fld (pv 0) (pe_join pe_str (pe_lc (own := [("trip", 3)]) (g := gName 3) (tt := tYes) rfl scLotInit.nd (pi_tup (pv 1))
          (blkOk_by (own := [("trip", 3)]) (N := ["self", "rounds", "index", "trip"]) (sc := defScope sLotInit) (by decide +kernel))
          (fun _ _ _ _ _ => pg_name (i := 3) scLotInit.nd rfl (Or.inl rfl)) (fun _ _ _ _ _ => pts_nil)
          (fun _ _ _ _ _ => pe_prR Tx R (by decide) hr (pv 3)))) (by rfl))))))), ?_⟩
    rcases h with ⟨nt, up⟩ | ⟨t, xs, es, rfl, ht, hxe, hlen, h⟩
    · have a1 : Ans (tNot (tB (tCB (rIsi K) (tCons (tVar 1) (tCons (tC (V.ty "tuple")) tNil))))) (L2.start ["self", "rounds", "index", "trip"] [.ref x, v]) H true := ans_not (b := false) (ans_val fun Q2 q2 => ⟨_, rfl, nt _ q2⟩)
      refine sq_yes (ans_or1 a1) ?_
      exact raise_run val_c (fun a na => fr0_none na) (xc_raises ZI yI) fun d H' s1 hd => up d H' s1 hd
    have isT : ∀ Q2 : VK, Q2 (.bl true) H → rIsi K [.ref t, .ty "tuple"] H Q2 := fun Q2 q2 => ⟨_, _, .type "tuple", .type "tuple", true, rfl, .ty "tuple", ty_tup ht, kit_ty (by decide +kernel), q2⟩
    have a1 : Ans (tNot (tB (tCB (rIsi K) (tCons (tVar 1) (tCons (tC (V.ty "tuple")) tNil))))) (L2.start ["self", "rounds", "index", "trip"] [.ref x, .ref t]) H false := ans_not (b := true) (ans_val fun Q2 q2 => ⟨_, rfl, isT _ q2⟩)
    have a2 : Ans (tTest (tOp rEq (tCB (fun xs H Q => ∃ p ys, xs = [.ref p] ∧ (SqL K H p ys ∨ SqT K H p ys) ∧ Q (.int ys.length) H) (tCons (tVar 1) tNil)) (tC (.int 0)))) (L2.start ["self", "rounds", "index", "trip"] [.ref x, .ref t]) H (decide (xs.length = 0)) :=
      ans_eq (x := .int (xs.length : Int)) (y := .int 0) (fun Q q => ⟨_, rfl, t, xs, rfl, .inr ht, q⟩) val_c rfl (by
        by_cases z : xs.length = 0
        · rw [decide_eq_true z, z]
          rfl
        · rw [decide_eq_false z, decide_eq_false fun y => z (by have := V.int.inj y; omega)])
    have hxl := fb_len hxe
    rcases h with ⟨e0, up⟩ | ⟨i, ne, hw, up⟩ | ⟨rs, rfl, G, q⟩
    · subst e0
      have : xs = [] := List.length_eq_zero_iff.mp hxl
      subst this
      refine sq_yes (ans_or a1 a2) ?_
      exact raise_run val_c (fun a na => fr0_none na) (xc_raises ZI yI) fun d H' s1 hd => up d H' s1 hd
    · rw [decide_eq_false fun z => ne (List.length_eq_zero_iff.mp (by omega))] at a2
      refine sq_no (ans_or a1 a2) ?_
      refine ⟨_, rfl, t, xs, es, rfl, ht, hxe, hlen, fun H1 s1 => ?_⟩
      rw [hw]
      dsimp only [gName, List.set]
      refine sq_yes (ans_notN (x := .int (i : Int)) (val_var rfl) rfl) ?_
      exact raise_run (val_var rfl) (fun a na => fr0_none (s1.free na)) (xc_raises ZI yI) fun d H' s2 hd => up d H' (s1.trans s2) hd
    · have nE : (rs.map elOf) ≠ [] := fun z => G.ne (List.map_eq_nil_iff.mp z)
      rw [decide_eq_false fun z => nE (List.length_eq_zero_iff.mp (by omega))] at a2
      refine sq_no (ans_or a1 a2) ?_
      refine ⟨_, rfl, t, xs, _, rfl, ht, hxe, hlen, fun H1 s1 => ?_⟩
      rw [G.ok]
      dsimp only [gName, List.set]
      refine sq_no (ans_notN (x := .non) (val_var rfl) rfl) ?_
      obtain ⟨as, rfl, has⟩ := els_rounds hxe
      have hx1 := s1 _ _ hx
      have rd1 : RoundsAt K C H1 t rs := ⟨as, same_seqT s1 ht, L2.Paired.mapP has fun _ _ z => RndW.same z s1⟩
      refine st_seq (st_fld (y := .ref t) (val_var rfl) (val_var rfl) hx1 RL.cl RL.n1 (by show 0 < 1000; decide) ?_)
      have rd2 := rounds_ins (o := .ins L dx (putF "_rounds" (V.ref t) [])) rd1 hx1 (fun _ _ z => by cases z)
      have hx2 := upd_same (H := H1) (a := x) (o := .ins L dx (putF "_rounds" (V.ref t) []))
      have b2 : But x H (upd H1 x (.ins L dx (putF "_rounds" (V.ref t) []))) := (But.of s1).trans But.at
      generalize upd H1 x (.ins L dx (putF "_rounds" (V.ref t) [])) = H2 at *
      obtain ⟨as2, ht2, has2⟩ := id rd2
      obtain ⟨r0, rs0, rfl⟩ : ∃ r0 rs0, rs = r0 :: rs0 := by
        cases rs with
        | nil => exact absurd rfl G.ne
        | cons r0 rs0 => exact ⟨r0, rs0, rfl⟩
      obtain ⟨a0, ha0, hR0⟩ := fb_get' (i := 0) has2 rfl
      obtain ⟨⟨t0, hA0, hP0⟩, _, _⟩ := id hR0
      obtain ⟨dx0, hAx0⟩ := id hA0
      have ix0 : (as2.map V.ref)[0]? = some (.ref a0) := by rw [List.getElem?_map, ha0]; rfl
      refine ⟨_, rfl, t, _, 0, .ref a0, rfl, rfl, ht2, fb_ix (n := 0) ix0, a0, dx0, _, rfl, hAx0, a0, t0, r0.lv, r0.fin, rfl, hA0, ?_⟩
      refine ⟨_, rfl, x, L, dx, _, rfl, hx2, RL.cl, RL.n2, (by show 1 < 1000; decide), ?_⟩
      have rd3 := rounds_ins (o := .ins L dx (putF "_levels" (V.int r0.lv) (putF "_rounds" (V.ref t) []))) rd2 hx2 (fun _ _ z => by cases z)
      have hx3 := upd_same (H := H2) (a := x) (o := .ins L dx (putF "_levels" (V.int r0.lv) (putF "_rounds" (V.ref t) [])))
      have b3 : But x H (upd H2 x (.ins L dx (putF "_levels" (V.int r0.lv) (putF "_rounds" (V.ref t) [])))) := b2.trans But.at
      generalize upd H2 x (.ins L dx (putF "_levels" (V.int r0.lv) (putF "_rounds" (V.ref t) []))) = H3 at *
      obtain ⟨as3, ht3, has3⟩ := id rd3
      have hl3 := fb_len has3
      have few := G.few
      refine ⟨⟨_, rfl⟩, _, rfl, t, rfl, ⟨_, ht3⟩, fun D hD => ?_⟩
      refine lc_genT (us := as3.zip (r0 :: rs0)) (enc := fun u => V.ref u.1) (out := fun u => some (lineS u.2)) (Rel := fun (z : Str) v _ => v = .str z) (fun _ _ _ _ _ z => z) hD (by rw [fb_fst hl3]; exact ht3) (by rw [List.length_zip]; omega) ?_ ?_
      · intro i u H' hu s4 R' Z' hR hZ
        obtain ⟨u1, u2⟩ := fb_at hu
        obtain ⟨r', hr', hP⟩ := fb_get has3 u1
        rw [u2] at hr'
        have er := Option.some.inj hr'
        subst er
        have hP' : RndW K C H' u.1 u.2.lv u.2.fin u.2.ls := RndW.same hP s4
        obtain ⟨⟨tu, hAu, hPu⟩, _, _⟩ := id hP'
        obtain ⟨dxu, hAxu⟩ := id hAu
        refine ⟨rfl, ?_⟩
        exact ⟨_, rfl, u.1, dxu, _, rfl, hAxu, u.1, tu, u.2.lv, u.2.fin, u.2.ls, rfl, hAu, hPu, G.fit _ (List.mem_of_getElem? u2), fun H5 s5 => hR _ _ _ rfl s5 rfl⟩
      · intro H4 ys s4 hD4 hys
        have ey := fb_strs hys
        rw [fb_out, fb_snd lineS hl3] at ey
        subst ey
        refine ⟨_, D, (r0 :: rs0).map lineS, rfl, rfl, .inl (SqL.of hD4), ?_, ?_⟩
        · have sum : ∀ l : List Parts, (∀ r ∈ l, Fit r.lv r.ls r.fin) → ((l.map lineS).map (·.length)).sum ≤ l.length * (130 + 88 * 128) := fun l hl => by
            induction l with
            | nil => exact Nat.le_refl _
            | cons r l ih =>
              have h1 := ih fun y hy => hl y (List.mem_cons_of_mem _ hy)
              have h2 := line_len (hl r (List.mem_cons_self ..))
              rw [List.map_cons, List.map_cons, List.sum_cons, List.length_cons]
              omega
          have h1 := sum _ G.fit
          have h2 : ("\n" : Str).length = 1 := rfl
          rw [h2, List.length_map]
          have : (r0 :: rs0).length * (130 + 88 * 128) ≤ 4 * (130 + 88 * 128) := Nat.mul_le_mul_right _ few
          omega
        · have hx4 := s4 _ _ hx3
          refine ⟨_, rfl, x, L, dx, _, rfl, hx4, RL.cl, RL.n3, (by show 2 < 1000; decide), ?_⟩
          have rd4 := rounds_ins (o := .ins L dx (putF "_text" (V.str (lotS (r0 :: rs0))) (putF "_levels" (V.int r0.lv) (putF "_rounds" (V.ref t) [])))) (rd3.same s4) hx4 (fun _ _ z => by cases z)
          exact q _ ((b3.trans (But.of s4)).trans But.at) ⟨⟨dx, upd_same⟩, rd4⟩
end
end Lamp
set_option Elab.async false
set_option linter.all false
set_option maxRecDepth 100000
set_option maxHeartbeats 1000000
namespace LampMx
open PySem PySem.W PySem.Calls PyProof.Rows Builtin
/-! truth of an instance whose class has a length and no __bool__ -/
section
variable {P : Program} {wd : World} {A : Around} {E : Value → Shared → Prop} {s : Shared} {K : Frag} {x C L f : Addr} {h₀ : Heap} {m : Str → Option Value} {ox : Obj} {od : Option Obj}
theorem truthy_by_len {Q : Bool → Shared → Prop} (fr : Fr h₀ L s.heap m) (X₀ : K.In h₀) (I : InstAt s.heap x ox C od) (nb : findIn K (.ref C) "__bool__" = some none) (hl : findIn K (.ref C) "__len__" = some (some (.ref f))) (fn : isFn K (.ref f) = true)
    (told : wpAny (model P wd) A.in1 (call (.ref f) [.ref x]) (fun v s' => ∃ n t, v = .int n t ∧ 0 ≤ n ∧ n < 2 ^ 63 ∧ ∀ k, Q (n != 0) { s' with toks := k }) E s) : wpAny (model P wd) A (truthy (.ref x)) Q E s := by
  have X := X₀.keeps fr.keep
  have size : wpAny (model P wd) A (runValue (.builtin "len" ⟨[.ref x], []⟩)) (fun v s' => ∃ n t, v = .int n t ∧ Q (n != 0) s') E s := by
    refine wpAny_runValue (codeAny_builtin entry_len ?_)
    rw [Around.under_plainId plain_len _]
    unfold Builtin.«len»
    refine wpAny_bind (m := oneArg "len" _) (wpAny_pure ?_)
    refine wpAny_bind (m := callSpecial? (.ref x) (Str.ofString "__len__")) (special_fn X I hl (beq_iff_eq.mp fn) (wpAny_mono told (fun v s' z => ?_) fun _ _ z => z))
    obtain ⟨n, t, rfl, n0, n1, q⟩ := z
    refine wpAny_bind (wpAny_holding (wpAny_pure ?_))
    refine wpAny_bind (wpAny_letGo ?_)
    show wpAny _ _ (if n < 0 then _ else _) _ _ _
    rw [if_neg (by omega : ¬ n < 0)]
    show wpAny _ _ (if n ≥ 2 ^ 63 then _ else _) _ _ _
    rw [if_neg (by omega : ¬ n ≥ 2 ^ 63)]
    exact wpAny_bind (wpAny_mkInt (wpAny_pure ⟨n, _, rfl, q _⟩))
  unfold truthy
  refine wpAny_bind (m := callSpecial? (.ref x) (Str.ofString "__bool__")) (wpAny_bind (wpAny_bind (I.type.here ((looks_findIn X nb).here (wpAny_pure ?_)))))
  refine wpAny_bind (wpAny_bind (I.type.here ((looks_findIn X hl).here ?_)))
  refine wpAny_bind (wpAny_mono size (fun v s' z => ?_) fun _ _ z => z)
  obtain ⟨n, t, rfl, q⟩ := z
  exact wpAny_pure q
end
end LampMx
namespace Lamp
open PySem PySem.Spec PyProof.Rows L2
/-- bool(x), by the length -/
def rOwnB (C : Addr) (sp : Sp) : List V → Hp → VK → Prop := fun xs H Q => ∃ (a dx : Addr) (fs : List (Str × V)), xs = [.ref a] ∧ H a = some (.ins C dx fs) ∧ sp [.ref a] H (fun v H' => ∃ n : Int, v = .int n ∧ 0 ≤ n ∧ n < 2 ^ 63 ∧ Q (.bl (n != 0)) H') E0
theorem call_boolL {X : Cx} {C : Addr} {sp : Sp} {k : Nat} (Z : OwnM X.prog X.w X.K X.mg X.base C "__len__" sp k) (nb : PySem.W.findIn X.K (.ref C) "__bool__" = some none) (hr : Room (k + 3) X.A) : CallR X (.type "bool") (rOwnB C sp) := by
  intro pins s σ H xs us Q I r h
  obtain ⟨a, dx, fs, rfl, ha, hs⟩ := h
  obtain ⟨f, fd, h1, h2, F, b⟩ := Z.ex
  have e := Vals.ref1 r
  subst e
  obtain ⟨od, J⟩ := ins_inst I ha
  obtain ⟨m, fr⟩ := I.fr
  refine callType_codes (T := "bool") (Bi := Builtin.«object.__init__») (Q₁ := fun r s₁ => ∃ y, r = .bool y ∧ EP X pins σ Q r s₁) PySem.F.called_bool (PySem.F.typeCall_bool_1 _) PySem.F.entry_object_init ?_ ?_
  · refine codeAny_of_tree ?_
    show wpAny _ X.A.in1.in1 (do checkBuiltinCall "bool.__new__" ⟨[.type "bool", .ref a], []⟩; again (.builtin "bool.__new__" ⟨[.type "bool", .ref a], []⟩)) _ _ s
    refine PySem.wpAny_bind (wpAny_of_eq (PySem.F.newCall_bool_1 _) (PySem.wpAny_pure ⟨plainId_quiet (by decide +kernel) _, codeAny_builtin PySem.F.entry_bool_new ?_⟩))
    rw [Around.under_plainId (by decide +kernel) _]
    refine PySem.wpAny_bind (PySem.wpAny_pure ?_)
    refine PySem.wpAny_bind (wpAny_of_eq PySem.F.conv_sub_bool ?_)
    refine PySem.wpAny_bind (PySem.wpAny_pure ?_)
    refine PySem.wpAny_bind (LampMx.truthy_by_len fr I.ok.mod.kin J nb h1 h2 (wpAny_mono (run_self F hr.in1.in1.in1 rfl b I hs) (fun u s' told => ?_) fun _ _ z => z))
    obtain ⟨v, H1, I1, rv, ⟨n, ev, n0, n1, q⟩⟩ := told
    subst ev
    obtain ⟨t, eu⟩ := rv
    subst eu
    exact ⟨n, t, rfl, n0, n1, fun k => PySem.wpAny_pure ⟨n != 0, rfl, .bl (n != 0), H1, I1.tok _, rfl, q⟩⟩
  · rintro obj s₁ ⟨y, rfl, hq⟩
    exact ⟨rfl, PySem.F.args_object_init_2 _ _, object_init_meets PySem.F.called_bool.init.lookup PySem.F.called_bool.made (by decide) X.prog X.w X.A.in1 _ s₁ ⟨rfl, rfl, hq⟩⟩
end Lamp
set_option Elab.async false
set_option linter.all false
set_option maxRecDepth 100000
set_option maxHeartbeats 2000000
namespace Lamp
open PySem PySem.Spec PyProof.Rows L2 LamX
/-! lots: the class called, what lots tell -/
theorem ElAt_all {K : PySem.W.Frag} {C : Addr} {H H' : Hp} {vs : List V} {es : List El} (h : Paired (ElAt K C H) vs es) (s : Same H H') : Paired (ElAt K C H') vs es := L2.Paired.mapP h fun _ _ z => z.same s
theorem LotOf.imp {K : PySem.W.Frag} {C xI : Addr} {v : V} {H H' : Hp} {g g' : Addr → List Parts → Prop} {E : XK} (h : LotOf K C xI v H g E) (s : Same H H') (nt : NoTup K H v → NoTup K H' v) (k : ∀ t rs, g t rs → g' t rs) : LotOf K C xI v H' g' E := by
  rcases h with ⟨h1, h2⟩ | ⟨t, xs, es, e, h1, h2, h3, h⟩
  · exact .inl ⟨nt h1, h2.on s⟩
  · refine .inr ⟨t, xs, es, e, same_seqT s h1, ElAt_all h2 s, h3, ?_⟩
    rcases h with ⟨e, u⟩ | ⟨i, ne, w, u⟩ | ⟨rs, e, G, q⟩
    · exact .inl ⟨e, u.on s⟩
    · exact .inr (.inl ⟨i, ne, w, u.on s⟩)
    · exact .inr (.inr ⟨rs, e, G, k t rs q⟩)
/-- which values are no tuples stays so in a heap that grows -/
def NoTupS (K : PySem.W.Frag) (H : Hp) (v : V) : Prop := ∀ H', Same H H' → NoTup K H' v
def LotS (K : PySem.W.Frag) (C xI : Addr) (v : V) (H : Hp) (good : Addr → List Parts → Prop) (E : XK) : Prop :=
  (NoTupS K H v ∧ UpI E H xI .non) ∨ ∃ (t : Addr) (xs : List V) (es : List El), v = .ref t ∧ SqT K H t xs ∧ Paired (ElAt K C H) xs es ∧ es.length ≤ 9000 ∧
    ((es = [] ∧ UpI E H xI .non) ∨ (∃ i : Nat, es ≠ [] ∧ wrongOf es = some i ∧ UpI E H xI (.int (i : Int))) ∨ ∃ rs, es = rs.map elOf ∧ GoodLot rs ∧ good t rs)
structure MkL (P : Program) (w : World) (K : PySem.W.Frag) (mg : Str → Option Value) (base : Heap) (C L xI : Addr) : Prop where
  ex : ∃ (f : Addr) (fd : FuncData), Mk K L f ∧ FnOk P w K mg base (L2.CX P w) 6 f fd ["self", "rounds"] (spLotInit K C L xI) ∧ Binds K fd ["self", "rounds"] [] ∧ ∀ (s : Shared) (x u : Value), BindsTo s fd ⟨[x], [("rounds", u)]⟩ [("self", x), ("rounds", u)]
def rMkL (K : PySem.W.Frag) (C L xI : Addr) (E : XK) (v : V) (H : Hp) (Q : VK) : Prop := LotS K C xI v H (fun t rs => ∀ a H', Same H H' → H a = none → LotAt K C L H' a t rs → Q (.ref a) H') E
theorem mkL_init {K : PySem.W.Frag} {C L xI : Addr} {E : XK} {v : V} {H : Hp} {Q : VK} (h : rMkL K C L xI E v H Q) {x dx : Addr} (hx : H x = none) (hd : H dx = none) (hne : dx ≠ x) :
    spLotInit K C L xI [.ref x, v] (upd (upd H dx (.own x)) x (.ins L dx [])) (fun u H2 => u = .non ∧ Q (.ref x) H2) E := by
  have s1 : Same H (upd (upd H dx (.own x)) x (.ins L dx [])) := fun b o e => by rw [upd_ne (ne_of_none e hx), upd_ne (ne_of_none e hd)]; exact e
  refine ⟨x, dx, v, rfl, upd_same, ?_⟩
  rcases h with ⟨h1, h2⟩ | ⟨t, xs, es, e, h1, h2, h3, h⟩
  · exact .inl ⟨h1 _ s1, h2.on s1⟩
  · refine .inr ⟨t, xs, es, e, same_seqT s1 h1, ElAt_all h2 s1, h3, ?_⟩
    rcases h with ⟨e, u⟩ | ⟨i, ne, w, u⟩ | ⟨rs, e, G, q⟩
    · exact .inl ⟨e, u.on s1⟩
    · exact .inr (.inl ⟨i, ne, w, u.on s1⟩)
    · refine .inr (.inr ⟨rs, e, G, fun H' b hL => ⟨rfl, q x H' (fun y o e => b y o (ne_of_none e hx) (s1 y o e)) hx hL⟩⟩)
/-- Lot(a) -/
def tLotC (K : PySem.W.Frag) (C L xI : Addr) (E : XK) (ta : TA) : TE := fun σ H Q => ta σ H fun vs H1 => ∃ v, vs = [v] ∧ rMkL K C L xI E v H1 Q
def gL1 {α : Type} : List α → List α → List α
  | [x], [u] => [x, u]
  | _, _ => []
theorem gL1_rel : ∀ {vs : List V} {us : List Value} {zs : List V} {ws : List Value}, Vals vs us → Vals zs ws → Vals (gL1 vs zs) (gL1 us ws)
  | _, _, _, _, .cons r .nil, .cons r1 .nil => .cons r (.cons r1 .nil)
  | _, _, _, _, .nil, _ => .nil
  | _, _, _, _, .cons _ (.cons _ _), _ => .nil
  | _, _, _, _, .cons _ .nil, .nil => .nil
  | _, _, _, _, .cons _ .nil, .cons _ (.cons _ _) => .nil
section
variable {X : Cx} {C L xI : Addr} {x : Str} {e : Expr} {es : List Expr} {ta tk : TA} {p pos : Pos} {kws : List Keyword} {E : XK}
theorem pe_lotC (Z : MkL X.prog X.w X.K X.mg X.base C L xI) (hr : Room 7 X.A) (hg : Gl X x) (hm : X.mg x = some (.ref L)) (hx : Passes (L2.CX X.prog X.w) X E) (ha : PA X (e :: es) ta) (hdb : (x == ("__debug__" : Str)) = false := by decide)
    (he : starEach (e :: es) X.env = (false, eval e X.env) :: starEach es X.env := by rfl) (hpl : (backTo pos (starEach es X.env)).any (·.1) = false := by rfl) : PE X (.Call (.Name x p) (e :: es) [] pos) (tLotC X.K C L xI E ta) := by
  obtain ⟨f, fd, M, F, b, _⟩ := Z.ex
  refine ⟨fun pins s σ H Q I h => ?_⟩
  refine wpAny_Call_Name_kw (ld_glob I hg hm ?_ hdb)
  refine PySem.W.callWith_K (h₀ := X.base) I.ok.mod.kin M.kp (thn (ha.run pos pins s σ H _ I h) fun us s1 ⟨vs, H1, I1, r, v, ev, q⟩ => ⟨I1.kIn, ?_⟩) he hpl
  subst ev
  exact run_make M F hr b .nil hx I1 r fun y dx hy hd hne => mkL_init q hy hd hne
theorem pe_lotCK (Z : MkL X.prog X.w X.K X.mg X.base C L xI) (hr : Room 7 X.A) (hg : Gl X x) (hm : X.mg x = some (.ref L)) (hx : Passes (L2.CX X.prog X.w) X E) (hkw : PK X kws tk)
    (hall : (backToKw pos (keywordEach kws X.env)).all (·.1.isSome) = true := by rfl) (hks : (backToKw pos (keywordEach kws X.env)).filterMap (·.1) = (["rounds"] : List Str) := by rfl) (hdb : (x == ("__debug__" : Str)) = false := by decide)
    (hpl : ((backTo pos (starEach [] X.env)).any (·.1) || (backToKw pos (keywordEach kws X.env)).any (·.1.isNone)) = false := by rfl) : PE X (.Call (.Name x p) [] kws pos) (tLotC X.K C L xI E tk) := by
  obtain ⟨f, fd, M, F, _, b⟩ := Z.ex
  have kb : KBn X.K fd ["self", "rounds"] 1 ["rounds"] gL1 gL1 := ⟨fun s us ws _ l1 l2 => by
    obtain ⟨x, rfl⟩ := List.length_eq_one_iff.mp l1
    obtain ⟨u, rfl⟩ := List.length_eq_one_iff.mp l2
    exact b s x u, gL1_rel⟩
  refine ⟨fun pins s σ H Q I h => ?_⟩
  refine wpAny_Call_Name_kw (ld_glob I hg hm ?_ hdb)
  refine PySem.W.callWith_KW0 (h₀ := X.base) I.ok.mod.kin M.kp hall ?_ hpl
  refine thn (hkw.run pos pins s σ H _ I h) fun ws s2 ⟨zs, H2, I2, rz, v, ev, q2⟩ => ⟨I2.kIn, ?_⟩
  subst ev
  rw [hks]
  exact run_makeK (us := []) (vs := []) M F hr kb hx I2 .nil rz rfl rfl fun y dx hy hd hne => mkL_init q2 hy hd hne
end
abbrev sLRounds : Stmt := inClass sLot 2
abbrev sLLevels : Stmt := inClass sLot 3
abbrev sLText : Stmt := inClass sLot 4
abbrev sLEq : Stmt := inClass sLot 6
abbrev sLLen : Stmt := inClass sLot 7
abbrev sLStr : Stmt := inClass sLot 8
abbrev sLRepr : Stmt := inClass sLot 9
def lotReprS (n : Nat) : Str := ("Lot of " : Str) ++ nS (n : Int) ++ (" rounds" : Str)
def spLRounds (K : PySem.W.Frag) (C L : Addr) : Sp := fun vs H Q _ => ∃ (a t : Addr) (rs : List Parts), vs = [.ref a] ∧ LotAt K C L H a t rs ∧ Q (.ref t) H
def spLLevels (K : PySem.W.Frag) (C L : Addr) : Sp := fun vs H Q _ => ∃ (a t : Addr) (rs : List Parts), vs = [.ref a] ∧ LotAt K C L H a t rs ∧ Q (.int (lv0 rs)) H
def spLText (K : PySem.W.Frag) (C L : Addr) : Sp := fun vs H Q _ => ∃ (a t : Addr) (rs : List Parts), vs = [.ref a] ∧ LotAt K C L H a t rs ∧ Q (.str (lotS rs)) H
def spLLen (K : PySem.W.Frag) (C L : Addr) : Sp := fun vs H Q _ => ∃ (a t : Addr) (rs : List Parts), vs = [.ref a] ∧ LotAt K C L H a t rs ∧ Q (.int (rs.length : Int)) H
def spLRepr (K : PySem.W.Frag) (C L : Addr) : Sp := fun vs H Q _ => ∃ (a t : Addr) (rs : List Parts), vs = [.ref a] ∧ LotAt K C L H a t rs ∧ rs.length ≤ 4 ∧ Q (.str (lotReprS rs.length)) H
def spEqL (K : PySem.W.Frag) (C L : Addr) : Sp := fun vs H Q _ => ∃ (a b t t' : Addr) (rs rs' : List Parts), vs = [.ref a, .ref b] ∧ LotAt K C L H a t rs ∧ LotAt K C L H b t' rs' ∧ Q (.bl (decide (lotS rs = lotS rs'))) H
section
variable {P : Program} {w : World} {K : PySem.W.Frag} {mg : Str → Option Value} {base : Heap} {C L : Addr}
theorem scLRounds : FnScope ["self"] ["self"] (defScope sLRounds) := ⟨rfl, rfl, rfl, by decide +kernel, rfl, by decide +kernel, by decide +kernel⟩
theorem scLLevels : FnScope ["self"] ["self"] (defScope sLLevels) := ⟨rfl, rfl, rfl, by decide +kernel, rfl, by decide +kernel, by decide +kernel⟩
theorem scLText : FnScope ["self"] ["self"] (defScope sLText) := ⟨rfl, rfl, rfl, by decide +kernel, rfl, by decide +kernel, by decide +kernel⟩
theorem scLEq : FnScope ["self", "other"] ["self", "other"] (defScope sLEq) := ⟨rfl, rfl, rfl, by decide +kernel, rfl, by decide +kernel, by decide +kernel⟩
theorem scLLen : FnScope ["self"] ["self"] (defScope sLLen) := ⟨rfl, rfl, rfl, by decide +kernel, rfl, by decide +kernel, by decide +kernel⟩
theorem scLStr : FnScope ["self"] ["self"] (defScope sLStr) := ⟨rfl, rfl, rfl, by decide +kernel, rfl, by decide +kernel, by decide +kernel⟩
theorem scLRepr : FnScope ["self"] ["self"] (defScope sLRepr) := ⟨rfl, rfl, rfl, by decide +kernel, rfl, by decide +kernel, by decide +kernel⟩
theorem l_rd {σ : L2.St} {H : Hp} {a t : Addr} {rs : List Parts} {ta : TE} (R : LCls K L) (h : Val ta σ H (.ref a)) (hl : LotAt K C L H a t rs) : Val (tFld K ta "_rounds") σ H (.ref t) := by
  obtain ⟨⟨dx, ho⟩, _⟩ := hl
  exact val_fld h ho R.cl R.n1 rfl
theorem l_lv {σ : L2.St} {H : Hp} {a t : Addr} {rs : List Parts} {ta : TE} (R : LCls K L) (h : Val ta σ H (.ref a)) (hl : LotAt K C L H a t rs) : Val (tFld K ta "_levels") σ H (.int (lv0 rs)) := by
  obtain ⟨⟨dx, ho⟩, _⟩ := hl
  exact val_fld h ho R.cl R.n2 rfl
theorem l_tx {σ : L2.St} {H : Hp} {a t : Addr} {rs : List Parts} {ta : TE} (R : LCls K L) (h : Val ta σ H (.ref a)) (hl : LotAt K C L H a t rs) : Val (tFld K ta "_text") σ H (.str (lotS rs)) := by
  obtain ⟨⟨dx, ho⟩, _⟩ := hl
  exact val_fld h ho R.cl R.n3 rfl
theorem ok_lRounds {f : Addr} {fd : FuncData} (F : Fun K "rounds" "Lot.rounds" sLRounds f fd) (R : LCls K L) : FnOk P w K mg base CX0 1 f fd ["self"] (spLRounds K C L) := by
  refine F.ok scLRounds (fun vs H Q E h => ?_) (fun cdv A outer s H vs Q E hr h => ?_)
  · obtain ⟨a, t, rs, rfl, _⟩ := h
    rfl
  · obtain ⟨a, t, rs, rfl, hl, q⟩ := h
    exact ⟨_, pss_one (ps_ret (pe_fld (pv 0) rfl)), st_ret (l_rd R (val_var rfl) hl) q⟩
theorem ok_lLevels {f : Addr} {fd : FuncData} (F : Fun K "levels" "Lot.levels" sLLevels f fd) (R : LCls K L) : FnOk P w K mg base CX0 1 f fd ["self"] (spLLevels K C L) := by
  refine F.ok scLLevels (fun vs H Q E h => ?_) (fun cdv A outer s H vs Q E hr h => ?_)
  · obtain ⟨a, t, rs, rfl, _⟩ := h
    rfl
  · obtain ⟨a, t, rs, rfl, hl, q⟩ := h
    exact ⟨_, pss_one (ps_ret (pe_fld (pv 0) rfl)), st_ret (l_lv R (val_var rfl) hl) q⟩
theorem ok_lText {f : Addr} {fd : FuncData} (F : Fun K "text" "Lot.text" sLText f fd) (R : LCls K L) : FnOk P w K mg base CX0 1 f fd ["self"] (spLText K C L) := by
  refine F.ok scLText (fun vs H Q E h => ?_) (fun cdv A outer s H vs Q E hr h => ?_)
  · obtain ⟨a, t, rs, rfl, _⟩ := h
    rfl
  · obtain ⟨a, t, rs, rfl, hl, q⟩ := h
    exact ⟨_, pss_one (ps_ret (pe_fld (pv 0) rfl)), st_ret (l_tx R (val_var rfl) hl) q⟩
theorem ok_lLen {f : Addr} {fd : FuncData} (F : Fun K "__len__" "Lot.__len__" sLLen f fd) (R : LCls K L) (ml : mg "len" = none) : FnOk P w K mg base CX0 1 f fd ["self"] (spLLen K C L) := by
  refine F.ok scLLen (fun vs H Q E h => ?_) (fun cdv A outer s H vs Q E hr h => ?_)
  · obtain ⟨a, t, rs, rfl, _⟩ := h
    rfl
  · obtain ⟨a, t, rs, rfl, hl, q⟩ := h
    obtain ⟨as, h1, h2⟩ := hl.rds
    refine ⟨_, pss_one (ps_ret (pe_callB call_len_seq (by rfl) ml PySem.boot_len (pa_cons (pe_fld (pv 0) rfl) pa_nil))), ?_⟩
    refine l_rd R (val_var rfl) hl _ ?_
    refine ⟨t, _, rfl, .inr h1, ?_⟩
    rw [List.length_map, fb_len h2]
    exact q
theorem ok_lStr {f : Addr} {fd : FuncData} (F : Fun K "__str__" "Lot.__str__" sLStr f fd) (R : LCls K L) (ms : mg "str" = none) : FnOk P w K mg base CX0 2 f fd ["self"] (spLText K C L) := by
  refine F.ok scLStr (fun vs H Q E h => ?_) (fun cdv A outer s H vs Q E hr h => ?_)
  · obtain ⟨a, t, rs, rfl, _⟩ := h
    rfl
  · obtain ⟨a, t, rs, rfl, hl, q⟩ := h
    refine ⟨_, pss_one (ps_ret (pe_callTy SkE.call_str_str (by rfl) ms (by decide +kernel) (pa_cons (pe_fld (pv 0) rfl) pa_nil))), ?_⟩
    refine l_tx R (val_var rfl) hl _ ?_
    exact ⟨_, rfl, q⟩
theorem ok_lRepr {f : Addr} {fd : FuncData} (F : Fun K "__repr__" "Lot.__repr__" sLRepr f fd) (R : LCls K L) (ml : mg "len" = none) : FnOk P w K mg base CX0 1 f fd ["self"] (spLRepr K C L) := by
  refine F.ok scLRepr (fun vs H Q E h => ?_) (fun cdv A outer s H vs Q E hr h => ?_)
  · obtain ⟨a, t, rs, rfl, _⟩ := h
    rfl
  · obtain ⟨a, t, rs, rfl, hl, few, q⟩ := h
    obtain ⟨as, h1, h2⟩ := hl.rds
    refine ⟨_, pss_one (ps_ret (pe_js (.cons pe_str (.cons (pe_fmt (pe_callB call_len_seq (by rfl) ml PySem.boot_len (pa_cons (pe_fld (pv 0) rfl) pa_nil))) (.cons pe_str .nil))))), ?_⟩
    have hn : ((rs.length : Int)).natAbs < 10 ^ 42 := by
      have : (4 : Nat) < 10 ^ 42 := by decide
      omega
    have e1 := nS_lenW hn
    have c0 : (Str.empty).length = 0 := rfl
    have c1 : ("Lot of " : Str).length = 7 := rfl
    have c2 : (" rounds" : Str).length = 7 := rfl
    have lenV : Val (tCB (fun xs H Q => ∃ p ys, xs = [.ref p] ∧ (SqL K H p ys ∨ SqT K H p ys) ∧ Q (.int ys.length) H) (tCons (tFld K (tVar 0) "_rounds") tNil)) (L2.start ["self"] [.ref a]) H (.int (rs.length : Int)) := fun Q2 q2 => by
      refine l_rd R (val_var rfl) hl _ ?_
      refine ⟨t, _, rfl, .inr h1, ?_⟩
      rw [List.length_map, fb_len h2]
      exact q2
    refine js_c (by simp only [len_app]; exact le_lineW (by omega)) (js_i lenV hn (by simp only [len_app]; exact le_lineW (by omega)) (js_c (by simp only [len_app]; exact le_lineW (by omega)) ?_))
    show Q (.str _) H
    rw [empty_app]
    exact q
theorem ok_eqL {f : Addr} {fd : FuncData} (F : Fun K "__eq__" "Lot.__eq__" sLEq f fd) (R : LCls K L) (S : IsR K L) (mL : mg "Lot" = some (.ref L)) (mis : mg "isinstance" = none) : FnOk P w K mg base CX0 1 f fd ["self", "other"] (spEqL K C L) := by
  refine F.ok scLEq (fun vs H Q E h => ?_) (fun cdv A outer s H vs Q E hr h => ?_)
  · obtain ⟨a, b, t, t', rs, rs', rfl, _⟩ := h
    rfl
  · obtain ⟨a, b, t, t', rs, rs', rfl, ha, hb, q⟩ := h
    refine ⟨_, pss_one (ps_ret (pe_and (pe_callB call_isi (by rfl) mis (by decide +kernel) (pa_cons (pv 1) (pa_cons (pe_glob (v := .ref L) rfl mL rfl) pa_nil))) (pe_one (pe_cmpR op_eq (pe_fld (pv 0) rfl) (pe_fld (pv 1) rfl) (nomark _))))), ?_⟩
    obtain ⟨⟨dx, hB⟩, _⟩ := id hb
    have isL : Val (tCB (rIsi K) (tCons (tVar 1) (tCons (tC (.ref L)) tNil))) (L2.start ["self", "other"] [.ref a, .ref b]) H (.bl true) := fun Q q => ⟨_, rfl, _, _, .ref L, .ref L, true, rfl, .own L, .base (.ins hB R.cl S.cls S.get S.tak S.mro), S.kit, q⟩
    refine isL _ ⟨true, rfl, iteT ?_⟩
    refine l_tx R (val_var rfl) ha _ ?_
    refine l_tx R (val_var rfl) hb _ ?_
    refine ⟨rfl, ?_⟩
    have e : decide (V.str (lotS rs) = V.str (lotS rs')) = decide (lotS rs = lotS rs') := by
      by_cases z : lotS rs = lotS rs'
      · rw [decide_eq_true z, decide_eq_true (congrArg V.str z)]
      · rw [decide_eq_false z, decide_eq_false fun y => z (V.str.inj y)]
    rw [e]
    exact q
end
end Lamp
set_option Elab.async false
set_option linter.all false
set_option maxRecDepth 100000
set_option maxHeartbeats 1000000
namespace Lamp
open PySem PySem.Spec PyProof.Rows L2 LamX
abbrev sSize : Stmt := top 54
abbrev sIsNear : Stmt := top 55
abbrev sCkNear : Stmt := top 56
/-! the size of a round; rounds that are not near are refused -/
def sizesOf (ls : List (Int × Int)) (fin : Int) : List Int := (ls.map fun q => sizeI q.1) ++ [sizeI fin]
def NearR (ls : List (Int × Int)) (fin : Int) : Prop := ∀ x ∈ sizesOf ls fin, x ≤ 40
def IsMax (m : Int) (ls : List (Int × Int)) (fin : Int) : Prop := m ∈ sizesOf ls fin ∧ ∀ x ∈ sizesOf ls fin, x ≤ m
/-- TooFar with the size -/
def UpM (E : XK) (H : Hp) (x : Addr) (ls : List (Int × Int)) (fin : Int) : Prop := ∀ m d H', IsMax m ls fin → Same H H' → H' d = some (exd d [("given", .int m)]) → E (.ref x) (some d) H'
theorem UpM.on {E : XK} {H H1 : Hp} {x : Addr} {ls : List (Int × Int)} {fin : Int} (h : UpM E H x ls fin) (s : Same H H1) : UpM E H1 x ls fin := fun m d H' hm s' e => h m d H' hm (s.trans s') e
def spSize (K : PySem.W.Frag) (C : Addr) : Sp := fun vs H Q _ => ∃ (a : Addr) (lv fin : Int) (ls : List (Int × Int)), vs = [.ref a] ∧ RndW K C H a lv fin ls ∧ ∀ m H', Same H H' → IsMax m ls fin → Q (.int m) H'
def spIsNear (K : PySem.W.Frag) (C : Addr) : Sp := fun vs H Q _ => ∃ (a : Addr) (lv fin : Int) (ls : List (Int × Int)), vs = [.ref a] ∧ RndW K C H a lv fin ls ∧ ∀ (b : Bool) H', Same H H' → (b = true ↔ NearR ls fin) → Q (.bl b) H'
def spCkNear (K : PySem.W.Frag) (C xT : Addr) : Sp := fun vs H Q E => ∃ (a : Addr) (lv fin : Int) (ls : List (Int × Int)), vs = [.ref a] ∧ RndW K C H a lv fin ls ∧ (NearR ls fin → ∀ H', Same H H' → Q .non H') ∧ (¬ NearR ls fin → UpM E H xT ls fin)
section
variable {P : Program} {w : World} {K : PySem.W.Frag} {mg : Str → Option Value} {base : Heap} {C xT : Addr}
theorem scSize : FnScope ["trip", "place", "level"] ["trip"] (defScope sSize) := ⟨rfl, rfl, rfl, by decide +kernel, rfl, by decide +kernel, by decide +kernel⟩
theorem scIsNear : FnScope ["trip"] ["trip"] (defScope sIsNear) := ⟨rfl, rfl, rfl, by decide +kernel, rfl, by decide +kernel, by decide +kernel⟩
theorem scCkNear : FnScope ["trip"] ["trip"] (defScope sCkNear) := ⟨rfl, rfl, rfl, by decide +kernel, rfl, by decide +kernel, by decide +kernel⟩
theorem ok_size {f : Addr} {fd : FuncData} (F : Fun K "size_of" "size_of" sSize f fd) (R : RCls K C) (Z : Ask3 P w K mg base C) (ma : mg "abs" = none) (mmax : mg "max" = none) : FnOk P w K mg base CX0 3 f fd ["trip"] (spSize K C) := by
  refine F.ok scSize (fun vs H Q E h => ?_) (fun cdv A outer s H vs Q E hr h => ?_)
  · obtain ⟨a, lv, fin, ls, rfl, _⟩ := h
    rfl
  · obtain ⟨a, lv, fin, ls, rfl, ⟨⟨t, ha, hp⟩, hg, hi⟩, q⟩ := h
    refine ⟨_, pss_one (ps_ret (pe_callB (cr_max rfl) (by rfl) mmax (by decide +kernel) (pa_cons (pe_op op_cat (pe_lc (own := [("place", 1), ("level", 2)]) (g := gTup K 2 (gCons (gName 1) (gCons (gName 2) gNil))) (tt := tYes) rfl scSize.nd
          (pi_tup (pe_prR Z.la R (by decide) hr (pv 0)))
          (blkOk_by (own := [("place", 1), ("level", 2)]) (N := ["trip", "place", "level"]) (sc := defScope sSize) (by decide +kernel))
          (fun _ _ _ _ _ => pg_tup rfl (pgs_cons (pg_name (i := 1) scSize.nd rfl (Or.inl rfl)) (pgs_cons (pg_name (i := 2) scSize.nd rfl (Or.inl rfl)) pgs_nil))) (fun _ _ _ _ _ => pts_nil)
          (fun _ _ _ _ _ => pe_callB call_abs (by rfl) ma (by decide +kernel) (pa_cons (pv 1) pa_nil))) (pe_lst (pa_cons (pe_callB call_abs (by rfl) ma (by decide +kernel) (pa_cons (pe_prR Z.en R (by decide) hr (pv 0)) pa_nil)) pa_nil))) pa_nil))), ?_⟩
    obtain ⟨dx, hA⟩ := id ha
    obtain ⟨as, ht, hal, hat⟩ := pair_get hp
    have few := hi.few
    refine ⟨_, rfl, a, dx, _, rfl, hA, a, t, lv, fin, rfl, ha, t, rfl, ⟨_, .inl ht⟩, fun D hD => ?_⟩
    refine lc_genT (us := as.zip ls) (enc := fun u => V.ref u.1) (out := fun u => some (sizeI u.2.1)) (Rel := fun (z : Int) v _ => v = .int z) (fun _ _ _ _ _ z => z) hD (by rw [fb_fst hal]; exact .inl ht) (by rw [List.length_zip]; omega) ?_ ?_
    · intro i u H' hu s1 R' Z' hR hZ
      obtain ⟨u1, u2⟩ := fb_at hu
      have h1 := s1 _ _ (hat i _ _ u1 u2)
      refine ⟨u.1, _, rfl, SqT.of h1, rfl, _, _, rfl, _, _, rfl, rfl, rfl, ?_⟩
      exact ⟨_, rfl, u.2.1, rfl, hR _ _ _ rfl (Same.refl _) rfl⟩
    · intro H1 ys s1 hD1 hp1
      have ey := fb_ints hp1
      rw [fb_out, fb_snd (fun q : Int × Int => sizeI q.1) hal] at ey
      subst ey
      refine ⟨_, rfl, a, dx, _, rfl, s1 _ _ hA, a, t, lv, fin, rfl, ha.same s1, fin, rfl, (by show 1 ≤ sizeLine; decide), fun B nB => ?_⟩
      have s2 := same_of (o := .lst [V.int (sizeI fin)]) nB
      refine ⟨D, B, (ls.map fun q => sizeI q.1).map V.int, [V.int (sizeI fin)], rfl, rfl, s2 _ _ hD1, upd_same, ?_, fun c nc => ?_⟩
      · rw [List.length_map, List.length_map]
        have : (1000 : Nat) ≤ sizeLine := by decide
        show ls.length + 1 ≤ sizeLine
        omega
      have s3 := same_of (o := .lst ((ls.map fun q => sizeI q.1).map V.int ++ [V.int (sizeI fin)])) nc
      refine ⟨c, (ls.map fun q => sizeI q.1) ++ [sizeI fin], rfl, SqL.of (by rw [upd_same, List.map_append]; rfl), by rw [List.length_append]; show 0 < _ + 1; omega, fun m hm hM => ?_⟩
      exact q m _ (s1.trans (s2.trans s3)) ⟨hm, hM⟩
theorem ok_isNear {f : Addr} {fd : FuncData} {t1 : Tok} (F : Fun K "is_near" "is_near" sIsNear f fd) (Sz : Dr P w K mg base (spSize K C) "size_of" ["trip"] 3) (mMN : mg "MOST_NEAR" = some (.int 40 t1)) : FnOk P w K mg base CX0 4 f fd ["trip"] (spIsNear K C) := by
  refine F.ok scIsNear (fun vs H Q E h => ?_) (fun cdv A outer s H vs Q E hr h => ?_)
  · obtain ⟨a, lv, fin, ls, rfl, _⟩ := h
    rfl
  · obtain ⟨a, lv, fin, ls, rfl, hA, q⟩ := h
    refine ⟨_, pss_one (ps_ret (pe_cmpR op_le (pe_dr Sz (by decide) hr rfl (pa_cons (pv 0) pa_nil)) (pe_glob (v := .int 40) rfl mMN ⟨_, rfl⟩) (nomark _))), ?_⟩
    refine ⟨_, rfl, a, lv, fin, ls, rfl, hA, fun m H' s1 hm => ⟨_, _, rfl, rfl, q (decide (m ≤ 40)) H' s1 ?_⟩⟩
    rw [decide_eq_true_iff]
    exact ⟨fun z x hx => Int.le_trans (hm.2 x hx) z, fun z => z m hm.1⟩
theorem ok_ckNear {f : Addr} {fd : FuncData} (F : Fun K "check_near" "check_near" sCkNear f fd) (Nr : Dr P w K mg base (spIsNear K C) "is_near" ["trip"] 4) (Sz : Dr P w K mg base (spSize K C) "size_of" ["trip"] 3) (ZT : XC P w K mg xT "TooFar" "given") (yT : PySem.W.typeIn K (.ref xT) = some (.type "type")) : FnOk P w K mg base (L2.CX P w) 5 f fd ["trip"] (spCkNear K C xT) := by
  refine F.okX scCkNear (fun vs H Q E h => ?_) (fun cdv A outer s H vs Q E hr h => ?_)
  · obtain ⟨a, lv, fin, ls, rfl, _⟩ := h
    rfl
  · obtain ⟨a, lv, fin, ls, rfl, hA, q, qx⟩ := h
    refine ⟨_, pss_one (ps_if (pt_not (pt_val (pe_dr Nr (by decide) hr rfl (pa_cons (pv 0) pa_nil)))) (pss_one (ps_raise rfl (takes_of rfl rfl rfl rfl) (pmk_xo rfl (pe_xc ZT (hr.mono (by decide)) rfl (pe_dr Sz (by decide) hr rfl (pa_cons (pv 0) pa_nil)))))) pss_nil), ?_⟩
    refine ⟨_, rfl, a, lv, fin, ls, rfl, hA, fun b H' s1 hb => ?_⟩
    cases b with
    | true => exact ⟨_, rfl, iteF (q (hb.mp rfl) _ s1)⟩
    | false =>
      have far : ¬ NearR ls fin := fun z => Bool.noConfusion (hb.mpr z)
      refine ⟨_, rfl, iteT ?_⟩
      refine ⟨_, rfl, a, lv, fin, ls, rfl, RndW.same hA s1, fun m H2 s2 hm => ?_⟩
      exact raise_run (te := fun _ H Q => Q (.int m) H) (σ := []) (H := H2) (fun Q q => q) (fun a na => fr0_none ((s1.trans s2).free na)) (xc_raises ZT yT) fun d H' s3 hd => qx far m d H' hm ((s1.trans s2).trans s3) hd
end
end Lamp
set_option Elab.async false
set_option linter.all false
set_option maxRecDepth 100000
set_option maxHeartbeats 1000000
namespace Lamp
open PySem PySem.Spec PyProof.Rows L2 LamX
abbrev sSort : Stmt := top 166
/-! the sorting of errors: of each class, with a value of any kind -/
structure KdG (K : PySem.W.Frag) (cA cB cC x0 x1 x2 x3 x4 D : Addr) (p0 p1 p2 b0 b1 b2 b3 b4 : Bool) : Prop where
  T : ∃ (B newId initId : String) (tail : List Value), EC K D B newId initId tail
  ki : PySem.W.findIn K (.ref D) "index" = some none
  kg : PySem.W.findIn K (.ref D) "given" = some none
  k1 : PySem.W.kitOne K (.ref D) (.ref cA) = some p0
  k2 : PySem.W.kitOne K (.ref D) (.ref cB) = some p1
  k3 : PySem.W.kitOne K (.ref D) (.ref cC) = some p2
  k4 : PySem.W.kitOne K (.ref D) (.type "ValueError") = some p0
  k5 : PySem.W.kitOne K (.ref D) (.type "LookupError") = some p1
  k6 : PySem.W.kitOne K (.ref D) (.type "ArithmeticError") = some p2
  y0 : PySem.W.kitOne K (.ref D) (.ref x0) = some b0
  y1 : PySem.W.kitOne K (.ref D) (.ref x1) = some b1
  y2 : PySem.W.kitOne K (.ref D) (.ref x2) = some b2
  y3 : PySem.W.kitOne K (.ref D) (.ref x3) = some b3
  y4 : PySem.W.kitOne K (.ref D) (.ref x4) = some b4
def kdgB (K : PySem.W.Frag) (cA cB cC x0 x1 x2 x3 x4 D : Addr) (p0 p1 p2 b0 b1 b2 b3 b4 : Bool) : Bool :=
  [(Value.ref cA, p0), (.ref cB, p1), (.ref cC, p2), (.type "ValueError", p0), (.type "LookupError", p1), (.type "ArithmeticError", p2), (.ref x0, b0), (.ref x1, b1), (.ref x2, b2), (.ref x3, b3), (.ref x4, b4)].all (fun q => decide (PySem.W.kitOne K (.ref D) q.1 = some q.2)) && (decide (PySem.W.findIn K (.ref D) "index" = some none) && decide (PySem.W.findIn K (.ref D) "given" = some none))
theorem kdgB_ok {K : PySem.W.Frag} {cA cB cC x0 x1 x2 x3 x4 D : Addr} {p0 p1 p2 b0 b1 b2 b3 b4 : Bool} (T : ∃ (B newId initId : String) (tail : List Value), EC K D B newId initId tail) (h : kdgB K cA cB cC x0 x1 x2 x3 x4 D p0 p1 p2 b0 b1 b2 b3 b4 = true) : KdG K cA cB cC x0 x1 x2 x3 x4 D p0 p1 p2 b0 b1 b2 b3 b4 := by
  unfold kdgB at h
  simp only [List.all_cons, List.all_nil, Bool.and_eq_true, decide_eq_true_eq] at h
  obtain ⟨⟨h1, h2, h3, h4, h5, h6, g0, g1, g2, g3, g4, _⟩, e1, e2⟩ := h
  exact ⟨T, e1, e2, h1, h2, h3, h4, h5, h6, g0, g1, g2, g3, g4⟩
structure NmG (mg : Str → Option Value) (cA cB cC x0 x1 x2 x3 x4 : Addr) : Prop where
  mA : mg "WrongValue" = some (.ref cA)
  mB : mg "WrongName" = some (.ref cB)
  mC : mg "NotPossible" = some (.ref cC)
  m0 : mg "InvalidNumber" = some (.ref x0)
  m1 : mg "NotLot" = some (.ref x1)
  m2 : mg "NotRound" = some (.ref x2)
  m3 : mg "OtherLevels" = some (.ref x3)
  m4 : mg "TooFar" = some (.ref x4)
  n1 : mg "ValueError" = none
  n2 : mg "LookupError" = none
  n3 : mg "ArithmeticError" = none
def ErrG (x0 x1 x2 x3 x4 : Addr) (D : Addr) (f m : Str) : Prop := (D = x0 ∧ f = "given" ∧ m = "InvalidNumber") ∨ (D = x1 ∧ f = "given" ∧ m = "NotLot") ∨ (D = x2 ∧ f = "given" ∧ m = "NotRound") ∨ (D = x3 ∧ f = "given" ∧ m = "OtherLevels") ∨ (D = x4 ∧ f = "given" ∧ m = "TooFar")
def spSort (K : PySem.W.Frag) (x0 x1 x2 x3 x4 : Addr) : SpO := fun a D d vs H Q _ => vs = [.ref a] ∧ ((∃ (dd : Addr) (f m : Str) (y : V) (dt : PyData), d = some dd ∧ ErrG x0 x1 x2 x3 x4 D f m ∧ H dd = some (exd dd [(f, y)]) ∧ Dq K H y dt ∧ okD dt = true ∧ ∀ l H', Same H H' → H l = none → H' l = some (.lst [.str m, .str dt.shown]) → Q (.ref l) H'))
def One3 (p0 p1 p2 : Bool) : Prop := (p0 = true ∧ p1 = false ∧ p2 = false) ∨ (p0 = false ∧ p1 = true ∧ p2 = false) ∨ (p0 = false ∧ p1 = false ∧ p2 = true)
def flG (p0 p1 p2 : Bool) : PyData := .list ([p0, p1, p2].map PyData.bool)
theorem flG_ok {p0 p1 p2 : Bool} (h : One3 p0 p1 p2) : SeqAt.shaped (flG p0 p1 p2) = true ∧ PyData.eqv (flG p0 p1 p2) (flG p0 p1 p2) = true ∧ (([p0, p1, p2].map PyData.bool).countP fun z => PyData.eqv z (.bool true)) = 1 := by
  rcases h with ⟨rfl, rfl, rfl⟩ | ⟨rfl, rfl, rfl⟩ | ⟨rfl, rfl, rfl⟩ <;> decide +kernel
theorem sq_lstVn {ta : TA} {σ : L2.St} {H : Hp} {vs : List V} {t2 : TS} {D : Ends} {i : Nat} (h : VA ta σ H vs) (hl : vs.length ≤ 100) (k : ∀ l H', H l = none → H' l = some (.lst vs) → Same H H' → t2 D (σ.set i (some (.ref l))) H') : tSeq (tAsg (tLst ta) (gName i)) t2 D σ H :=
  h _ ⟨Nat.le_of_lt (small1000 (by omega)), fun r hr => k r _ hr upd_same (same_of hr)⟩
section
variable {K : PySem.W.Frag} {σ : L2.St} {H : Hp} {i : Nat} {a D D' : Addr} {d : Option Addr} {b : Bool}
theorem v_isO (h : σ[i]? = some (some (.ref a))) (hd : DictO H d) (hk : PySem.W.kitOne K (.ref D) (.ref D') = some b) :
    Val (tCB (rIsO K a D d) (tCons (tVar i) (tCons (tC (.ref D')) tNil))) σ H (.bl b) := fun Q q => ⟨_, h, _, _, b, rfl, hd, .own D', hk, q⟩
theorem v_isOT {n : String} (h : σ[i]? = some (some (.ref a))) (hd : DictO H d) (hk : PySem.W.kitOne K (.ref D) (.type n) = some b) :
    Val (tCB (rIsO K a D d) (tCons (tVar i) (tCons (tC (.ty n)) tNil))) σ H (.bl b) := fun Q q => ⟨_, h, _, _, b, rfl, hd, .ty n, hk, q⟩
end
theorem DictO.same {H H' : Hp} {d : Option Addr} (h : DictO H d) (s : Same H H') : DictO H' d := by
  cases d with
  | none => trivial
  | some dd =>
    obtain ⟨fs, h⟩ := h
    exact ⟨fs, s _ _ h⟩
section
variable {P : Program} {w : World} {K : PySem.W.Frag} {mg : Str → Option Value} {base : Heap} {cA cB cC x0 x1 x2 x3 x4 : Addr}
theorem scSort : FnScope ["_law_e", "_law_bases", "_law_plain", "_law_found"] ["_law_e"] (defScope sSort) := ⟨rfl, rfl, rfl, by decide +kernel, rfl, by decide +kernel, by decide +kernel⟩
/-- what is told at last -/
theorem sort_end {p0 p1 p2 : Bool} (h3 : One3 p0 p1 p2) {a l1 l2 l3 l4 : Addr} {H4 : Hp} {D : Ends} (e1 : H4 l1 = some (.lst [.bl p0, .bl p1, .bl p2])) (e2 : H4 l2 = some (.lst [.bl p0, .bl p1, .bl p2])) (e3 : H4 l3 = some (.lst [.ref l4])) (q : D.rt (.ref l4) H4) :
    tRet (tIf (tAnd (tTest (tOp rEq (tCB (fun xs H Q => ∃ p ys, xs = [.ref p] ∧ (SqL K H p ys ∨ SqT K H p ys) ∧ Q (.int ys.length) H) (tCons (tVar 3) tNil)) (tC (.int 1)))) (tAnd (tTest (tOp (rEqD K) (tVar 1) (tVar 2))) (tTest (tOp rEq (tBM K "list" (rCntD K) (tVar 1) (tCons (tC (.bl true)) tNil)) (tC (.int 1)))))) (tOp (rIxL K) (tVar 3) (tC (.int 0))) (tLst (tCons (tC (.str "other")) (tCons (tC (.str "")) tNil)))) D [some (.ref a), some (.ref l1), some (.ref l2), some (.ref l3)] H4 := by
  obtain ⟨f1, f2, f3⟩ := flG_ok h3
  have a3 : Ans (tTest (tOp rEq (tBM K "list" (rCntD K) (tVar 1) (tCons (tC (.bl true)) tNil)) (tC (.int 1)))) [some (.ref a), some (.ref l1), some (.ref l2), some (.ref l3)] H4 true := by
    refine ans_eq (x := .int 1) (y := .int 1) (fun Q q => ⟨_, rfl, .inl ⟨rfl, _, SqL.of e1⟩, l1, _, .bl true, [p0, p1, p2].map PyData.bool, .bool true, rfl, rfl, SqL.of e1, dpAll_bools (bs := [p0, p1, p2]), .bl true, by rcases h3 with ⟨rfl, rfl, rfl⟩ | ⟨rfl, rfl, rfl⟩ | ⟨rfl, rfl, rfl⟩ <;> decide, by decide, by rcases h3 with ⟨rfl, rfl, rfl⟩ | ⟨rfl, rfl, rfl⟩ | ⟨rfl, rfl, rfl⟩ <;> decide, ?_⟩) val_c rfl rfl
    rw [f3]
    exact q
  have a2 : Ans (tTest (tOp (rEqD K) (tVar 1) (tVar 2))) [some (.ref a), some (.ref l1), some (.ref l2), some (.ref l3)] H4 true := by
    intro Q q
    refine ⟨_, rfl, _, rfl, flG p0 p1 p2, flG p0 p1 p2, .lst (SqL.of e1) (dpAll_bools (bs := [p0, p1, p2])), .lst (SqL.of e2) (dpAll_bools (bs := [p0, p1, p2])), f1, f1, _, rfl, ?_⟩
    rw [f2]
    exact q
  have a1 : Ans (tTest (tOp rEq (tCB (fun xs H Q => ∃ p ys, xs = [.ref p] ∧ (SqL K H p ys ∨ SqT K H p ys) ∧ Q (.int ys.length) H) (tCons (tVar 3) tNil)) (tC (.int 1)))) [some (.ref a), some (.ref l1), some (.ref l2), some (.ref l3)] H4 true := ans_eq (x := .int 1) (y := .int 1) (fun Q q => ⟨_, rfl, l3, _, rfl, .inl (SqL.of e3), q⟩) val_c rfl rfl
  refine ans_and a1 (ans_and a2 a3) _ ?_
  exact iteT ⟨_, rfl, l3, _, 0, .ref l4, rfl, rfl, SqL.of e3, rfl, q⟩
theorem ok_sort {f : Addr} {fd : FuncData} (F : Fun K "_law_sort" "_law_sort" sSort f fd) (G : ClsG K) (N : NmG mg cA cB cC x0 x1 x2 x3 x4) (D0 : KdG K cA cB cC x0 x1 x2 x3 x4 x0 true false false true false false false false) (D1 : KdG K cA cB cC x0 x1 x2 x3 x4 x1 true false false false true false false false) (D2 : KdG K cA cB cC x0 x1 x2 x3 x4 x2 true false false false false true false false) (D3 : KdG K cA cB cC x0 x1 x2 x3 x4 x3 false false true false false false true false) (D4 : KdG K cA cB cC x0 x1 x2 x3 x4 x4 false false true false false false false true)
    (mis : mg "isinstance" = none) (mp : mg "repr" = none) (ml : mg "len" = none) : FnO P w K mg base 2 f fd ["_law_e"] (spSort K x0 x1 x2 x3 x4) := by
  refine okO F scSort (fun a D d vs H Q E h => ?_) (fun cdv A outer s H vs Q p D d hgd hr Z h => ?_)
  · obtain ⟨rfl, _⟩ := h
    rfl
  · have hu : (A.deeper (envOfC "_law_sort" (defScope sSort) s.heap.objs.size f cdv)).units + 64 < cLine := by have := hr.un; omega
    have hp : p ∈ (L2H.cxH CX0 P w K mg base ["_law_e", "_law_bases", "_law_plain", "_law_found"] "_law_sort" (defScope sSort) f cdv A outer s H E0 p).nox.pn := List.mem_cons_self ..
    obtain ⟨rfl, h⟩ := h
    rcases h with ⟨dd, fl, m, y, dt, rfl, he, hd, hq, kd, q⟩
    · obtain ⟨p0, p1, p2, b0, b1, b2, b3, b4, DD, h3', hb⟩ : ∃ p0 p1 p2 b0 b1 b2 b3 b4, KdG K cA cB cC x0 x1 x2 x3 x4 D p0 p1 p2 b0 b1 b2 b3 b4 ∧ One3 p0 p1 p2 ∧ ((b0 = true ∧ b1 = false ∧ b2 = false ∧ b3 = false ∧ b4 = false ∧ fl = "given" ∧ m = "InvalidNumber") ∨ (b0 = false ∧ b1 = true ∧ b2 = false ∧ b3 = false ∧ b4 = false ∧ fl = "given" ∧ m = "NotLot") ∨ (b0 = false ∧ b1 = false ∧ b2 = true ∧ b3 = false ∧ b4 = false ∧ fl = "given" ∧ m = "NotRound") ∨ (b0 = false ∧ b1 = false ∧ b2 = false ∧ b3 = true ∧ b4 = false ∧ fl = "given" ∧ m = "OtherLevels") ∨ (b0 = false ∧ b1 = false ∧ b2 = false ∧ b3 = false ∧ b4 = true ∧ fl = "given" ∧ m = "TooFar")) := by
        rcases he with ⟨rfl, e1, e2⟩ | ⟨rfl, e1, e2⟩ | ⟨rfl, e1, e2⟩ | ⟨rfl, e1, e2⟩ | ⟨rfl, e1, e2⟩
        · exact ⟨_, _, _, _, _, _, _, _, D0, .inl ⟨rfl, rfl, rfl⟩, .inl (⟨rfl, rfl, rfl, rfl, rfl, e1, e2⟩)⟩
        · exact ⟨_, _, _, _, _, _, _, _, D1, .inl ⟨rfl, rfl, rfl⟩, .inr (.inl (⟨rfl, rfl, rfl, rfl, rfl, e1, e2⟩))⟩
        · exact ⟨_, _, _, _, _, _, _, _, D2, .inl ⟨rfl, rfl, rfl⟩, .inr (.inr (.inl (⟨rfl, rfl, rfl, rfl, rfl, e1, e2⟩)))⟩
        · exact ⟨_, _, _, _, _, _, _, _, D3, .inr (.inr ⟨rfl, rfl, rfl⟩), .inr (.inr (.inr (.inl (⟨rfl, rfl, rfl, rfl, rfl, e1, e2⟩))))⟩
        · exact ⟨_, _, _, _, _, _, _, _, D4, .inr (.inr ⟨rfl, rfl, rfl⟩), .inr (.inr (.inr (.inr (⟨rfl, rfl, rfl, rfl, rfl, e1, e2⟩))))⟩
      have kd3 := okD_of kd
      have hD : DictO H (some dd) := ⟨_, hd⟩
      refine ⟨_, pss_cons (ps_set (i := 1) scSort.nd rfl (.inl rfl) (pe_lst (pa_cons (pe_callB (call_isO G DD.T hp Z) (by rfl) mis (by decide +kernel) (pa_cons (pv 0) (pa_cons (pe_glob (v := .ref cA) rfl N.mA rfl) pa_nil))) (pa_cons (pe_callB (call_isO G DD.T hp Z) (by rfl) mis (by decide +kernel) (pa_cons (pv 0) (pa_cons (pe_glob (v := .ref cB) rfl N.mB rfl) pa_nil))) (pa_cons (pe_callB (call_isO G DD.T hp Z) (by rfl) mis (by decide +kernel) (pa_cons (pv 0) (pa_cons (pe_glob (v := .ref cC) rfl N.mC rfl) pa_nil))) pa_nil)))))
        (pss_cons (ps_set (i := 2) scSort.nd rfl (.inl rfl) (pe_lst (pa_cons (pe_callB (call_isO G DD.T hp Z) (by rfl) mis (by decide +kernel) (pa_cons (pv 0) (pa_cons (pe_bltn (v := .ty "ValueError") (by rfl) N.n1 (by decide +kernel) rfl) pa_nil))) (pa_cons (pe_callB (call_isO G DD.T hp Z) (by rfl) mis (by decide +kernel) (pa_cons (pv 0) (pa_cons (pe_bltn (v := .ty "LookupError") (by rfl) N.n2 (by decide +kernel) rfl) pa_nil))) (pa_cons (pe_callB (call_isO G DD.T hp Z) (by rfl) mis (by decide +kernel) (pa_cons (pv 0) (pa_cons (pe_bltn (v := .ty "ArithmeticError") (by rfl) N.n3 (by decide +kernel) rfl) pa_nil))) pa_nil)))))
        (pss_cons (ps_set (i := 3) scSort.nd rfl (.inl rfl) (pe_lst pa_nil))
        (pss_cons (ps_if (pt_val (pe_callB (call_isO G DD.T hp Z) (by rfl) mis (by decide +kernel) (pa_cons (pv 0) (pa_cons (pe_glob (v := .ref x0) rfl N.m0 rfl) pa_nil)))) (pss_one (ps_expr (pe_bm PySem.F.plainAttrs_list PySem.F.slot_list_append PySem.F.type_list_append mt_append (pv 3) (pa_cons (pe_lst (pa_cons pe_str (pa_cons (pe_callB (call_reprD hgd hu) (by rfl) mp (by decide +kernel) (pa_cons (pe_xfP DD.T DD.kg hp Z.some (pv 0)) pa_nil)) pa_nil))) pa_nil)))) pss_nil)
        (pss_cons (ps_if (pt_val (pe_callB (call_isO G DD.T hp Z) (by rfl) mis (by decide +kernel) (pa_cons (pv 0) (pa_cons (pe_glob (v := .ref x1) rfl N.m1 rfl) pa_nil)))) (pss_one (ps_expr (pe_bm PySem.F.plainAttrs_list PySem.F.slot_list_append PySem.F.type_list_append mt_append (pv 3) (pa_cons (pe_lst (pa_cons pe_str (pa_cons (pe_callB (call_reprD hgd hu) (by rfl) mp (by decide +kernel) (pa_cons (pe_xfP DD.T DD.kg hp Z.some (pv 0)) pa_nil)) pa_nil))) pa_nil)))) pss_nil)
        (pss_cons (ps_if (pt_val (pe_callB (call_isO G DD.T hp Z) (by rfl) mis (by decide +kernel) (pa_cons (pv 0) (pa_cons (pe_glob (v := .ref x2) rfl N.m2 rfl) pa_nil)))) (pss_one (ps_expr (pe_bm PySem.F.plainAttrs_list PySem.F.slot_list_append PySem.F.type_list_append mt_append (pv 3) (pa_cons (pe_lst (pa_cons pe_str (pa_cons (pe_callB (call_reprD hgd hu) (by rfl) mp (by decide +kernel) (pa_cons (pe_xfP DD.T DD.kg hp Z.some (pv 0)) pa_nil)) pa_nil))) pa_nil)))) pss_nil)
        (pss_cons (ps_if (pt_val (pe_callB (call_isO G DD.T hp Z) (by rfl) mis (by decide +kernel) (pa_cons (pv 0) (pa_cons (pe_glob (v := .ref x3) rfl N.m3 rfl) pa_nil)))) (pss_one (ps_expr (pe_bm PySem.F.plainAttrs_list PySem.F.slot_list_append PySem.F.type_list_append mt_append (pv 3) (pa_cons (pe_lst (pa_cons pe_str (pa_cons (pe_callB (call_reprD hgd hu) (by rfl) mp (by decide +kernel) (pa_cons (pe_xfP DD.T DD.kg hp Z.some (pv 0)) pa_nil)) pa_nil))) pa_nil)))) pss_nil)
        (pss_cons (ps_if (pt_val (pe_callB (call_isO G DD.T hp Z) (by rfl) mis (by decide +kernel) (pa_cons (pv 0) (pa_cons (pe_glob (v := .ref x4) rfl N.m4 rfl) pa_nil)))) (pss_one (ps_expr (pe_bm PySem.F.plainAttrs_list PySem.F.slot_list_append PySem.F.type_list_append mt_append (pv 3) (pa_cons (pe_lst (pa_cons pe_str (pa_cons (pe_callB (call_reprD hgd hu) (by rfl) mp (by decide +kernel) (pa_cons (pe_xfP DD.T DD.kg hp Z.some (pv 0)) pa_nil)) pa_nil))) pa_nil)))) pss_nil)
        (pss_one (ps_ret (pe_ifExp (PW.pt (pw_and (pt_cmpR op_eq (pe_callB call_len_seq (by rfl) ml PySem.boot_len (pa_cons (pv 3) pa_nil)) pe_int (nomark _)) (pw_and (pt_cmpR (op_eqD hu) (pv 1) (pv 2) (nomark _)) (pw_and1 (pt_cmpR op_eq (pe_bm PySem.F.plainAttrs_list PySem.F.slot_list_count PySem.F.type_list_count (mt_cntD hu) (pv 1) (pa_cons pe_bl pa_nil)) pe_int (nomark _)))))) (pe_ix ix_list (pv 3) pe_int (fun _ _ => rfl)) (pe_lst (pa_cons pe_str (pa_cons pe_str pa_nil))))))))))))), ?_⟩
      refine sq_lstV (va_cons (v_isO rfl hD DD.k1) (va_cons (v_isO rfl hD DD.k2) (va_cons (v_isO rfl hD DD.k3) va_nil))) (by show 3 ≤ 100; decide) fun l1 H1 h1 s1 => ?_
      have hD1 := hD.same s1
      refine sq_lstV (va_cons (v_isOT rfl hD1 DD.k4) (va_cons (v_isOT rfl hD1 DD.k5) (va_cons (v_isOT rfl hD1 DD.k6) va_nil))) (by show 3 ≤ 100; decide) fun l2 H2 h2 s2 => ?_
      refine sq_lstVn va_nil (by decide) fun l3 H3 n3 h3 s3 => ?_
      have n3 := (s1.trans s2).free n3
      dsimp only [List.set, L2.start, List.map, List.length, List.replicate, List.append]
      have g2 := s3 _ _ h2
      have g1 := s3 _ _ (s2 _ _ h1)
      have s03 := (s1.trans s2).trans s3
      have hD3 := hD.same s03
      have n31 : l1 ≠ l3 := fun z => by rw [z, h3] at g1; cases g1
      have n32 : l2 ≠ l3 := fun z => by rw [z, h3] at g2; cases g2
      have hd3 := s03 _ _ hd
      have hq3 := dq_same s03 hq
      rcases hb with ⟨rfl, rfl, rfl, rfl, rfl, rfl, rfl⟩ | ⟨rfl, rfl, rfl, rfl, rfl, rfl, rfl⟩ | ⟨rfl, rfl, rfl, rfl, rfl, rfl, rfl⟩ | ⟨rfl, rfl, rfl, rfl, rfl, rfl, rfl⟩ | ⟨rfl, rfl, rfl, rfl, rfl, rfl, rfl⟩
      · refine sq_yes (ans_val (v_isO rfl hD3 DD.y0)) ?_
        refine ⟨_, rfl, .inl ⟨rfl, _, SqL.of h3⟩, _, rfl, rfl, _, y, hd3, by rw [List.lookup_cons, beq_self_eq_true], y, dt, rfl, hq3, kd3.1, kd3.2.1, kd3.2.2, (by show 2 ≤ sizeLine; decide), fun l4 n4 => ?_⟩
        have m1 := ne_of_none g1 n4
        have m2 := ne_of_none g2 n4
        have m3 := ne_of_none h3 n4
        refine ⟨l3, [], _, rfl, rfl, by rw [upd_ne m3]; exact h3, (by show 0 < sizeLine; decide), ?_⟩
        have s4 : Same H (upd (upd H3 l4 (.lst [.str "InvalidNumber", .str dt.shown])) l3 (.lst [.ref l4])) := fun b o e => by
          rw [upd_ne (ne_of_none e n3), upd_ne (ne_of_none (s03 _ _ e) n4)]
          exact s03 _ _ e
        have hD4 := hD.same s4
        refine sq_no (ans_val (v_isO rfl hD4 DD.y1)) ?_
        refine sq_no (ans_val (v_isO rfl hD4 DD.y2)) ?_
        refine sq_no (ans_val (v_isO rfl hD4 DD.y3)) ?_
        refine sq_no (ans_val (v_isO rfl hD4 DD.y4)) ?_
        exact sort_end h3' (by rw [upd_ne n31, upd_ne m1]; exact g1) (by rw [upd_ne n32, upd_ne m2]; exact g2) upd_same (q l4 _ s4 (s03.free n4) (by rw [upd_ne (Ne.symm m3), upd_same]))
      · refine sq_no (ans_val (v_isO rfl hD3 DD.y0)) ?_
        refine sq_yes (ans_val (v_isO rfl hD3 DD.y1)) ?_
        refine ⟨_, rfl, .inl ⟨rfl, _, SqL.of h3⟩, _, rfl, rfl, _, y, hd3, by rw [List.lookup_cons, beq_self_eq_true], y, dt, rfl, hq3, kd3.1, kd3.2.1, kd3.2.2, (by show 2 ≤ sizeLine; decide), fun l4 n4 => ?_⟩
        have m1 := ne_of_none g1 n4
        have m2 := ne_of_none g2 n4
        have m3 := ne_of_none h3 n4
        refine ⟨l3, [], _, rfl, rfl, by rw [upd_ne m3]; exact h3, (by show 0 < sizeLine; decide), ?_⟩
        have s4 : Same H (upd (upd H3 l4 (.lst [.str "NotLot", .str dt.shown])) l3 (.lst [.ref l4])) := fun b o e => by
          rw [upd_ne (ne_of_none e n3), upd_ne (ne_of_none (s03 _ _ e) n4)]
          exact s03 _ _ e
        have hD4 := hD.same s4
        refine sq_no (ans_val (v_isO rfl hD4 DD.y2)) ?_
        refine sq_no (ans_val (v_isO rfl hD4 DD.y3)) ?_
        refine sq_no (ans_val (v_isO rfl hD4 DD.y4)) ?_
        exact sort_end h3' (by rw [upd_ne n31, upd_ne m1]; exact g1) (by rw [upd_ne n32, upd_ne m2]; exact g2) upd_same (q l4 _ s4 (s03.free n4) (by rw [upd_ne (Ne.symm m3), upd_same]))
      · refine sq_no (ans_val (v_isO rfl hD3 DD.y0)) ?_
        refine sq_no (ans_val (v_isO rfl hD3 DD.y1)) ?_
        refine sq_yes (ans_val (v_isO rfl hD3 DD.y2)) ?_
        refine ⟨_, rfl, .inl ⟨rfl, _, SqL.of h3⟩, _, rfl, rfl, _, y, hd3, by rw [List.lookup_cons, beq_self_eq_true], y, dt, rfl, hq3, kd3.1, kd3.2.1, kd3.2.2, (by show 2 ≤ sizeLine; decide), fun l4 n4 => ?_⟩
        have m1 := ne_of_none g1 n4
        have m2 := ne_of_none g2 n4
        have m3 := ne_of_none h3 n4
        refine ⟨l3, [], _, rfl, rfl, by rw [upd_ne m3]; exact h3, (by show 0 < sizeLine; decide), ?_⟩
        have s4 : Same H (upd (upd H3 l4 (.lst [.str "NotRound", .str dt.shown])) l3 (.lst [.ref l4])) := fun b o e => by
          rw [upd_ne (ne_of_none e n3), upd_ne (ne_of_none (s03 _ _ e) n4)]
          exact s03 _ _ e
        have hD4 := hD.same s4
        refine sq_no (ans_val (v_isO rfl hD4 DD.y3)) ?_
        refine sq_no (ans_val (v_isO rfl hD4 DD.y4)) ?_
        exact sort_end h3' (by rw [upd_ne n31, upd_ne m1]; exact g1) (by rw [upd_ne n32, upd_ne m2]; exact g2) upd_same (q l4 _ s4 (s03.free n4) (by rw [upd_ne (Ne.symm m3), upd_same]))
      · refine sq_no (ans_val (v_isO rfl hD3 DD.y0)) ?_
        refine sq_no (ans_val (v_isO rfl hD3 DD.y1)) ?_
        refine sq_no (ans_val (v_isO rfl hD3 DD.y2)) ?_
        refine sq_yes (ans_val (v_isO rfl hD3 DD.y3)) ?_
        refine ⟨_, rfl, .inl ⟨rfl, _, SqL.of h3⟩, _, rfl, rfl, _, y, hd3, by rw [List.lookup_cons, beq_self_eq_true], y, dt, rfl, hq3, kd3.1, kd3.2.1, kd3.2.2, (by show 2 ≤ sizeLine; decide), fun l4 n4 => ?_⟩
        have m1 := ne_of_none g1 n4
        have m2 := ne_of_none g2 n4
        have m3 := ne_of_none h3 n4
        refine ⟨l3, [], _, rfl, rfl, by rw [upd_ne m3]; exact h3, (by show 0 < sizeLine; decide), ?_⟩
        have s4 : Same H (upd (upd H3 l4 (.lst [.str "OtherLevels", .str dt.shown])) l3 (.lst [.ref l4])) := fun b o e => by
          rw [upd_ne (ne_of_none e n3), upd_ne (ne_of_none (s03 _ _ e) n4)]
          exact s03 _ _ e
        have hD4 := hD.same s4
        refine sq_no (ans_val (v_isO rfl hD4 DD.y4)) ?_
        exact sort_end h3' (by rw [upd_ne n31, upd_ne m1]; exact g1) (by rw [upd_ne n32, upd_ne m2]; exact g2) upd_same (q l4 _ s4 (s03.free n4) (by rw [upd_ne (Ne.symm m3), upd_same]))
      · refine sq_no (ans_val (v_isO rfl hD3 DD.y0)) ?_
        refine sq_no (ans_val (v_isO rfl hD3 DD.y1)) ?_
        refine sq_no (ans_val (v_isO rfl hD3 DD.y2)) ?_
        refine sq_no (ans_val (v_isO rfl hD3 DD.y3)) ?_
        refine sq_yes (ans_val (v_isO rfl hD3 DD.y4)) ?_
        refine ⟨_, rfl, .inl ⟨rfl, _, SqL.of h3⟩, _, rfl, rfl, _, y, hd3, by rw [List.lookup_cons, beq_self_eq_true], y, dt, rfl, hq3, kd3.1, kd3.2.1, kd3.2.2, (by show 2 ≤ sizeLine; decide), fun l4 n4 => ?_⟩
        have m1 := ne_of_none g1 n4
        have m2 := ne_of_none g2 n4
        have m3 := ne_of_none h3 n4
        refine ⟨l3, [], _, rfl, rfl, by rw [upd_ne m3]; exact h3, (by show 0 < sizeLine; decide), ?_⟩
        have s4 : Same H (upd (upd H3 l4 (.lst [.str "TooFar", .str dt.shown])) l3 (.lst [.ref l4])) := fun b o e => by
          rw [upd_ne (ne_of_none e n3), upd_ne (ne_of_none (s03 _ _ e) n4)]
          exact s03 _ _ e
        have hD4 := hD.same s4
        exact sort_end h3' (by rw [upd_ne n31, upd_ne m1]; exact g1) (by rw [upd_ne n32, upd_ne m2]; exact g2) upd_same (q l4 _ s4 (s03.free n4) (by rw [upd_ne (Ne.symm m3), upd_same]))
end
end Lamp
set_option Elab.async false
set_option linter.all false
set_option maxRecDepth 100000
set_option maxHeartbeats 1000000
namespace Lamp
open PySem PySem.Spec PyProof.Rows L2
/-- t == t, one tuple of objects, whatever these are -/
def rSelfT (K : PySem.W.Frag) : R2 := fun x y H Q => ∃ (a : Addr) (as : List Addr), x = .ref a ∧ y = .ref a ∧ SqT K H a (as.map V.ref) ∧ Q (.bl true) H
theorem op_selfT {X : Cx} (hu : X.A.units < cLine) : OpR X (compareOp .Eq) (rSelfT X.K) := by
  intro pins s σ H x y v u Q I rx ry h
  obtain ⟨a, as, rfl, rfl, ha, q⟩ := h
  cases rx
  cases ry
  obtain ⟨its, r1, ⟨⟨c1, d1, t1, sl1⟩, ho1, hc1, n1, hd1⟩, _⟩ := I.tuple ha
  simp only at hc1 hd1
  subst hc1 hd1
  refine richCompare_meets_room (op := .Eq) ⟨_, ho1, rfl⟩ ⟨_, ho1, rfl⟩ PySem.F.slot_tuple_eq PySem.F.entry_tuple_eq (PySem.F.args_tuple_eq_2 _ _) (PySem.SeqAt.tuple_eqAt a a its.toArray its.toArray n1 n1 d1 d1 sl1 sl1 (fun _ => true))
    ⟨ho1, ho1, fun j h1 h2 => ?_, ?_⟩ hu
  · have hj : j < its.length := by simpa using h1
    have e : ∃ b, its[j] = Value.ref b := by
      have : ∀ {us : List Value} {bs : List Addr} {k : Nat} (hk : k < us.length), Vals (bs.map V.ref) us → ∃ b, us[k] = Value.ref b := by
        intro us bs
        induction bs generalizing us with
        | nil => intro k hk r; cases r; exact absurd hk (Nat.not_lt_zero _)
        | cons b bs ih =>
          intro k hk r
          cases r with
          | cons r0 rs =>
            cases k with
            | zero => exact ⟨b, r0⟩
            | succ k => exact ih (Nat.lt_of_succ_lt_succ hk) rs
      exact this hj r1
    obtain ⟨b, eb⟩ := e
    have : its.toArray[j] = Value.ref b := by simpa using eb
    rw [this]
    exact PySem.SeqAt.EqAt.same _
  · have e : ((List.range (min its.toArray.size its.toArray.size)).all (fun _ => true) && its.toArray.size == its.toArray.size) = true := by simp
    rw [e]
    exact ⟨(fun z => nomatch z), ⟨.bl true, H, I, rfl, q⟩⟩
end Lamp
namespace Lamp
open PySem PySem.Spec PyProof.Rows L2
/-- t == (), whatever t holds -/
def rEqT0 (K : PySem.W.Frag) : R2 := fun x y H Q => ∃ (a b : Addr) (xs : List V), x = .ref a ∧ y = .ref b ∧ SqT K H a xs ∧ SqT K H b [] ∧ Q (.bl xs.isEmpty) H
theorem op_eqT0 {X : Cx} (hu : X.A.units < cLine) : OpR X (compareOp .Eq) (rEqT0 X.K) := by
  intro pins s σ H x y v u Q I rx ry h
  obtain ⟨a, b, xs, rfl, rfl, ha, hb, q⟩ := h
  cases rx
  cases ry
  obtain ⟨its, r1, ⟨⟨c1, d1, t1, sl1⟩, ho1, hc1, n1, hd1⟩, _⟩ := I.tuple ha
  obtain ⟨its2, r2, ⟨⟨c2, d2, t2, sl2⟩, ho2, hc2, n2, hd2⟩, _⟩ := I.tuple hb
  cases r2
  simp only at hc1 hd1 hc2 hd2
  subst hc1 hd1 hc2 hd2
  refine richCompare_meets_room (op := .Eq) ⟨_, ho1, rfl⟩ ⟨_, ho2, rfl⟩ PySem.F.slot_tuple_eq PySem.F.entry_tuple_eq (PySem.F.args_tuple_eq_2 _ _) (PySem.SeqAt.tuple_eqAt a b its.toArray ([] : List Value).toArray n1 n2 d1 d2 sl1 sl2 (fun _ => true))
    ⟨ho1, ho2, fun j h1 h2 => absurd h2 (by simp), ?_⟩ hu
  have e : ((List.range (min its.toArray.size ([] : List Value).toArray.size)).all (fun _ => true) && its.toArray.size == ([] : List Value).toArray.size) = xs.isEmpty := by
    cases xs with
    | nil =>
      cases r1
      rfl
    | cons c r =>
      cases r1
      simp
  rw [e]
  exact ⟨(fun z => nomatch z), ⟨.bl xs.isEmpty, H, I, rfl, q⟩⟩
end Lamp
set_option Elab.async false
set_option linter.all false
set_option maxRecDepth 100000
set_option maxHeartbeats 2000000
namespace Lamp
open PySem PySem.Spec PyProof.Rows L2 LamX
abbrev sSmall : Stmt := top 161
/-! drawn rounds that a lot can have -/
theorem picB_del {K : PySem.W.Frag} {p : Addr} {H : Hp} {t : Addr} {ls : List (Int × Int)} (h : PicB K H t ls) (hp : Pail H p) : PicB K (delH H p) t ls := by
  obtain ⟨as, ⟨o, h1, h3⟩, h2⟩ := h
  obtain ⟨x, y, z, hz, _⟩ := hp
  exact ⟨as, ⟨o, by rw [delH_ne (fun e => by rw [e, hz] at h1; cases h1)]; exact h1, h3⟩, L2.Paired.mapP h2 fun a q ha => by rw [delH_ne (fun e => by rw [e, hz] at ha; cases ha)]; exact ha⟩
/-- a few lamps within a width -/
structure Within (wide : Int) (r : Parts) : Prop where
  pl : ∀ q ∈ r.ls, -wide ≤ q.1 ∧ q.1 ≤ wide
  few : r.ls.length ≤ 3
  lo : -6 ≤ r.fin
  hi : r.fin ≤ 4
def spSmall (K : PySem.W.Frag) : Sp := fun vs H Q _ => ∃ (p : Addr) (lv wide : Int), vs = [.ref p, .int lv, .int wide] ∧ goodLv lv ∧ 1 ≤ wide ∧ wide ≤ 24 ∧ Pail H p ∧
  ∀ (l t : Addr) (r : Parts) H', r.lv = lv → r.Ok → Within wide r → PartsAt K (delH H' p) l t r → Pail H' p → But p H H' → Q (.ref l) H'
def spFits (K : PySem.W.Frag) : Sp := fun vs H Q _ => ∃ (l t : Addr) (r : Parts), vs = [.ref l] ∧ H l = some (.lst [.int r.lv, .ref t, .int r.fin]) ∧ PicAt K H t r.ls ∧ r.ls.length ≤ 400 ∧ ∀ H', Same H H' → Q (.bl (smallB r.fin r.ls)) H'
theorem put_mem {ps : List (Int × Int)} {k v : Int} {q : Int × Int} (h : q ∈ putI ps k v) : q ∈ ps ∨ q.1 = k := by
  unfold putI at h
  split at h
  · obtain ⟨r, hr, e⟩ := List.mem_map.mp h
    by_cases z : r.1 = k
    · rw [if_pos z] at e
      rw [← e]
      exact .inr z
    · rw [if_neg z] at e
      rw [← e]
      exact .inl hr
  · rcases List.mem_append.mp h with z | z
    · exact .inl z
    · rw [List.mem_singleton.mp z]
      exact .inr rfl
section
variable {P : Program} {w : World} {K : PySem.W.Frag} {mg : Str → Option Value} {base : Heap} {C : Addr}
abbrev smallN : List Str := ["_law_pail", "_law_p", "_law_wide", "_law_chart", "_law_k"]
theorem scSmall : FnScope smallN ["_law_pail", "_law_p", "_law_wide"] (defScope sSmall) := ⟨rfl, rfl, rfl, by decide +kernel, rfl, by decide +kernel, by decide +kernel⟩
theorem ok_small {f : Addr} {fd : FuncData} (F : Fun K "_law_small" "_law_small" sSmall f fd) (An : Dr P w K mg base spAny "_law_any_of" ["_law_pail", "_law_some"] 2) (Cs : Dr P w K mg base spCast "_law_cast" ["_law_pail", "_law_many"] 1) (Ti : Dr P w K mg base (spTidy K) "_law_tidy" ["_law_p", "_law_chart"] 1) (m_range : mg "range" = none) : FnOk P w K mg base CX0 3 f fd ["_law_pail", "_law_p", "_law_wide"] (spSmall K) := by
  refine F.ok scSmall (fun vs H Q E h => ?_) (fun cdv A outer s H vs Q E hr h => ?_)
  · obtain ⟨p, lv, wide, rfl, _⟩ := h
    rfl
  · obtain ⟨p, lv, wide, rfl, hg, w1, w2, hp, q⟩ := h
    have hu := hu_of hr
    refine ⟨_, (pss_cons (ps_set (i := 3) scSmall.nd rfl (.inl rfl) pe_dnewK)
      (pss_cons (ps_for PassesOwn.never rfl (pi_range1 rfl m_range (pa_cons (pe_dr An (by decide) hr rfl (pa_cons (pv 0) (pa_cons (pe_lst (pa_cons pe_int (pa_cons pe_int (pa_cons pe_int (pa_cons pe_int (pa_cons pe_int pa_nil)))))) pa_nil))) pa_nil)) (pg_name (i := 4) scSmall.nd rfl (Or.inl rfl))
        (pss_one (ps_dput hu (pv 3) (pe_op op_sub (pe_dr Cs (by decide) hr rfl (pa_cons (pv 0) (pa_cons (pe_op op_add (pe_op op_mul pe_int (pv 2)) pe_int) pa_nil))) (pv 2)) (pe_op op_add pe_int (pe_dr Cs (by decide) hr rfl (pa_cons (pv 0) (pa_cons (pe_op op_sub (pv 1) pe_int) pa_nil)))) rfl)))
      (pss_one (ps_ret (pe_lst (pa_cons (pv 1) (pa_cons (pe_dr Ti (by decide) hr rfl (pa_cons (pv 1) (pa_cons (pv 3) pa_nil))) (pa_cons (pe_dr An (by decide) hr rfl (pa_cons (pv 0) (pa_cons (pe_lst (pa_cons pe_int (pa_cons pe_int (pa_cons pe_int (pa_cons (pe_un un_neg pe_int) (pa_cons pe_int (pa_cons (pe_un un_neg pe_int) (pa_cons pe_int (pa_cons pe_int (pa_cons (pe_un un_neg pe_int) pa_nil)))))))))) pa_nil))) pa_nil)))))))), ?_⟩
    refine sq_setR (fun v H' => ∃ c, v = .ref c ∧ H c = none ∧ H' = upd H c (.dK [])) (fun Q' q' c hc => q' _ _ ⟨c, rfl, hc, rfl⟩) ?_
    rintro v H0 ⟨c, rfl, hc, rfl⟩
    have cp : c ≠ p := hp.ne hc
    have h7 := good_pos hg
    have h1 : 1 < lv := by rcases hg with e | e | e | e <;> omega
    have s0 := same_of (o := .dK []) hc
    refine ⟨_, rfl, (by show 5 ≤ sizeLine; decide), fun l0 n0 => ?_⟩
    have sl0 := same_of (o := .lst [V.int 0, V.int 1, V.int 1, V.int 2, V.int 3]) n0
    have hp0 := hp.same s0
    have c1 := sl0 _ _ (upd_same (H := H) (a := c) (o := .dK []))
    refine ⟨p, l0, _, rfl, hp0.ne n0, upd_same, (by show 0 < 5; decide), (by show 5 < 1000000; decide), hp0.same sl0, fun v H1 hv hp1 bt1 => ?_⟩
    obtain ⟨n, rfl, hn⟩ : ∃ n : Nat, v = .int (n : Int) ∧ n ≤ 3 := by
      simp only [List.mem_cons, List.not_mem_nil, or_false] at hv
      rcases hv with e | e | e | e | e
      · exact ⟨0, e, by decide⟩
      · exact ⟨1, e, by decide⟩
      · exact ⟨1, e, by decide⟩
      · exact ⟨2, e, by decide⟩
      · exact ⟨3, e, by decide⟩
    have bt01 : But p H H1 := (But.of (s0.trans sl0)).trans bt1
    have hc1 := bt1 _ _ cp c1
    refine ⟨(n : Int), rfl, by omega, by omega, ?_⟩
    rw [show ((n : Int)).toNat = n by omega]
    refine for_range (lo := 0) (n := n) (fun i σ' H' => ∃ (b : Option V) (ps : List (Int × Int)), σ' = [some (.ref p), some (.int lv), some (.int wide), some (.ref c), b] ∧ Pail H' p ∧ But p H H' ∧ H' c = some (.dK (enc ps)) ∧ Chart lv ps ∧ ps.length ≤ i ∧ ∀ q ∈ ps, -wide ≤ q.1 ∧ q.1 ≤ wide)
      ⟨none, [], rfl, hp1, bt01, hc1, ⟨.nil, fun q h => (nomatch h), fun q h => (nomatch h)⟩, Nat.le_refl _, fun q h => (nomatch h)⟩ (fun i σ' H' hi z => ?_) (fun σ' H' z => ?_)
    · obtain ⟨b, ps, rfl, hp2, bt2, hc2, hC, hlen, hw⟩ := z
      refine ⟨_, rfl, _, rfl, lv, 1, rfl, rfl, p, lv - 1, rfl, by omega, by omega, hp2, fun r H3 r0 r1 hp3 bt3 => ⟨1, r, rfl, rfl, _, rfl, _, rfl, _, rfl, 2, wide, rfl, rfl, ?_, 2 * wide, 1, rfl, rfl, p, _, rfl, by omega, by omega, hp3, fun z H4 z0 z1 hp4 bt4 => ⟨_, rfl, z, wide, rfl, rfl, ?_⟩⟩⟩
      · exact mulL (by omega)
      have hc4 := bt4 _ _ cp (bt3 _ _ cp hc2)
      refine ⟨c, _, rfl, DPut.k (k := Sum.inl (z - wide)) hc4 ?_, ?_⟩
      · unfold enc
        rw [List.length_map]
        exact small1000 (by omega)
      · have eb : big = 1000000000000000000000000000000000000000 := by decide
        obtain ⟨g1, g2⟩ := hC.put (k := z - wide) (v := 1 + r) (by omega) ⟨by omega, by omega⟩
        refine ⟨_, putI ps (z - wide) (1 + r), rfl, ?_, fun b' o nb e => ?_, ?_, g1, by omega, fun q hq => ?_⟩
        · obtain ⟨x, y, w', hx, hr'⟩ := hp4
          exact ⟨x, y, w', by rw [upd_ne (Ne.symm cp)]; exact hx, hr'⟩
        · rw [upd_ne (ne_of_none e hc)]
          exact bt4 _ _ nb (bt3 _ _ nb (bt2 _ _ nb e))
        · rw [upd_same, enc_put]
        · rcases put_mem hq with e | e
          · exact hw q e
          · omega
    · obtain ⟨b, ps, rfl, hp2, bt2, hc2, hC, hlen, hw⟩ := z
      dsimp only
      refine ⟨_, rfl, _, rfl, _, rfl, lv, c, ps, rfl, hc2, hC.nd, by omega, by omega, fun t ms H3 s3 hpb hri hsum hml => ?_⟩
      refine ⟨_, rfl, 1, rfl, 2, rfl, 6, rfl, (by show 9 ≤ sizeLine; decide), fun l1 n1 => ?_⟩
      have sl1 := same_of (o := .lst [V.int 0, V.int 0, V.int 1, V.int (-1), V.int 2, V.int (-2), V.int 3, V.int 4, V.int (-6)]) n1
      have hp3 := hp2.same s3
      refine ⟨p, l1, _, rfl, hp3.ne n1, upd_same, (by show 0 < 9; decide), (by show 9 < 1000000; decide), hp3.same sl1, fun v H4 hv hp4 bt4 => ?_⟩
      obtain ⟨e, rfl, he⟩ : ∃ e : Int, v = .int e ∧ -6 ≤ e ∧ e ≤ 4 := by
        simp only [List.mem_cons, List.not_mem_nil, or_false] at hv
        rcases hv with h | h | h | h | h | h | h | h | h
        · exact ⟨0, h, by decide⟩
        · exact ⟨0, h, by decide⟩
        · exact ⟨1, h, by decide⟩
        · exact ⟨-1, h, by decide⟩
        · exact ⟨2, h, by decide⟩
        · exact ⟨-2, h, by decide⟩
        · exact ⟨3, h, by decide⟩
        · exact ⟨4, h, by decide⟩
        · exact ⟨-6, h, by decide⟩
      have bt5 : But p H H4 := (bt2.trans (But.of (s3.trans sl1))).trans bt4
      have pl : ∀ q ∈ ms, -wide ≤ q.1 ∧ q.1 ≤ wide := fun q hq => by
        have e1 := hsum q.1
        rw [hri.mem hq] at e1
        have := hri.lv q hq
        rcases level_in (p := q.1) (ls := ps) with z | z
        · rw [z, Int.zero_emod] at e1
          omega
        · exact hw (q.1, levelAt ps q.1) z
      have eb : big = 1000000000000000000000000000000000000000 := by decide
      have few : ms.length ≤ 3 := by omega
      refine ⟨(by show 3 ≤ sizeLine; decide), fun l nl => ?_⟩
      have sl := same_of (o := .lst [V.int lv, V.ref t, V.int e]) nl
      have hp5 := hp4.same sl
      have lp : l ≠ p := hp4.ne nl
      have hpb4 : PicB K H4 t ms := by
        obtain ⟨as, ⟨o, h1, h3⟩, h2⟩ := hpb.same sl1
        obtain ⟨x, y, w', hz, _⟩ := hp3.same sl1
        refine ⟨as, ⟨o, bt4 _ _ (fun k => by rw [k, hz] at h1; cases h1) h1, h3⟩, L2.Paired.mapP h2 fun a q z => bt4 _ _ (fun k => by rw [k, hz] at z; cases z) z⟩
      refine q l t ⟨lv, ms, e⟩ _ rfl ⟨hg, ⟨hri.asc, fun q hq => ?_, fun q hq => ?_, ?_⟩, ?_, ?_⟩ ⟨pl, few, he.1, he.2⟩ ⟨by rw [delH_ne lp]; exact upd_same, picB_del (hpb4.same sl) hp5⟩ hp5 (bt5.trans (But.of sl))
      · exact hri.lv q hq
      · have h : q.1 ≤ wide := (pl q hq).2
        have h' : -wide ≤ q.1 := (pl q hq).1
        dsimp only at *
        omega
      · show ms.length ≤ 5
        omega
      · show -big ≤ e
        omega
      · show e ≤ big
        omega
end
end Lamp
set_option Elab.async false
set_option linter.all false
set_option maxRecDepth 100000
set_option maxHeartbeats 1000000
namespace Lamp
open PySem PySem.Spec PyProof.Rows L2 LamX
/-! defs that may raise, called by n values and by keywords ks for the other parameters, in their order -/
structure DrKX (P : Program) (w : World) (K : PySem.W.Frag) (mg : Str → Option Value) (base : Heap) (sp : Sp) (x : Str) (ps : List Str) (k n : Nat) (ks : List Str) : Prop where
  ex : ∃ (f : Addr) (fd : FuncData), FnOk P w K mg base (L2.CX P w) k f fd ps sp ∧ (∀ (s : Shared) (us ws : List Value), us.length = n → ws.length = ks.length → BindsTo s fd ⟨us, ks.zip ws⟩ (ps.zip (us ++ ws))) ∧ mg x = some (.ref f) ∧ PySem.W.keepIn K (.ref f) = true
def tCallKX (n m : Nat) (sp : Sp) (E : XK) (t tk : TA) : TE := fun σ H Q => t σ H fun vs H1 => tk σ H1 fun zs H2 => vs.length = n ∧ zs.length = m ∧ sp (vs ++ zs) H2 Q E
section
variable {X : Cx} {sp : Sp} {x : Str} {ps ks : List Str} {k j n m : Nat} {e : Expr} {es : List Expr} {t tk : TA} {p pos : Pos} {kws : List Keyword} {E : XK}
theorem pe_drKX (Z : DrKX X.prog X.w X.K X.mg X.base sp x ps k n ks) (hk : k ≤ j) (hr : Room j X.A) (hg : Gl X x) (hx : Passes (L2.CX X.prog X.w) X E) (ha : PA X (e :: es) t) (hkw : PK X kws tk)
    (hm : ks.length = m := by rfl) (hall : (backToKw pos (keywordEach kws X.env)).all (·.1.isSome) = true := by rfl) (hks : (backToKw pos (keywordEach kws X.env)).filterMap (·.1) = ks := by rfl)
    (hdb : (x == ("__debug__" : Str)) = false := by decide) (he : starEach (e :: es) X.env = (false, eval e X.env) :: starEach es X.env := by rfl)
    (hpl : ((backTo pos (starEach (e :: es) X.env)).any (·.1) || (backToKw pos (keywordEach kws X.env)).any (·.1.isNone)) = false := by rfl) : PE X (.Call (.Name x p) (e :: es) kws pos) (tCallKX n m sp E t tk) := by
  subst hm
  obtain ⟨f, fd, F, b, m, kp⟩ := Z.ex
  exact pe_callN (g := fun a b => a ++ b) (gV := fun a b => a ++ b) F (hr.mono hk) hg m kp ⟨fun s us ws _ l1 l2 => b s us ws l1 l2, fun r rz => r.append rz⟩ hx ha hkw hall hks hdb he hpl
theorem pe_drKX0 (Z : DrKX X.prog X.w X.K X.mg X.base sp x ps k 0 ks) (hk : k ≤ j) (hr : Room j X.A) (hg : Gl X x) (hx : Passes (L2.CX X.prog X.w) X E) (hkw : PK X kws tk)
    (hm : ks.length = m := by rfl) (hall : (backToKw pos (keywordEach kws X.env)).all (·.1.isSome) = true := by rfl) (hks : (backToKw pos (keywordEach kws X.env)).filterMap (·.1) = ks := by rfl) (hdb : (x == ("__debug__" : Str)) = false := by decide)
    (hpl : ((backTo pos (starEach [] X.env)).any (·.1) || (backToKw pos (keywordEach kws X.env)).any (·.1.isNone)) = false := by rfl) : PE X (.Call (.Name x p) [] kws pos) (tCallKX 0 m sp E tNil tk) := by
  subst hm
  obtain ⟨f, fd, F, b, m, kp⟩ := Z.ex
  have kb : KBn X.K fd ps 0 ks (fun a b => a ++ b) (fun a b => a ++ b) := ⟨fun s us ws _ l1 l2 => b s us ws l1 l2, fun r rz => r.append rz⟩
  refine ⟨fun pins s σ H Q I h => ?_⟩
  refine wpAny_Call_Name_kw (ld_glob I hg m ?_ hdb)
  refine PySem.W.callWith_KW0 (h₀ := X.base) I.ok.mod.kin kp hall ?_ hpl
  refine thn (hkw.run pos pins s σ H _ I h) fun ws s2 ⟨zs, H2, I2, rz, _, l2, q⟩ => ⟨I2.kIn, ?_⟩
  rw [hks]
  exact run_fnN (us := []) (vs := []) F (hr.mono hk) kb hx I2 .nil rz rfl l2 q
end
end Lamp
set_option Elab.async false
set_option linter.all false
set_option maxRecDepth 100000
set_option maxHeartbeats 1000000
namespace Lamp
open PySem PySem.Spec PyProof.Rows L2 LamX
abbrev sCkN : Stmt := top 50
/-! defs that are given values of any kind -/
/-- an error with this value is raised -/
def Up (E : XK) (H : Hp) (x : Addr) (y : V) : Prop := ∀ d H', Same H H' → H' d = some (exd d [("given", y)]) → E (.ref x) (some d) H'
theorem Up.on {E : XK} {H H1 : Hp} {x : Addr} {y : V} (h : Up E H x y) (s : Same H H1) : Up E H1 x y := fun d H' s' e => h d H' (s.trans s') e
def spIsIntA (K : PySem.W.Frag) : Sp := fun vs H Q _ => ∃ (v : V) (t : T), vs = [v] ∧ An K H v t ∧ Q (.bl (whole t)) H
def spCkNX (K : PySem.W.Frag) (xN : Addr) : Sp := fun vs H Q E => ∃ (v : V) (t : T), vs = [v] ∧ An K H v t ∧ (whole t = true → Q .non H) ∧ (whole t = false → Up E H xN v)
def spCkRA (K : PySem.W.Frag) (C xR : Addr) : Sp := fun vs H Q E => ∃ (v : V), vs = [v] ∧ ((∃ (a t : Addr) (lv fin : Int), v = .ref a ∧ RoundAt C H a lv t fin ∧ Q .non H) ∨ (∃ t, An K H v t ∧ Up E H xR v))
def spCkRsA (K : PySem.W.Frag) (C xR xO : Addr) : Sp := fun vs H Q E => ∃ (x y : V), vs = [x, y] ∧ ((∃ t, An K H x t ∧ Up E H xR x) ∨ (∃ (a t : Addr) (lv fin : Int), x = .ref a ∧ RoundAt C H a lv t fin ∧
  ((∃ u, An K H y u ∧ Up E H xR y) ∨ ∃ (b u : Addr) (lv' fin' : Int), y = .ref b ∧ RoundAt C H b lv' u fin' ∧ (lv' ≠ lv → Up E H xO (.int lv')) ∧ (lv' = lv → Q .non H))))
theorem v_pLv {σ : L2.St} {H : Hp} {C a t : Addr} {lv fin : Int} {ta : TE} (h : Val ta σ H (.ref a)) (hr : RoundAt C H a lv t fin) : Val (tProp C (spLevels C) [] E0 ta) σ H (.int lv) := by
  obtain ⟨dx, hA⟩ := id hr
  exact fun Q q => h _ ⟨a, dx, _, rfl, hA, a, t, lv, fin, rfl, hr, q⟩
section
variable {P : Program} {w : World} {K : PySem.W.Frag} {mg : Str → Option Value} {base : Heap} {C xR xN xO xT : Addr}
theorem scCkN : FnScope ["value"] ["value"] (defScope sCkN) := ⟨rfl, rfl, rfl, by decide +kernel, rfl, by decide +kernel, by decide +kernel⟩
theorem ok_isIntA {f : Addr} {fd : FuncData} (F : Fun K "is_integer" "is_integer" sIsInt f fd) (mis : mg "isinstance" = none) (mi : mg "int" = none) (mb : mg "bool" = none) : FnOk P w K mg base CX0 1 f fd ["value"] (spIsIntA K) := by
  refine F.ok scIsInt (fun vs H Q E h => ?_) (fun cdv A outer s H vs Q E hr h => ?_)
  · obtain ⟨v, t, rfl, _⟩ := h
    rfl
  · obtain ⟨v, t, rfl, ha, q⟩ := h
    refine ⟨_, pss_one (ps_ret (pe_and (pe_callB call_isi (by rfl) mis (by decide +kernel) (pa_cons (pv 0) (pa_cons (pe_bltn (v := .ty "int") (by rfl) mi (by decide +kernel) rfl) pa_nil)))
      (pe_one (pe_not (pe_callB call_isi (by rfl) mis (by decide +kernel) (pa_cons (pv 0) (pa_cons (pe_bltn (v := .ty "bool") (by rfl) mb (by decide +kernel) rfl) pa_nil))))))), ?_⟩
    exact st_ret (whole_and (val_var rfl) ha) q
theorem ok_ckNX {f : Addr} {fd : FuncData} (F : Fun K "check_number" "check_number" sCkN f fd) (Ii : Dr P w K mg base (spIsIntA K) "is_integer" ["value"] 1) (ZN : XC P w K mg xN "InvalidNumber" "given") (yN : PySem.W.typeIn K (.ref xN) = some (.type "type")) : FnOk P w K mg base (L2.CX P w) 3 f fd ["value"] (spCkNX K xN) := by
  refine F.okX scCkN (fun vs H Q E h => ?_) (fun cdv A outer s H vs Q E hr h => ?_)
  · obtain ⟨v, t, rfl, _⟩ := h
    rfl
  · obtain ⟨v, t, rfl, ha, q, qx⟩ := h
    refine ⟨_, pss_one (ps_if (pt_not (pt_val (pe_dr Ii (by decide) hr rfl (pa_cons (pv 0) pa_nil)))) (pss_one (ps_raise rfl (takes_of rfl rfl rfl rfl) (pmk_xo rfl (pe_xc ZN hr rfl (pv 0))))) pss_nil), ?_⟩
    cases e : whole t with
    | true =>
      refine st_no (ans_not (b := true) (ans_val fun Q2 q2 => ⟨_, rfl, v, t, rfl, ha, ?_⟩)) (q e)
      rw [e]
      exact q2
    | false =>
      refine st_yes (ans_not (b := false) (ans_val fun Q2 q2 => ⟨_, rfl, v, t, rfl, ha, ?_⟩)) ?_
      · rw [e]
        exact q2
      · exact raise_run (val_var rfl) (fun a na => fr0_none na) (xc_raises ZN yN) fun d H' s1 hd => qx e d H' s1 hd
theorem ok_ckRA {f : Addr} {fd : FuncData} (F : Fun K "check_round" "check_round" sCkR f fd) (R : RCls K C) (S : IsR K C) (N : NoKd K C) (mR : mg "Round" = some (.ref C)) (mis : mg "isinstance" = none) (ZR : XC P w K mg xR "NotRound" "given") (yR : PySem.W.typeIn K (.ref xR) = some (.type "type")) : FnOk P w K mg base (L2.CX P w) 3 f fd ["value"] (spCkRA K C xR) := by
  refine F.okX scCkR (fun vs H Q E h => ?_) (fun cdv A outer s H vs Q E hr h => ?_)
  · obtain ⟨v, rfl, _⟩ := h
    rfl
  · obtain ⟨v, rfl, h⟩ := h
    refine ⟨_, pss_one (ps_if (pt_not (pt_val (pe_callB call_isi (by rfl) mis (by decide +kernel) (pa_cons (pv 0) (pa_cons (pe_glob (v := .ref C) rfl mR rfl) pa_nil))))) (pss_one (ps_raise rfl (takes_of rfl rfl rfl rfl) (pmk_xo rfl (pe_xc ZR hr rfl (pv 0))))) pss_nil), ?_⟩
    rcases h with ⟨a, t, lv, fin, rfl, ha, q⟩ | ⟨t, ha, qx⟩
    · exact st_no (ans_not (b := true) (ans_val (v_isR R S (val_var rfl) ha))) q
    · refine st_yes (ans_not (b := false) (ans_val fun Q2 q2 => ⟨_, rfl, isi_own N ha q2⟩)) ?_
      exact raise_run (val_var rfl) (fun a na => fr0_none na) (xc_raises ZR yR) fun d H' s1 hd => qx d H' s1 hd
theorem ok_ckRsA {f : Addr} {fd : FuncData} (F : Fun K "check_rounds" "check_rounds" sCkRs f fd) (R : RCls K C) (Z : Ask3 P w K mg base C) (Cr : DrX P w K mg base (spCkRA K C xR) "check_round" ["value"] 3) (ZO : XC P w K mg xO "OtherLevels" "given") (yO : PySem.W.typeIn K (.ref xO) = some (.type "type")) : FnOk P w K mg base (L2.CX P w) 4 f fd ["trip", "second"] (spCkRsA K C xR xO) := by
  refine F.okX scCkRs (fun vs H Q E h => ?_) (fun cdv A outer s H vs Q E hr h => ?_)
  · obtain ⟨x, y, rfl, _⟩ := h
    rfl
  · obtain ⟨x, y, rfl, h⟩ := h
    refine ⟨_, pss_cons (ps_expr (pe_drX Cr (by decide) hr rfl (passes_on (takes_of rfl rfl rfl rfl)) (pa_cons (pv 0) pa_nil)))
      (pss_cons (ps_expr (pe_drX Cr (by decide) hr rfl (passes_on (takes_of rfl rfl rfl rfl)) (pa_cons (pv 1) pa_nil)))
      (pss_one (ps_if (pt_cmpR op_ne (pe_prR Z.lv R (by decide) hr (pv 1)) (pe_prR Z.lv R (by decide) hr (pv 0)) (nomark _)) (pss_one (ps_raise rfl (takes_of rfl rfl rfl rfl) (pmk_xo rfl (pe_xc ZO (hr.mono (by decide)) rfl (pe_prR Z.lv R (by decide) hr (pv 1)))))) pss_nil))), ?_⟩
    rcases h with ⟨t, hx, qx⟩ | ⟨a, t, lv, fin, rfl, ha, h⟩
    · exact ⟨_, rfl, x, rfl, .inr ⟨t, hx, qx⟩⟩
    · refine ⟨_, rfl, _, rfl, .inl ⟨a, t, lv, fin, rfl, ha, ?_⟩⟩
      rcases h with ⟨u, hy, qx⟩ | ⟨b, u, lv', fin', rfl, hb, qo, q⟩
      · exact ⟨_, rfl, y, rfl, .inr ⟨u, hy, qx⟩⟩
      · refine ⟨_, rfl, _, rfl, .inl ⟨b, u, lv', fin', rfl, hb, ?_⟩⟩
        dsimp only
        by_cases e : lv' = lv
        · exact st_no (ans_ne (v_pLv (val_var rfl) hb) (v_pLv (val_var rfl) ha) rfl (by rw [decide_eq_true (by rw [e])]; rfl)) (q e)
        · refine st_yes (ans_ne (v_pLv (val_var rfl) hb) (v_pLv (val_var rfl) ha) rfl (by rw [decide_eq_false (fun z => e (V.int.inj z))]; rfl)) ?_
          exact raise_run (v_pLv (val_var rfl) hb) (fun a na => fr0_none na) (xc_raises ZO yO) fun d H' s1 hd => qo e d H' s1 hd
end
end Lamp
set_option Elab.async false
set_option linter.all false
set_option maxRecDepth 100000
set_option maxHeartbeats 1000000
namespace Lamp
open PySem PySem.Spec PyProof.Rows L2 LamX
/-! defs that may raise, called by keywords alone, in the opposite order -/
structure DrBX (P : Program) (w : World) (K : PySem.W.Frag) (mg : Str → Option Value) (base : Heap) (sp : Sp) (x : Str) (ps : List Str) (k : Nat) : Prop where
  ex : ∃ (f : Addr) (fd : FuncData), FnOk P w K mg base (L2.CX P w) k f fd ps sp ∧ (∀ (s : Shared) (us : List Value), us.length = ps.length → BindsTo s fd ⟨[], ps.reverse.zip us⟩ (ps.zip us.reverse)) ∧ mg x = some (.ref f) ∧ PySem.W.keepIn K (.ref f) = true
def tCallBX (sp : Sp) (E : XK) (tk : TA) : TE := fun σ H Q => tk σ H fun zs H1 => sp zs.reverse H1 Q E
section
variable {X : Cx} {sp : Sp} {x : Str} {ps : List Str} {k j : Nat} {tk : TA} {p pos : Pos} {kws : List Keyword} {E : XK}
theorem pe_drBX (Z : DrBX X.prog X.w X.K X.mg X.base sp x ps k) (hk : k ≤ j) (hr : Room j X.A) (hg : Gl X x) (hx : Passes (L2.CX X.prog X.w) X E) (hkw : PK X kws tk)
    (hall : (backToKw pos (keywordEach kws X.env)).all (·.1.isSome) = true := by rfl) (hks : (backToKw pos (keywordEach kws X.env)).filterMap (·.1) = ps.reverse := by rfl) (hdb : (x == ("__debug__" : Str)) = false := by decide)
    (hpl : ((backTo pos (starEach [] X.env)).any (·.1) || (backToKw pos (keywordEach kws X.env)).any (·.1.isNone)) = false := by rfl) : PE X (.Call (.Name x p) [] kws pos) (tCallBX sp E tk) := by
  obtain ⟨f, fd, F, b, m, kp⟩ := Z.ex
  refine ⟨fun pins s σ H Q I h => ?_⟩
  refine wpAny_Call_Name_kw (ld_glob I hg m ?_ hdb)
  refine PySem.W.callWith_KW0 (h₀ := X.base) I.ok.mod.kin kp hall ?_ hpl
  refine thn (hkw.run pos pins s σ H _ I h) fun ws s2 ⟨zs, H2, I2, rz, q⟩ => ⟨I2.kIn, ?_⟩
  rw [hks]
  have r2 := vals_rev rz
  have hl : ws.reverse.length = ps.length := by rw [← r2.length]; exact F.len _ _ _ _ q
  refine wpAny_call (codeAny_mono (F.run X.A X.stack s2 H2 ⟨[], ps.reverse.zip ws⟩ ws.reverse zs.reverse Q E (hr.mono hk) I2.env0 (b s2 ws (by rw [← hl, List.length_reverse])) r2 q) fun res s' told => ?_)
  match res, told with
  | .error e, told => exact hx pins σ H2 s2 e s' I2 told
  | .ok (.ret u), told => exact I2.after told
  | .ok .next, told => exact False.elim told
  | .ok .brk, told => exact False.elim told
  | .ok .cont, told => exact False.elim told
end
end Lamp
set_option Elab.async false
set_option linter.all false
set_option maxRecDepth 100000
set_option maxHeartbeats 1000000
namespace Lamp
open PySem PySem.Spec PyProof.Rows L2 LamX
/-! the functions, given what they refuse -/
def BadRs (K : PySem.W.Frag) (C xR xO : Addr) (x y : V) (H : Hp) (E : XK) : Prop := (∃ t, An K H x t ∧ Up E H xR x) ∨ ∃ (a t : Addr) (lv fin : Int), x = .ref a ∧ RoundAt C H a lv t fin ∧
  ((∃ u, An K H y u ∧ Up E H xR y) ∨ ∃ (b u : Addr) (lv' fin' : Int), y = .ref b ∧ RoundAt C H b lv' u fin' ∧ lv' ≠ lv ∧ Up E H xO (.int lv'))
theorem BadRs.ck {K : PySem.W.Frag} {C xR xO : Addr} {x y : V} {H : Hp} {E : XK} {q : Prop} (h : BadRs K C xR xO x y H E) : (∃ t, An K H x t ∧ Up E H xR x) ∨ (∃ (a t : Addr) (lv fin : Int), x = .ref a ∧ RoundAt C H a lv t fin ∧
  ((∃ u, An K H y u ∧ Up E H xR y) ∨ ∃ (b u : Addr) (lv' fin' : Int), y = .ref b ∧ RoundAt C H b lv' u fin' ∧ (lv' ≠ lv → Up E H xO (.int lv')) ∧ (lv' = lv → q))) := by
  rcases h with h | ⟨a, t, lv, fin, e, ha, h⟩
  · exact .inl h
  · refine .inr ⟨a, t, lv, fin, e, ha, ?_⟩
    rcases h with h | ⟨b, u, lv', fin', e2, hb, ne, up⟩
    · exact .inl h
    · exact .inr ⟨b, u, lv', fin', e2, hb, fun _ => up, fun z => absurd z ne⟩
def FarRs (K : PySem.W.Frag) (C xT : Addr) (x y : V) (H : Hp) (E : XK) : Prop := ∃ (a b : Addr) (lv fin fin' : Int) (ls ls' : List (Int × Int)), x = .ref a ∧ y = .ref b ∧ RndW K C H a lv fin ls ∧ RndW K C H b lv fin' ls' ∧
  ((¬ NearR ls fin ∧ UpM E H xT ls fin) ∨ (NearR ls fin ∧ ¬ NearR ls' fin' ∧ UpM E H xT ls' fin'))
def LotX (K : PySem.W.Frag) (C L : Addr) (H : Hp) (x : V) : Prop := ∃ (a t : Addr) (rs : List Parts), x = .ref a ∧ LotAt K C L H a t rs
def spRsE (K : PySem.W.Frag) (C xR xO : Addr) : Sp := fun vs H Q E => ∃ (x y : V), vs = [x, y] ∧ BadRs K C xR xO x y H E
def spAlE (K : PySem.W.Frag) (C xR xO xT : Addr) : Sp := fun vs H Q E => ∃ (x y : V), vs = [x, y] ∧ (BadRs K C xR xO x y H E ∨ FarRs K C xT x y H E)
def spRtE (K : PySem.W.Frag) (C xR xN : Addr) : Sp := fun vs H Q E => ∃ (x n : V), vs = [x, n] ∧ ((∃ t, An K H x t ∧ Up E H xR x) ∨ (∃ (a t : Addr) (lv fin : Int) (u : T), x = .ref a ∧ RoundAt C H a lv t fin ∧ An K H n u ∧ Up E H xN n ∧ (whole u = false ∨ ∃ i, n = .int i ∧ u = .int i ∧ i < 1)))
def sp1E (K : PySem.W.Frag) (xL : Addr) : Sp := fun vs H Q E => ∃ (x : V), vs = [x] ∧ ∃ t, An K H x t ∧ Up E H xL x
def sp2E (K : PySem.W.Frag) (xL : Addr) : Sp := fun vs H Q E => ∃ (x y : V), vs = [x, y] ∧ ∃ t, An K H x t ∧ Up E H xL x
def sp3E (K : PySem.W.Frag) (xL : Addr) : Sp := fun vs H Q E => ∃ (x y z : V), vs = [x, y, z] ∧ ∃ t, An K H x t ∧ Up E H xL x
def spLsE (K : PySem.W.Frag) (C L xL : Addr) : Sp := fun vs H Q E => ∃ (x y : V), vs = [x, y] ∧ ((∃ t, An K H x t ∧ Up E H xL x) ∨ (LotX K C L H x ∧ ∃ u, An K H y u ∧ Up E H xL y))
def spLrE (K : PySem.W.Frag) (C L xL xR xT : Addr) : Sp := fun vs H Q E => ∃ (x y : V), vs = [x, y] ∧ ((∃ t, An K H x t ∧ Up E H xL x) ∨ (LotX K C L H x ∧
  ((∃ u, An K H y u ∧ Up E H xR y) ∨ ∃ (b : Addr) (lv fin : Int) (ls : List (Int × Int)), y = .ref b ∧ RndW K C H b lv fin ls ∧ ¬ NearR ls fin ∧ UpM E H xT ls fin)))
def spCkLA (K : PySem.W.Frag) (C L xL : Addr) : Sp := fun vs H Q E => ∃ (v : V), vs = [v] ∧ ((LotX K C L H v ∧ Q .non H) ∨ (∃ t, An K H v t ∧ Up E H xL v))

abbrev sCkL : Stmt := top 53
abbrev sIsAl : Stmt := top 119
abbrev sAl : Stmt := top 120
abbrev sCom : Stmt := top 123
abbrev sRt : Stmt := top 122
abbrev sCAl : Stmt := top 132
abbrev sCRt : Stmt := top 133
abbrev sLw : Stmt := top 128
abbrev sCSt : Stmt := top 134
abbrev sFm : Stmt := top 103
abbrev sCo : Stmt := top 104
abbrev sCkNO : Stmt := top 105
abbrev sMk : Stmt := top 106
abbrev sPl : Stmt := top 107
abbrev sDoi : Stmt := top 108
abbrev sCkLs : Stmt := top 109
abbrev sSa : Stmt := top 110
abbrev sWi : Stmt := top 111
abbrev sNe : Stmt := top 113
abbrev sHo : Stmt := top 144
abbrev sMe : Stmt := top 150
abbrev sCMa : Stmt := top 130
abbrev sCSa : Stmt := top 131
section
variable {P : Program} {w : World} {K : PySem.W.Frag} {mg : Str → Option Value} {base : Heap} {C L xL xR xN xO xT : Addr}
theorem scCkL : FnScope ["value"] ["value"] (defScope sCkL) := ⟨rfl, rfl, rfl, by decide +kernel, rfl, by decide +kernel, by decide +kernel⟩
theorem scIsAl : FnScope ["trip", "second"] ["trip", "second"] (defScope sIsAl) := ⟨rfl, rfl, rfl, by decide +kernel, rfl, by decide +kernel, by decide +kernel⟩
theorem scAl : FnScope ["trip", "second"] ["trip", "second"] (defScope sAl) := ⟨rfl, rfl, rfl, by decide +kernel, rfl, by decide +kernel, by decide +kernel⟩
theorem scCom : FnScope ["trip", "second"] ["trip", "second"] (defScope sCom) := ⟨rfl, rfl, rfl, by decide +kernel, rfl, by decide +kernel, by decide +kernel⟩
theorem scRt : FnScope ["trip", "times"] ["trip", "times"] (defScope sRt) := ⟨rfl, rfl, rfl, by decide +kernel, rfl, by decide +kernel, by decide +kernel⟩
theorem scCAl : FnScope ["trip", "second", "between"] ["trip", "second"] (defScope sCAl) := ⟨rfl, rfl, rfl, by decide +kernel, rfl, by decide +kernel, by decide +kernel⟩
theorem scCRt : FnScope ["trip", "times", "found"] ["trip", "times"] (defScope sCRt) := ⟨rfl, rfl, rfl, by decide +kernel, rfl, by decide +kernel, by decide +kernel⟩
theorem scLw : FnScope ["trip"] ["trip"] (defScope sLw) := ⟨rfl, rfl, rfl, by decide +kernel, rfl, by decide +kernel, by decide +kernel⟩
theorem scCSt : FnScope ["trip", "row"] ["trip"] (defScope sCSt) := ⟨rfl, rfl, rfl, by decide +kernel, rfl, by decide +kernel, by decide +kernel⟩
theorem scFm : FnScope ["lot"] ["lot"] (defScope sFm) := ⟨rfl, rfl, rfl, by decide +kernel, rfl, by decide +kernel, by decide +kernel⟩
theorem scCo : FnScope ["lot"] ["lot"] (defScope sCo) := ⟨rfl, rfl, rfl, by decide +kernel, rfl, by decide +kernel, by decide +kernel⟩
theorem scCkNO : FnScope ["lot", "trip"] ["lot", "trip"] (defScope sCkNO) := ⟨rfl, rfl, rfl, by decide +kernel, rfl, by decide +kernel, by decide +kernel⟩
theorem scMk : FnScope ["lot", "trip"] ["lot", "trip"] (defScope sMk) := ⟨rfl, rfl, rfl, by decide +kernel, rfl, by decide +kernel, by decide +kernel⟩
theorem scPl : FnScope ["lot", "trip"] ["lot", "trip"] (defScope sPl) := ⟨rfl, rfl, rfl, by decide +kernel, rfl, by decide +kernel, by decide +kernel⟩
theorem scDoi : FnScope ["lot", "plan"] ["lot", "plan"] (defScope sDoi) := ⟨rfl, rfl, rfl, by decide +kernel, rfl, by decide +kernel, by decide +kernel⟩
theorem scCkLs : FnScope ["lot", "other"] ["lot", "other"] (defScope sCkLs) := ⟨rfl, rfl, rfl, by decide +kernel, rfl, by decide +kernel, by decide +kernel⟩
theorem scSa : FnScope ["lot", "other"] ["lot", "other"] (defScope sSa) := ⟨rfl, rfl, rfl, by decide +kernel, rfl, by decide +kernel, by decide +kernel⟩
theorem scWi : FnScope ["lot", "other"] ["lot", "other"] (defScope sWi) := ⟨rfl, rfl, rfl, by decide +kernel, rfl, by decide +kernel, by decide +kernel⟩
theorem scNe : FnScope ["lot"] ["lot"] (defScope sNe) := ⟨rfl, rfl, rfl, by decide +kernel, rfl, by decide +kernel, by decide +kernel⟩
theorem scHo : FnScope ["lot", "wish"] ["lot", "wish"] (defScope sHo) := ⟨rfl, rfl, rfl, by decide +kernel, rfl, by decide +kernel, by decide +kernel⟩
theorem scMe : FnScope ["lot", "wishes", "changes"] ["lot", "wishes", "changes"] (defScope sMe) := ⟨rfl, rfl, rfl, by decide +kernel, rfl, by decide +kernel, by decide +kernel⟩
theorem scCMa : FnScope ["lot", "trip"] ["lot", "trip"] (defScope sCMa) := ⟨rfl, rfl, rfl, by decide +kernel, rfl, by decide +kernel, by decide +kernel⟩
theorem scCSa : FnScope ["lot", "other"] ["lot", "other"] (defScope sCSa) := ⟨rfl, rfl, rfl, by decide +kernel, rfl, by decide +kernel, by decide +kernel⟩
theorem ok_ckL {f : Addr} {fd : FuncData} (F : Fun K "check_lot" "check_lot" sCkL f fd) (R : LCls K L) (S : IsR K L) (N : NoKd K L) (mL : mg "Lot" = some (.ref L)) (mis : mg "isinstance" = none) (ZL : XC P w K mg xL "NotLot" "given") (yL : PySem.W.typeIn K (.ref xL) = some (.type "type")) : FnOk P w K mg base (L2.CX P w) 3 f fd ["value"] (spCkLA K C L xL) := by
  refine F.okX scCkL (fun vs H Q E h => ?_) (fun cdv A outer s H vs Q E hr h => ?_)
  · obtain ⟨x, rfl, _⟩ := h
    rfl
  · obtain ⟨x, rfl, h⟩ := h
    refine ⟨_, pss_one (ps_if (pt_not (pt_val (pe_callB call_isi (by rfl) mis (by decide +kernel) (pa_cons (pv 0) (pa_cons (pe_glob (v := .ref L) rfl mL rfl) pa_nil))))) (pss_one (ps_raise rfl (takes_of rfl rfl rfl rfl) (pmk_xo rfl (pe_xc ZL hr rfl (pv 0))))) pss_nil), ?_⟩
    rcases h with ⟨⟨a, t, rs, rfl, ha⟩, q⟩ | ⟨t, ha, qx⟩
    · obtain ⟨⟨dx, hB⟩, _⟩ := id ha
      exact st_no (ans_not (b := true) (ans_val fun Q q => ⟨_, rfl, _, _, .ref L, .ref L, true, rfl, .own L, .base (.ins hB R.cl S.cls S.get S.tak S.mro), S.kit, q⟩)) q
    · refine st_yes (ans_not (b := false) (ans_val fun Q2 q2 => ⟨_, rfl, isi_own N ha q2⟩)) ?_
      exact raise_run (val_var rfl) (fun a na => fr0_none na) (xc_raises ZL yL) fun d H' s1 hd => qx d H' s1 hd
theorem ok_isAl {f : Addr} {fd : FuncData} (F : Fun K "is_alike" "is_alike" sIsAl f fd) (Crs : DrX P w K mg base (spCkRsA K C xR xO) "check_rounds" ["trip", "second"] 4) : FnOk P w K mg base (L2.CX P w) 5 f fd ["trip", "second"] (spRsE K C xR xO) := by
  refine F.okX scIsAl (fun vs H Q E h => ?_) (fun cdv A outer s H vs Q E hr h => ?_)
  · obtain ⟨x, y, rfl, _⟩ := h
    rfl
  · obtain ⟨x, y, rfl, h⟩ := h
    refine ⟨_, pss_cons (ps_expr (pe_drX Crs (by decide) hr rfl (passes_on (takes_of rfl rfl rfl rfl)) (pa_cons (pv 0) (pa_cons (pv 1) pa_nil)))) pss_never, ?_⟩
    exact ⟨_, rfl, _, rfl, x, y, rfl, h.ck⟩
theorem ok_com {f : Addr} {fd : FuncData} (F : Fun K "commute" "commute" sCom f fd) (Crs : DrX P w K mg base (spCkRsA K C xR xO) "check_rounds" ["trip", "second"] 4) : FnOk P w K mg base (L2.CX P w) 5 f fd ["trip", "second"] (spRsE K C xR xO) := by
  refine F.okX scCom (fun vs H Q E h => ?_) (fun cdv A outer s H vs Q E hr h => ?_)
  · obtain ⟨x, y, rfl, _⟩ := h
    rfl
  · obtain ⟨x, y, rfl, h⟩ := h
    refine ⟨_, pss_cons (ps_expr (pe_drX Crs (by decide) hr rfl (passes_on (takes_of rfl rfl rfl rfl)) (pa_cons (pv 0) (pa_cons (pv 1) pa_nil)))) pss_never, ?_⟩
    exact ⟨_, rfl, _, rfl, x, y, rfl, h.ck⟩
theorem ok_al {f : Addr} {fd : FuncData} (F : Fun K "alike" "alike" sAl f fd) (Crs : DrX P w K mg base (spCkRsA K C xR xO) "check_rounds" ["trip", "second"] 4) (Nr : DrX P w K mg base (spCkNear K C xT) "check_near" ["trip"] 5) : FnOk P w K mg base (L2.CX P w) 6 f fd ["trip", "second"] (spAlE K C xR xO xT) := by
  refine F.okX scAl (fun vs H Q E h => ?_) (fun cdv A outer s H vs Q E hr h => ?_)
  · obtain ⟨x, y, rfl, _⟩ := h
    rfl
  · obtain ⟨x, y, rfl, h⟩ := h
    refine ⟨_, pss_cons (ps_expr (pe_drX Crs (by decide) hr rfl (passes_on (takes_of rfl rfl rfl rfl)) (pa_cons (pv 0) (pa_cons (pv 1) pa_nil)))) (pss_cons (ps_expr (pe_drX Nr (by decide) hr rfl (passes_on (takes_of rfl rfl rfl rfl)) (pa_cons (pv 0) pa_nil))) (pss_cons (ps_expr (pe_drX Nr (by decide) hr rfl (passes_on (takes_of rfl rfl rfl rfl)) (pa_cons (pv 1) pa_nil))) pss_never)), ?_⟩
    rcases h with h | ⟨a, b, lv, fin, fin', ls, ls', rfl, rfl, ha, hb, h⟩
    · exact ⟨_, rfl, _, rfl, x, y, rfl, h.ck⟩
    · obtain ⟨⟨t, ha1, _⟩, _, _⟩ := id ha
      obtain ⟨⟨u, hb1, _⟩, _, _⟩ := id hb
      refine ⟨_, rfl, _, rfl, _, _, rfl, .inr ⟨a, t, lv, fin, rfl, ha1, .inr ⟨b, u, lv, fin', rfl, hb1, fun z => absurd rfl z, fun _ => ?_⟩⟩⟩
      rcases h with ⟨far, up⟩ | ⟨near, far, up⟩
      · exact ⟨_, rfl, a, lv, fin, ls, rfl, ha, fun z => absurd z far, fun _ => up⟩
      · refine ⟨_, rfl, a, lv, fin, ls, rfl, ha, fun _ H1 s1 => ?_, fun z => absurd near z⟩
        exact ⟨_, rfl, b, lv, fin', ls', rfl, RndW.same hb s1, fun z => absurd z far, fun _ => up.on s1⟩
theorem ok_rt {f : Addr} {fd : FuncData} (F : Fun K "root" "root" sRt f fd) (Cr : DrX P w K mg base (spCkRA K C xR) "check_round" ["value"] 3) (Cn : DrX P w K mg base (spCkNX K xN) "check_number" ["value"] 3) (ZN : XC P w K mg xN "InvalidNumber" "given") (yN : PySem.W.typeIn K (.ref xN) = some (.type "type")) : FnOk P w K mg base (L2.CX P w) 4 f fd ["trip", "times"] (spRtE K C xR xN) := by
  refine F.okX scRt (fun vs H Q E h => ?_) (fun cdv A outer s H vs Q E hr h => ?_)
  · obtain ⟨x, y, rfl, _⟩ := h
    rfl
  · obtain ⟨x, y, rfl, h⟩ := h
    refine ⟨_, pss_cons (ps_expr (pe_drX Cr (by decide) hr rfl (passes_on (takes_of rfl rfl rfl rfl)) (pa_cons (pv 0) pa_nil))) (pss_cons (ps_expr (pe_drX Cn (by decide) hr rfl (passes_on (takes_of rfl rfl rfl rfl)) (pa_cons (pv 1) pa_nil))) (pss_cons (ps_if (pt_cmpR op_lt (pv 1) pe_int (nomark _)) (pss_one (ps_raise rfl (takes_of rfl rfl rfl rfl) (pmk_xo rfl (pe_xc ZN (hr.mono (by decide)) rfl (pv 1))))) pss_nil) pss_never)), ?_⟩
    rcases h with ⟨t, hx, qx⟩ | ⟨a, t, lv, fin, u, rfl, ha, hn, up, h⟩
    · exact ⟨_, rfl, x, rfl, .inr ⟨t, hx, qx⟩⟩
    · refine ⟨_, rfl, _, rfl, .inl ⟨a, t, lv, fin, rfl, ha, ?_⟩⟩
      rcases h with hw | ⟨i, rfl, rfl, hi⟩
      · exact ⟨_, rfl, y, u, rfl, hn, (fun e => by rw [hw] at e; cases e), fun _ => up⟩
      · refine ⟨_, rfl, _, _, rfl, hn, fun _ => ?_, fun e => by cases e⟩
        dsimp only
        refine sq_yes (an_lt (val_var rfl) val_c (decide_eq_true hi)) ?_
        exact raise_run (val_var rfl) (fun a na => fr0_none na) (xc_raises ZN yN) fun d H' s1 hd => up d H' s1 hd
theorem ok_cAl {f : Addr} {fd : FuncData} (F : Fun K "certify_alike" "certify_alike" sCAl f fd) (Al : DrX P w K mg base (spAlE K C xR xO xT) "alike" ["trip", "second"] 6) : FnOk P w K mg base (L2.CX P w) 7 f fd ["trip", "second"] (spAlE K C xR xO xT) := by
  refine F.okX scCAl (fun vs H Q E h => ?_) (fun cdv A outer s H vs Q E hr h => ?_)
  · obtain ⟨x, y, rfl, _⟩ := h
    rfl
  · obtain ⟨x, y, rfl, h⟩ := h
    refine ⟨_, pss_cons (ps_set (i := 2) scCAl.nd rfl (.inl rfl) (pe_drX Al (by decide) hr rfl (passes_on (takes_of rfl rfl rfl rfl)) (pa_cons (pv 0) (pa_cons (pv 1) pa_nil)))) pss_never, ?_⟩
    exact ⟨_, rfl, _, rfl, _, _, rfl, h⟩
theorem ok_cRt {f : Addr} {fd : FuncData} (F : Fun K "certify_root" "certify_root" sCRt f fd) (Rt : DrX P w K mg base (spRtE K C xR xN) "root" ["trip", "times"] 4) : FnOk P w K mg base (L2.CX P w) 5 f fd ["trip", "times"] (spRtE K C xR xN) := by
  refine F.okX scCRt (fun vs H Q E h => ?_) (fun cdv A outer s H vs Q E hr h => ?_)
  · obtain ⟨x, y, rfl, _⟩ := h
    rfl
  · obtain ⟨x, y, rfl, h⟩ := h
    refine ⟨_, pss_cons (ps_set (i := 2) scCRt.nd rfl (.inl rfl) (pe_drX Rt (by decide) hr rfl (passes_on (takes_of rfl rfl rfl rfl)) (pa_cons (pv 0) (pa_cons (pv 1) pa_nil)))) pss_never, ?_⟩
    exact ⟨_, rfl, _, rfl, _, _, rfl, h⟩
theorem ok_lw {f : Addr} {fd : FuncData} (F : Fun K "least_walk" "least_walk" sLw f fd) (Cr : DrX P w K mg base (spCkRA K C xR) "check_round" ["value"] 3) : FnOk P w K mg base (L2.CX P w) 4 f fd ["trip"] (sp1E K xR) := by
  refine F.okX scLw (fun vs H Q E h => ?_) (fun cdv A outer s H vs Q E hr h => ?_)
  · obtain ⟨x, rfl, _⟩ := h
    rfl
  · obtain ⟨x, rfl, h⟩ := h
    refine ⟨_, pss_cons (ps_expr (pe_drX Cr (by decide) hr rfl (passes_on (takes_of rfl rfl rfl rfl)) (pa_cons (pv 0) pa_nil))) pss_never, ?_⟩
    exact ⟨_, rfl, _, rfl, .inr h⟩
theorem ok_cSt {f : Addr} {fd : FuncData} (F : Fun K "certify_steps" "certify_steps" sCSt f fd) (Lw : DrX P w K mg base (sp1E K xR) "least_walk" ["trip"] 4) : FnOk P w K mg base (L2.CX P w) 5 f fd ["trip"] (sp1E K xR) := by
  refine F.okX scCSt (fun vs H Q E h => ?_) (fun cdv A outer s H vs Q E hr h => ?_)
  · obtain ⟨x, rfl, _⟩ := h
    rfl
  · obtain ⟨x, rfl, h⟩ := h
    refine ⟨_, pss_cons (ps_set (i := 1) scCSt.nd rfl (.inl rfl) (pe_drX Lw (by decide) hr rfl (passes_on (takes_of rfl rfl rfl rfl)) (pa_cons (pv 0) pa_nil))) pss_never, ?_⟩
    exact ⟨_, rfl, _, rfl, h⟩
theorem ok_fm {f : Addr} {fd : FuncData} (F : Fun K "form" "form" sFm f fd) (Cl : DrX P w K mg base (spCkLA K C L xL) "check_lot" ["value"] 3) : FnOk P w K mg base (L2.CX P w) 4 f fd ["lot"] (sp1E K xL) := by
  refine F.okX scFm (fun vs H Q E h => ?_) (fun cdv A outer s H vs Q E hr h => ?_)
  · obtain ⟨x, rfl, _⟩ := h
    rfl
  · obtain ⟨x, rfl, h⟩ := h
    refine ⟨_, pss_cons (ps_expr (pe_drX Cl (by decide) hr rfl (passes_on (takes_of rfl rfl rfl rfl)) (pa_cons (pv 0) pa_nil))) pss_never, ?_⟩
    exact ⟨_, rfl, _, rfl, .inr h⟩
theorem ok_co {f : Addr} {fd : FuncData} (F : Fun K "cosets" "cosets" sCo f fd) (Cl : DrX P w K mg base (spCkLA K C L xL) "check_lot" ["value"] 3) : FnOk P w K mg base (L2.CX P w) 4 f fd ["lot"] (sp1E K xL) := by
  refine F.okX scCo (fun vs H Q E h => ?_) (fun cdv A outer s H vs Q E hr h => ?_)
  · obtain ⟨x, rfl, _⟩ := h
    rfl
  · obtain ⟨x, rfl, h⟩ := h
    refine ⟨_, pss_cons (ps_expr (pe_drX Cl (by decide) hr rfl (passes_on (takes_of rfl rfl rfl rfl)) (pa_cons (pv 0) pa_nil))) pss_never, ?_⟩
    exact ⟨_, rfl, _, rfl, .inr h⟩
theorem ok_ne {f : Addr} {fd : FuncData} (F : Fun K "needless" "needless" sNe f fd) (Cl : DrX P w K mg base (spCkLA K C L xL) "check_lot" ["value"] 3) : FnOk P w K mg base (L2.CX P w) 4 f fd ["lot"] (sp1E K xL) := by
  refine F.okX scNe (fun vs H Q E h => ?_) (fun cdv A outer s H vs Q E hr h => ?_)
  · obtain ⟨x, rfl, _⟩ := h
    rfl
  · obtain ⟨x, rfl, h⟩ := h
    refine ⟨_, pss_cons (ps_expr (pe_drX Cl (by decide) hr rfl (passes_on (takes_of rfl rfl rfl rfl)) (pa_cons (pv 0) pa_nil))) pss_never, ?_⟩
    exact ⟨_, rfl, _, rfl, .inr h⟩
theorem ok_doi {f : Addr} {fd : FuncData} (F : Fun K "doing" "doing" sDoi f fd) (Cl : DrX P w K mg base (spCkLA K C L xL) "check_lot" ["value"] 3) : FnOk P w K mg base (L2.CX P w) 4 f fd ["lot", "plan"] (sp2E K xL) := by
  refine F.okX scDoi (fun vs H Q E h => ?_) (fun cdv A outer s H vs Q E hr h => ?_)
  · obtain ⟨x, y, rfl, _⟩ := h
    rfl
  · obtain ⟨x, y, rfl, h⟩ := h
    refine ⟨_, pss_cons (ps_expr (pe_drX Cl (by decide) hr rfl (passes_on (takes_of rfl rfl rfl rfl)) (pa_cons (pv 0) pa_nil))) pss_never, ?_⟩
    exact ⟨_, rfl, _, rfl, .inr h⟩
theorem ok_ho {f : Addr} {fd : FuncData} (F : Fun K "holds" "holds" sHo f fd) (Cl : DrX P w K mg base (spCkLA K C L xL) "check_lot" ["value"] 3) : FnOk P w K mg base (L2.CX P w) 4 f fd ["lot", "wish"] (sp2E K xL) := by
  refine F.okX scHo (fun vs H Q E h => ?_) (fun cdv A outer s H vs Q E hr h => ?_)
  · obtain ⟨x, y, rfl, _⟩ := h
    rfl
  · obtain ⟨x, y, rfl, h⟩ := h
    refine ⟨_, pss_cons (ps_expr (pe_drX Cl (by decide) hr rfl (passes_on (takes_of rfl rfl rfl rfl)) (pa_cons (pv 0) pa_nil))) pss_never, ?_⟩
    exact ⟨_, rfl, _, rfl, .inr h⟩
theorem ok_me {f : Addr} {fd : FuncData} (F : Fun K "mends" "mends" sMe f fd) (Cl : DrX P w K mg base (spCkLA K C L xL) "check_lot" ["value"] 3) : FnOk P w K mg base (L2.CX P w) 4 f fd ["lot", "wishes", "changes"] (sp3E K xL) := by
  refine F.okX scMe (fun vs H Q E h => ?_) (fun cdv A outer s H vs Q E hr h => ?_)
  · obtain ⟨x, y, z, rfl, _⟩ := h
    rfl
  · obtain ⟨x, y, z, rfl, h⟩ := h
    refine ⟨_, pss_cons (ps_expr (pe_drX Cl (by decide) hr rfl (passes_on (takes_of rfl rfl rfl rfl)) (pa_cons (pv 0) pa_nil))) pss_never, ?_⟩
    exact ⟨_, rfl, _, rfl, .inr h⟩
theorem ok_ckLs {f : Addr} {fd : FuncData} (F : Fun K "check_lots" "check_lots" sCkLs f fd) (Cl : DrX P w K mg base (spCkLA K C L xL) "check_lot" ["value"] 3) : FnOk P w K mg base (L2.CX P w) 4 f fd ["lot", "other"] (spLsE K C L xL) := by
  refine F.okX scCkLs (fun vs H Q E h => ?_) (fun cdv A outer s H vs Q E hr h => ?_)
  · obtain ⟨x, y, rfl, _⟩ := h
    rfl
  · obtain ⟨x, y, rfl, h⟩ := h
    refine ⟨_, pss_cons (ps_expr (pe_drX Cl (by decide) hr rfl (passes_on (takes_of rfl rfl rfl rfl)) (pa_cons (pv 0) pa_nil))) (pss_cons (ps_expr (pe_drX Cl (by decide) hr rfl (passes_on (takes_of rfl rfl rfl rfl)) (pa_cons (pv 1) pa_nil))) pss_never), ?_⟩
    rcases h with h | ⟨hl, h⟩
    · exact ⟨_, rfl, _, rfl, .inr h⟩
    · exact ⟨_, rfl, _, rfl, .inl ⟨hl, _, rfl, _, rfl, .inr h⟩⟩
theorem ok_sa {f : Addr} {fd : FuncData} (F : Fun K "same" "same" sSa f fd) (Cls : DrX P w K mg base (spLsE K C L xL) "check_lots" ["lot", "other"] 4) : FnOk P w K mg base (L2.CX P w) 5 f fd ["lot", "other"] (spLsE K C L xL) := by
  refine F.okX scSa (fun vs H Q E h => ?_) (fun cdv A outer s H vs Q E hr h => ?_)
  · obtain ⟨x, y, rfl, _⟩ := h
    rfl
  · obtain ⟨x, y, rfl, h⟩ := h
    refine ⟨_, pss_cons (ps_expr (pe_drX Cls (by decide) hr rfl (passes_on (takes_of rfl rfl rfl rfl)) (pa_cons (pv 0) (pa_cons (pv 1) pa_nil)))) pss_never, ?_⟩
    exact ⟨_, rfl, _, rfl, _, _, rfl, h⟩
theorem ok_wi {f : Addr} {fd : FuncData} (F : Fun K "within" "within" sWi f fd) (Cls : DrX P w K mg base (spLsE K C L xL) "check_lots" ["lot", "other"] 4) : FnOk P w K mg base (L2.CX P w) 5 f fd ["lot", "other"] (spLsE K C L xL) := by
  refine F.okX scWi (fun vs H Q E h => ?_) (fun cdv A outer s H vs Q E hr h => ?_)
  · obtain ⟨x, y, rfl, _⟩ := h
    rfl
  · obtain ⟨x, y, rfl, h⟩ := h
    refine ⟨_, pss_cons (ps_expr (pe_drX Cls (by decide) hr rfl (passes_on (takes_of rfl rfl rfl rfl)) (pa_cons (pv 0) (pa_cons (pv 1) pa_nil)))) pss_never, ?_⟩
    exact ⟨_, rfl, _, rfl, _, _, rfl, h⟩
theorem ok_cSa {f : Addr} {fd : FuncData} (F : Fun K "certify_same" "certify_same" sCSa f fd) (Sa : DrX P w K mg base (spLsE K C L xL) "same" ["lot", "other"] 5) : FnOk P w K mg base (L2.CX P w) 6 f fd ["lot", "other"] (spLsE K C L xL) := by
  refine F.okX scCSa (fun vs H Q E h => ?_) (fun cdv A outer s H vs Q E hr h => ?_)
  · obtain ⟨x, y, rfl, _⟩ := h
    rfl
  · obtain ⟨x, y, rfl, h⟩ := h
    refine ⟨_, pss_cons (ps_if (pt_not (pt_val (pe_drX Sa (by decide) hr rfl (passes_on (takes_of rfl rfl rfl rfl)) (pa_cons (pv 0) (pa_cons (pv 1) pa_nil))))) pss_never pss_nil) pss_never, ?_⟩
    exact ⟨_, rfl, _, rfl, _, _, rfl, h⟩
theorem ok_ckNO {f : Addr} {fd : FuncData} (F : Fun K "check_near_of" "check_near_of" sCkNO f fd) (Cl : DrX P w K mg base (spCkLA K C L xL) "check_lot" ["value"] 3) (Cr : DrX P w K mg base (spCkRA K C xR) "check_round" ["value"] 3) (Nr : DrX P w K mg base (spCkNear K C xT) "check_near" ["trip"] 5) : FnOk P w K mg base (L2.CX P w) 6 f fd ["lot", "trip"] (spLrE K C L xL xR xT) := by
  refine F.okX scCkNO (fun vs H Q E h => ?_) (fun cdv A outer s H vs Q E hr h => ?_)
  · obtain ⟨x, y, rfl, _⟩ := h
    rfl
  · obtain ⟨x, y, rfl, h⟩ := h
    refine ⟨_, pss_cons (ps_expr (pe_drX Cl (by decide) hr rfl (passes_on (takes_of rfl rfl rfl rfl)) (pa_cons (pv 0) pa_nil))) (pss_cons (ps_expr (pe_drX Cr (by decide) hr rfl (passes_on (takes_of rfl rfl rfl rfl)) (pa_cons (pv 1) pa_nil))) (pss_cons (ps_expr (pe_drX Nr (by decide) hr rfl (passes_on (takes_of rfl rfl rfl rfl)) (pa_cons (pv 1) pa_nil))) pss_never)), ?_⟩
    rcases h with h | ⟨hl, h⟩
    · exact ⟨_, rfl, _, rfl, .inr h⟩
    · refine ⟨_, rfl, _, rfl, .inl ⟨hl, ?_⟩⟩
      rcases h with h | ⟨b, lv, fin, ls, rfl, hb, far, up⟩
      · exact ⟨_, rfl, _, rfl, .inr h⟩
      · obtain ⟨⟨u, hb1, _⟩, _, _⟩ := id hb
        exact ⟨_, rfl, _, rfl, .inl ⟨b, u, lv, fin, rfl, hb1, _, rfl, b, lv, fin, ls, rfl, hb, fun z => absurd z far, fun _ => up⟩⟩
theorem ok_mk {f : Addr} {fd : FuncData} (F : Fun K "makes" "makes" sMk f fd) (No : DrX P w K mg base (spLrE K C L xL xR xT) "check_near_of" ["lot", "trip"] 6) : FnOk P w K mg base (L2.CX P w) 7 f fd ["lot", "trip"] (spLrE K C L xL xR xT) := by
  refine F.okX scMk (fun vs H Q E h => ?_) (fun cdv A outer s H vs Q E hr h => ?_)
  · obtain ⟨x, y, rfl, _⟩ := h
    rfl
  · obtain ⟨x, y, rfl, h⟩ := h
    refine ⟨_, pss_cons (ps_expr (pe_drX No (by decide) hr rfl (passes_on (takes_of rfl rfl rfl rfl)) (pa_cons (pv 0) (pa_cons (pv 1) pa_nil)))) pss_never, ?_⟩
    exact ⟨_, rfl, _, rfl, _, _, rfl, h⟩
theorem ok_pl {f : Addr} {fd : FuncData} (F : Fun K "plan" "plan" sPl f fd) (No : DrX P w K mg base (spLrE K C L xL xR xT) "check_near_of" ["lot", "trip"] 6) : FnOk P w K mg base (L2.CX P w) 7 f fd ["lot", "trip"] (spLrE K C L xL xR xT) := by
  refine F.okX scPl (fun vs H Q E h => ?_) (fun cdv A outer s H vs Q E hr h => ?_)
  · obtain ⟨x, y, rfl, _⟩ := h
    rfl
  · obtain ⟨x, y, rfl, h⟩ := h
    refine ⟨_, pss_cons (ps_expr (pe_drX No (by decide) hr rfl (passes_on (takes_of rfl rfl rfl rfl)) (pa_cons (pv 0) (pa_cons (pv 1) pa_nil)))) pss_never, ?_⟩
    exact ⟨_, rfl, _, rfl, _, _, rfl, h⟩
theorem ok_cMa {f : Addr} {fd : FuncData} (F : Fun K "certify_made" "certify_made" sCMa f fd) (Mk : DrX P w K mg base (spLrE K C L xL xR xT) "makes" ["lot", "trip"] 7) : FnOk P w K mg base (L2.CX P w) 8 f fd ["lot", "trip"] (spLrE K C L xL xR xT) := by
  refine F.okX scCMa (fun vs H Q E h => ?_) (fun cdv A outer s H vs Q E hr h => ?_)
  · obtain ⟨x, y, rfl, _⟩ := h
    rfl
  · obtain ⟨x, y, rfl, h⟩ := h
    refine ⟨_, pss_cons (ps_if (pt_val (pe_drX Mk (by decide) hr rfl (passes_on (takes_of rfl rfl rfl rfl)) (pa_cons (pv 0) (pa_cons (pv 1) pa_nil)))) pss_never pss_nil) pss_never, ?_⟩
    exact ⟨_, rfl, _, rfl, _, _, rfl, h⟩
end
end Lamp
set_option Elab.async false
set_option linter.all false
set_option maxRecDepth 100000
set_option maxHeartbeats 1000000
namespace Lamp
open PySem PySem.Spec PyProof.Rows L2
structure Fit4 (lv : Int) (ls : List (Int × Int)) (fin : Int) : Prop where
  lv : lv.natAbs < 10 ^ 40
  fin : fin.natAbs < 10 ^ 40
  few : ls.length ≤ 10
  all : ∀ q ∈ ls, q.1.natAbs < 10 ^ 40 ∧ q.2.natAbs < 10 ^ 40
theorem lt42 {n : Nat} (h : n < 10 ^ 40) : n < 10 ^ 42 := Nat.lt_trans h (by decide)
theorem Fit4.fit {lv fin : Int} {ls : List (Int × Int)} (h : Fit4 lv ls fin) : Fit lv ls fin := ⟨lt42 h.lv, lt42 h.fin, Nat.le_trans h.few (by decide), fun q hq => ⟨lt42 (h.all q hq).1, lt42 (h.all q hq).2⟩⟩
open TL (tl tl_append ext_tl numL tl_ofString len_tl)
abbrev sReadInt : Stmt := top 38
abbrev sReadLamp : Stmt := top 40
/-! a round's text, put together as the program and as the law do -/
def spReadInt : Sp := fun vs H Q _ => ∃ i : Int, vs = [.str (nS i)] ∧ i.natAbs < 10 ^ 40 ∧ Q (.int i) H
def spReadLamp : Sp := fun vs H Q _ => ∃ q : Int × Int, vs = [.str (lampS q)] ∧ q.1.natAbs < 10 ^ 40 ∧ q.2.natAbs < 10 ^ 40 ∧ ∀ a H', Same H H' → H' a = some (.tup [.int q.1, .int q.2]) → Q (.ref a) H'
section
variable {P : Program} {w : World} {K : PySem.W.Frag} {mg : Str → Option Value} {base : Heap}
theorem scReadInt : FnScope ["word", "digits", "number"] ["word"] (defScope sReadInt) := ⟨rfl, rfl, rfl, by decide +kernel, rfl, by decide +kernel, by decide +kernel⟩
theorem scReadLamp : FnScope ["word", "first", "_", "second", "place", "level"] ["word"] (defScope sReadLamp) := ⟨rfl, rfl, rfl, by decide +kernel, rfl, by decide +kernel, by decide +kernel⟩
theorem ok_readInt {f : Addr} {fd : FuncData} (F : Fun K "read_integer" "read_integer" sReadInt f fd) (mi : mg "int" = none) (ms : mg "str" = none) : FnOk P w K mg base CX0 1 f fd ["word"] spReadInt := by
  refine F.ok scReadInt (fun vs H Q E h => ?_) (fun cdv A outer s H vs Q E hr h => ?_)
  · obtain ⟨i, rfl, _⟩ := h
    rfl
  · obtain ⟨i, rfl, hi, q⟩ := h
    have hl : (nS i).length ≤ 41 := nS_len hi
    refine ⟨_, pss_cons (ps_set (i := 1) scReadInt.nd rfl (.inl rfl) (pe_m1 PySem.F.slot_str_removeprefix PySem.F.type_str_removeprefix mt_removeprefix (pv 0) pe_str))
      (pss_cons (ps_if (PW.pt (pw_or (pt_not (pt_val (pe_m0 PySem.F.slot_str_isascii PySem.F.type_str_isascii mt_isascii (pv 1)))) (pw_or1 (pt_not (pt_val (pe_m0 PySem.F.slot_str_isdigit PySem.F.type_str_isdigit mt_isdigit (pv 1))))))) pss_never pss_nil)
      (pss_cons (ps_set (i := 2) scReadInt.nd rfl (.inl rfl) (pe_callTy call_int_str (by rfl) mi (by decide +kernel) (pa_cons (pv 0) pa_nil)))
      (pss_cons (ps_if (pt_cmpR op_ne (pe_callTy call_str_int (by rfl) ms (by decide +kernel) (pa_cons (pv 2) pa_nil)) (pv 0) (nomark _)) pss_never pss_nil)
      (pss_one (ps_ret (pv 2)))))), ?_⟩
    refine sq_set (v := .str (Txt.removeprefix (nS i) "-")) (fun Q q => ⟨_, rfl, ⟨_, rfl⟩, _, _, rfl, rfl, le_line (by omega), q⟩) ?_
    refine sq_no (ans_or (ans_not (b := true) (ans_val fun Q q => ⟨_, rfl, ⟨_, rfl⟩, _, rfl, rfl, trivial, by rw [bare_ascii]; exact q⟩)) (ans_not (b := true) (ans_val fun Q q => ⟨_, rfl, ⟨_, rfl⟩, _, rfl, rfl, trivial, by rw [bare_digit]; exact q⟩))) ?_
    refine sq_set (v := .int i) (fun Q q => ⟨_, rfl, _, i, rfl, nS_read hi, by omega, q⟩) ?_
    refine sq_no (ans_ne (x := .str (nS i)) (y := .str (nS i)) (fun Q q => ⟨_, rfl, i, rfl, fits_log (lt42 hi), q⟩) (val_var rfl) rfl (by rw [decide_eq_true rfl]; rfl)) ?_
    exact st_ret (val_var rfl) q
section
variable {σ : L2.St} {H : Hp} {te : TE} {ts : List TE} {acc y : Str} {i : Int} {Q : Str → Hp → Prop}
end
theorem ok_readLamp {f : Addr} {fd : FuncData} (F : Fun K "read_lamp" "read_lamp" sReadLamp f fd) (R : Dr P w K mg base spReadInt "read_integer" ["word"] 1) : FnOk P w K mg base CX0 2 f fd ["word"] spReadLamp := by
  refine F.ok scReadLamp (fun vs H Q E h => ?_) (fun cdv A outer s H vs Q E hr h => ?_)
  · obtain ⟨q, rfl, _⟩ := h
    rfl
  · obtain ⟨⟨x, y⟩, rfl, hx, hy, q⟩ := h
    have hl := lampS_len (q := (x, y)) hx hy
    refine ⟨_, pss_cons (ps_asg (pe_partition (pv 0) pe_str) (pg_tup rfl (pgs_cons (pg_name (i := 1) scReadLamp.nd rfl (.inl rfl)) (pgs_cons (pg_name (i := 2) scReadLamp.nd rfl (.inl rfl)) (pgs_cons (pg_name (i := 3) scReadLamp.nd rfl (.inl rfl)) pgs_nil)))))
      (pss_cons (ps_set (i := 4) scReadLamp.nd rfl (.inl rfl) (pe_dr R (Nat.le_refl _) hr rfl (pa_cons (pv 1) pa_nil)))
      (pss_cons (ps_set (i := 5) scReadLamp.nd rfl (.inl rfl) (pe_dr R (Nat.le_refl _) hr rfl (pa_cons (pv 3) pa_nil)))
      (pss_cons (ps_if (PW.pt (pw_or (pt_cmpR op_isN1 (pv 4) pe_non (nomark _)) (pw_or1 (pt_cmpR op_isN1 (pv 5) pe_non (nomark _))))) pss_never pss_nil)
      (pss_one (ps_ret (pe_tup (pa_cons (pv 4) (pa_cons (pv 5) pa_nil)))))))), ?_⟩
    refine ⟨_, rfl, ⟨_, rfl⟩, _, (":" : Str), rfl, rfl, rfl, le_line (by omega), fun p np => ?_⟩
    rw [lamp_part]
    have s1 := same_of (o := .tup [V.str (nS x), V.str (":" : Str), V.str (nS y)]) np
    refine ⟨p, _, rfl, SqT.of upd_same, rfl, _, _, rfl, _, _, rfl, _, _, rfl, rfl, ?_⟩
    refine ⟨_, rfl, x, rfl, hx, ?_⟩
    refine ⟨_, rfl, y, rfl, hy, ?_⟩
    refine sq_no (ans_or (ans_isN (x := .int x) (val_var rfl) rfl) (ans_isN (x := .int y) (val_var rfl) rfl)) ?_
    refine ⟨_, rfl, _, rfl, le_line (by show 2 ≤ 1000; decide), fun a na => ?_⟩
    exact q a _ (s1.trans (same_of na)) upd_same
end

open PySem PySem.Spec PyProof.Rows L2
open TL (tl tl_append ext_tl numL tl_ofString len_tl)
abbrev sReadLamps : Stmt := top 41
abbrev sReadParts : Stmt := top 42
/-! the texts' signs, the texts as data -/
theorem no_none (ls : List (Int × Int)) : ((ls.map pairD).any fun z => PyData.eqv z .none) = false := by
  rw [List.any_map]
  exact List.any_eq_false.mpr fun q _ => by simp [pairD, PyData.eqv]
theorem cut1 (x : V) (xs : List V) : cutV (x :: xs) (some 1) none = xs := by
  unfold cutV
  have e1 : HT.sIx (x :: xs).length 0 (some 1) = 1 := by
    rw [show (some (1 : Int)) = some ((1 : Nat) : Int) from rfl, HT.sIx_nat, List.length_cons]
    omega
  rw [e1, HT.sIx_none]
  show xs.take ((x :: xs).length - 1) = xs
  rw [List.length_cons]
  exact List.take_of_length_le (by omega)
def spReadLamps : Sp := fun vs H Q _ => ∃ (wl : Addr) (ls : List (Int × Int)), vs = [.ref wl] ∧ H wl = some (.lst ((tailWs ls).map V.str)) ∧ (∀ q ∈ ls, q.1.natAbs < 10 ^ 40 ∧ q.2.natAbs < 10 ^ 40) ∧ ls.length ≤ 10 ∧
  ∀ t H', Same H H' → (∃ as : List Addr, H' t = some (.tup (as.map V.ref)) ∧ Paired (fun a (q : Int × Int) => H' a = some (.tup [.int q.1, .int q.2])) as ls) → Q (.ref t) H'
def spReadParts : Sp := fun vs H Q _ => ∃ (lv fin : Int) (ls : List (Int × Int)), vs = [.str (sheetS lv ls fin)] ∧ Fit4 lv ls fin ∧
  ∀ l t H', Same H H' → H' l = some (.tup [.int lv, .ref t, .int fin]) → (∃ as : List Addr, H' t = some (.tup (as.map V.ref)) ∧ Paired (fun a (q : Int × Int) => H' a = some (.tup [.int q.1, .int q.2])) as ls) → Q (.ref l) H'
section
variable {P : Program} {w : World} {K : PySem.W.Frag} {mg : Str → Option Value} {base : Heap}
theorem scReadLamps : FnScope ["words", "lamps", "word"] ["words"] (defScope sReadLamps) := ⟨rfl, rfl, rfl, by decide +kernel, rfl, by decide +kernel, by decide +kernel⟩
theorem scReadParts : FnScope ["text", "words", "levels", "end", "lamps"] ["text"] (defScope sReadParts) := ⟨rfl, rfl, rfl, by decide +kernel, rfl, by decide +kernel, by decide +kernel⟩
theorem ok_readLamps {f : Addr} {fd : FuncData} (F : Fun K "read_lamps" "read_lamps" sReadLamps f fd) (R : Dr P w K mg base spReadLamp "read_lamp" ["word"] 2) (ml : mg "len" = none) (mt : mg "tuple" = none) : FnOk P w K mg base CX0 3 f fd ["words"] spReadLamps := by
  refine F.ok scReadLamps (fun vs H Q E h => ?_) (fun cdv A outer s H vs Q E hr h => ?_)
  · obtain ⟨q, ls, rfl, _⟩ := h
    rfl
  · obtain ⟨wl, ls, rfl, hw, hf, few, q⟩ := h
    have hu := hr.units
    have hu65 := hr.in1.units
    refine ⟨_, pss_cons (ps_if (pt_cmpR (op_eqD hu) (pv 0) (pe_lst (pa_cons pe_str pa_nil)) (nomark _)) (pss_one (ps_ret (pe_tup pa_nil))) pss_nil)
      (pss_cons (ps_if (PW.pt (pw_or (pt_cmpR op_ne (pe_ix ix_list (pv 0) pe_int (fun _ _ => rfl)) pe_str (nomark _)) (pw_or1 (pt_cmpR op_eq (pe_callB call_len_seq (by rfl) ml PySem.boot_len (pa_cons (pv 0) pa_nil)) pe_int (nomark _))))) pss_never pss_nil)
      (pss_cons (ps_setLc (i := 1) (own := [("word", 2)]) (g := gName 2) (tt := tYes) rfl scReadLamps.nd rfl rfl (sw_true rfl rfl rfl rfl) (pi_list (pe_slice (r := rSlL K) sl_list (pv 0) (po_some pe_int) po_none))
          (blkOk_by (own := [("word", 2)]) (N := ["words", "lamps", "word"]) (sc := defScope sReadLamps) (by decide +kernel)) (fun _ _ _ _ _ => pg_name (i := 2) scReadLamps.nd rfl (Or.inl rfl)) (fun _ _ _ _ _ => pts_nil)
          (fun _ _ _ _ _ => pe_dr R (Nat.le_refl _) hr rfl (pa_cons (pv 2) pa_nil)))
      (pss_cons (ps_if (pt_cmpR (op_inD (by exact hu65)) pe_non (pv 1) (by rfl)) pss_never pss_nil)
      (pss_one (ps_ret (pe_callTy call_tuple_of (by rfl) mt (by decide +kernel) (pa_cons (pv 1) pa_nil))))))), ?_⟩
    cases ls with
    | nil =>
      have hw' : H wl = some (.lst [V.str ("dark" : Str)]) := hw
      refine ⟨_, rfl, le_line (by show 1 ≤ 1000; decide), fun p np => ?_⟩
      have s1 := same_of (o := .lst [V.str ("dark" : Str)]) np
      refine ⟨.list [.str ("dark" : Str)], .list [.str ("dark" : Str)], .lst (SqL.of (s1 _ _ hw')) (.cons (.str _) .nil), .lst (SqL.of upd_same) (.cons (.str _) .nil), by decide +kernel, by decide +kernel, true, ?_, ?_⟩
      · show V.bl _ = V.bl true
        congr 1
      · refine iteT ?_
        refine ⟨le_line (by show 0 ≤ 1000; decide), fun t nt => ?_⟩
        exact q t _ (s1.trans (same_of nt)) ⟨[], upd_same, .nil⟩
    | cons l r =>
      have hw' : H wl = some (.lst (V.str ("lamps" : Str) :: ((l :: r).map lampS).map V.str)) := hw
      have hlw : (V.str ("lamps" : Str) :: ((l :: r).map lampS).map V.str).length = r.length + 2 := by simp
      have few' : r.length + 1 ≤ 10 := few
      refine ⟨_, rfl, le_line (by show 1 ≤ 1000; decide), fun p np => ?_⟩
      have s1 := same_of (o := .lst [V.str ("dark" : Str)]) np
      refine ⟨.list (.str ("lamps" : Str) :: strsD ((l :: r).map lampS)), .list [.str ("dark" : Str)], .lst (SqL.of (s1 _ _ hw')) (.cons (.str _) (dp_strs _)), .lst (SqL.of upd_same) (.cons (.str _) .nil),
        shaped_strs (xs := ("lamps" : Str) :: (l :: r).map lampS) (fun x hx => asc_tailWs (ls := l :: r) x hx), by decide +kernel, false, ?_, ?_⟩
      · show V.bl (PyData.eqv (.str ("lamps" : Str)) (.str ("dark" : Str)) && PyData.eqvAll (strsD ((l :: r).map lampS)) []) = V.bl false
        rw [show PyData.eqv (.str ("lamps" : Str)) (.str ("dark" : Str)) = false from by decide +kernel]
        rfl
      · refine iteF ?_
        have hw1 := s1 _ _ hw'
        refine sq_no (ans_or (ans_ne (x := .str ("lamps" : Str)) (y := .str ("lamps" : Str)) (val_op (val_var rfl) val_c (lv_ix hw1 (L2.at_of (j := 0) rfl rfl))) val_c rfl (by rw [decide_eq_true rfl]; rfl)) (ans_eq (x := .int (((V.str ("lamps" : Str) :: ((l :: r).map lampS).map V.str).length : Nat) : Int)) (y := .int 1) (lv_len (val_var rfl) (SqL.of hw1)) val_c rfl ?_)) ?_
        · rw [hlw]
          exact decide_eq_false fun z => by have := V.int.inj z; omega
        refine ⟨_, rfl, 1, rfl, wl, _, rfl, SqL.of hw1, fun c nc => ⟨c, rfl, ⟨_, SqL.of upd_same⟩, fun D hD => ?_⟩⟩
        rw [cut1] at *
        have s2 := s1.trans (same_of (o := .lst (((l :: r).map lampS).map V.str)) nc)
        have hc : (upd (upd H p (.lst [V.str ("dark" : Str)])) c (.lst (((l :: r).map lampS).map V.str))) c = some (.lst (((l :: r).map lampS).map V.str)) := upd_same
        revert hD hc s2
        generalize (upd (upd H p (.lst [V.str ("dark" : Str)])) c (.lst (((l :: r).map lampS).map V.str))) = Hb
        intro hD s2 hc
        refine lc_list (K := K) (a := c) (xs := ((l :: r).map lampS).map V.str) (fun i H' => Same Hb H' ∧ ∃ as : List Addr, H' D = some (.lst (as.map V.ref)) ∧ Paired (fun a (qq : Int × Int) => H' a = some (.tup [.int qq.1, .int qq.2]) ∧ a ≠ D) as ((l :: r).take i))
          ⟨same_of hD, [], upd_same, by rw [List.take_zero]; exact .nil⟩ (fun i H' _ z => SqL.of (z.1 _ _ hc)) (fun i x H' hi z => ?_) (fun H' z => ?_)
        · obtain ⟨sb, as, hlD, hpa⟩ := z
          rw [List.getElem?_map, List.getElem?_map] at hi
          cases eq : (l :: r)[i]? with
          | none => rw [eq] at hi; cases hi
          | some qq =>
            rw [eq] at hi
            have ex : x = V.str (lampS qq) := (Option.some.inj hi).symm
            subst ex
            have hq := hf qq (List.mem_of_getElem? eq)
            refine ⟨rfl, ?_⟩
            refine ⟨_, rfl, qq, rfl, hq.1, hq.2, fun a H2 s3 ha => ?_⟩
            have aD : a ≠ D := fun e => by rw [e, s3 _ _ hlD] at ha; cases ha
            refine ⟨as.map V.ref, s3 _ _ hlD, ?_, fun b' o e => ?_, as ++ [a], ?_, ?_⟩
            · have hl1 := Paired.length hpa
              rw [List.length_take, List.length_cons] at hl1
              rw [List.length_map]
              exact small1000 (by omega)
            · have nb : b' ≠ D := fun z => by rw [z, hD] at e; cases e
              rw [upd_ne nb]
              exact s3 _ _ (sb _ _ e)
            · rw [upd_same, List.map_append]
              rfl
            · rw [List.take_add_one, eq]
              refine paired_app (L2.Paired.mapP hpa fun a' qq hz => ?_) (.cons ⟨?_, aD⟩ .nil)
              · exact ⟨by rw [upd_ne hz.2]; exact s3 _ _ hz.1, hz.2⟩
              · rw [upd_ne aD]
                exact ha
        · obtain ⟨sb, as, hlD, hpa⟩ := z
          rw [List.length_map, List.length_map, List.take_length] at hpa
          have hpb : Paired (fun a (q : Int × Int) => H' a = some (.tup [.int q.1, .int q.2])) as (l :: r) := L2.Paired.mapP hpa fun a qq hz => hz.1
          refine ⟨_, rfl, .none, (l :: r).map pairD, .non, .lst (SqL.of hlD) (dp_pairs hpb), by decide +kernel, (shaped_pairs (l :: r)).1, false, ?_, ?_⟩
          · show V.bl _ = V.bl false
            rw [no_none]
          · refine iteF ?_
            refine ⟨_, rfl, D, as.map V.ref, rfl, .inl ⟨SqL.of hlD, fun t nt => ?_⟩⟩
            have s4 := same_of (o := .tup (as.map V.ref)) nt
            exact q t _ ((s2.trans sb).trans s4) ⟨as, upd_same, L2.Paired.mapP hpb fun a qq hz => s4 _ _ hz⟩
theorem tailWs_ne (ls : List (Int × Int)) : ∃ x xs, tailWs ls = x :: xs := by
  cases ls with
  | nil => exact ⟨_, _, rfl⟩
  | cons l r => exact ⟨_, _, rfl⟩
theorem cut4 (a b c d : V) (xs : List V) : cutV (a :: b :: c :: d :: xs) (some 4) none = xs := by
  unfold cutV
  have e1 : HT.sIx (a :: b :: c :: d :: xs).length 0 (some 4) = 4 := by
    rw [show (some (4 : Int)) = some ((4 : Nat) : Int) from rfl, HT.sIx_nat]
    simp only [List.length_cons]
    omega
  rw [e1, HT.sIx_none]
  show xs.take ((a :: b :: c :: d :: xs).length - 4) = xs
  simp only [List.length_cons]
  exact List.take_of_length_le (by omega)
theorem ok_readParts {f : Addr} {fd : FuncData} (F : Fun K "read_parts" "read_parts" sReadParts f fd) (R : Dr P w K mg base spReadInt "read_integer" ["word"] 1) (Ls : Dr P w K mg base spReadLamps "read_lamps" ["words"] 3) (ml : mg "len" = none) : FnOk P w K mg base CX0 4 f fd ["text"] spReadParts := by
  refine F.ok scReadParts (fun vs H Q E h => ?_) (fun cdv A outer s H vs Q E hr h => ?_)
  · obtain ⟨lv, fin, ls, rfl, _⟩ := h
    rfl
  · obtain ⟨lv, fin, ls, rfl, hf, q⟩ := h
    have few := hf.few
    have hlen := sheet_len hf.fit.lv hf.fit.fin hf.fit.all
    refine ⟨_, pss_cons (ps_set (i := 1) scReadParts.nd rfl (.inl rfl) (pe_split (pv 0) pe_str))
      (pss_cons (ps_if (PW.pt (pw_or (pt_cmpR op_lt (pe_callB call_len_seq (by rfl) ml PySem.boot_len (pa_cons (pv 1) pa_nil)) pe_int (nomark _)) (pw_or (pt_cmpR op_ne (pe_ix ix_list (pv 1) pe_int (fun _ _ => rfl)) pe_str (nomark _)) (pw_or1 (pt_cmpR op_ne (pe_ix ix_list (pv 1) pe_int (fun _ _ => rfl)) pe_str (nomark _)))))) pss_never pss_nil)
      (pss_cons (ps_set (i := 2) scReadParts.nd rfl (.inl rfl) (pe_dr R (by decide) hr rfl (pa_cons (pe_ix ix_list (pv 1) pe_int (fun _ _ => rfl)) pa_nil)))
      (pss_cons (ps_set (i := 3) scReadParts.nd rfl (.inl rfl) (pe_dr R (by decide) hr rfl (pa_cons (pe_ix ix_list (pv 1) pe_int (fun _ _ => rfl)) pa_nil)))
      (pss_cons (ps_set (i := 4) scReadParts.nd rfl (.inl rfl) (pe_dr Ls (Nat.le_refl _) hr rfl (pa_cons (pe_slice (r := rSlL K) sl_list (pv 1) (po_some pe_int) po_none) pa_nil)))
      (pss_cons (ps_if (PW.pt (pw_or (pt_cmpR op_isN1 (pv 2) pe_non (nomark _)) (pw_or (pt_cmpR op_isN1 (pv 3) pe_non (nomark _)) (pw_or1 (pt_cmpR op_isN1 (pv 4) pe_non (nomark _)))))) pss_never pss_nil)
      (pss_one (ps_ret (pe_tup (pa_cons (pv 2) (pa_cons (pv 4) (pa_cons (pv 3) pa_nil))))))))))), ?_⟩
    refine ⟨_, rfl, ⟨_, rfl⟩, _, (" " : Str), rfl, rfl, rfl, ?_, ?_⟩
    · have : (12000 : Nat) ≤ sizeLine := by decide
      omega
    rw [sheet_split]
    intro wl nwl
    obtain ⟨x0, xs0, etl⟩ := tailWs_ne ls
    have s1 := same_of (o := .lst ((wordsS lv ls fin).map V.str)) nwl
    have ew : (wordsS lv ls fin).map V.str = V.str ("levels" : Str) :: V.str (nS lv) :: V.str ("end" : Str) :: V.str (nS fin) :: (tailWs ls).map V.str := rfl
    have h1 : (upd H wl (.lst ((wordsS lv ls fin).map V.str))) wl = some (.lst (V.str ("levels" : Str) :: V.str (nS lv) :: V.str ("end" : Str) :: V.str (nS fin) :: (tailWs ls).map V.str)) := by
      rw [upd_same, ew]
    revert s1 h1
    generalize (upd H wl (.lst ((wordsS lv ls fin).map V.str))) = H1
    intro s1 h1
    have n0 : (V.str ("levels" : Str) :: V.str (nS lv) :: V.str ("end" : Str) :: V.str (nS fin) :: (tailWs ls).map V.str).length = xs0.length + 5 := by
      rw [etl]
      simp
    refine sq_no (ans_or (an_lt (lv_len (val_var rfl) (SqL.of h1)) val_c ?_) (ans_or (ans_ne (x := .str ("levels" : Str)) (y := .str ("levels" : Str)) (val_op (val_var rfl) val_c (lv_ix h1 (L2.at_of (j := 0) rfl rfl))) val_c rfl (by rw [decide_eq_true rfl]; rfl))
      (ans_ne (x := .str ("end" : Str)) (y := .str ("end" : Str)) (val_op (val_var rfl) val_c (lv_ix h1 (L2.at_of (j := 2) rfl rfl))) val_c rfl (by rw [decide_eq_true rfl]; rfl)))) ?_
    · rw [n0]
      exact decide_eq_false (by omega)
    refine ⟨_, rfl, wl, _, 1, .str (nS lv), rfl, rfl, SqL.of h1, L2.at_of (j := 1) rfl rfl, lv, rfl, hf.lv, ?_⟩
    refine ⟨_, rfl, wl, _, 3, .str (nS fin), rfl, rfl, SqL.of h1, L2.at_of (j := 3) rfl rfl, fin, rfl, hf.fin, ?_⟩
    refine ⟨_, rfl, 4, rfl, wl, _, rfl, SqL.of h1, fun c nc => ?_⟩
    rw [cut4]
    have s2 := s1.trans (same_of (o := .lst ((tailWs ls).map V.str)) nc)
    refine ⟨c, ls, rfl, upd_same, hf.all, few, fun t H2 s3 ht => ?_⟩
    refine sq_no (ans_or (ans_isN (x := .int lv) (val_var rfl) rfl) (ans_or (ans_isN (x := .int fin) (val_var rfl) rfl) (ans_isN (x := .ref t) (val_var rfl) rfl))) ?_
    refine ⟨_, rfl, _, rfl, _, rfl, le_line (by show 3 ≤ 1000; decide), fun l nl => ?_⟩
    have s4 := same_of (o := .tup [V.int lv, V.ref t, V.int fin]) nl
    obtain ⟨as, ht1, ht2⟩ := ht
    exact q l t _ ((s2.trans s3).trans s4) upd_same ⟨as, s4 _ _ ht1, L2.Paired.mapP ht2 fun a qq hz => s4 _ _ hz⟩
end

open PySem PySem.Spec PyProof.Rows L2
open TL (tl tl_append ext_tl numL tl_ofString len_tl)
/-! making rounds -/
section
variable {X : Cx} {C : Addr} {x : Str} {e : Expr} {es : List Expr} {ta tk : TA} {p pos : Pos} {kws : List Keyword} {i : Nat}
end
def spRead (K : PySem.W.Frag) (C : Addr) : Sp := fun vs H Q _ => ∃ (lv fin : Int) (ls : List (Int × Int)), vs = [.ref C, .str (sheetS lv ls fin)] ∧ Fit4 lv ls fin ∧ goodLv lv ∧ IsPic lv ls ∧
  ∀ a t H', Same H H' → H a = none → RoundAt C H' a lv t fin → PicAt K H' t ls → Q (.ref a) H'
section
variable {P : Program} {w : World} {K : PySem.W.Frag} {mg : Str → Option Value} {base : Heap} {C : Addr}
theorem scRead : FnScope ["cls", "text", "parts", "levels", "lamps", "end"] ["cls", "text"] (defScope sRead) := ⟨rfl, rfl, rfl, by decide +kernel, rfl, by decide +kernel, by decide +kernel⟩
theorem ok_read {f : Addr} {fd : FuncData} (F : Fun K "read" "Round.read" sRead f fd) (M : MkR P w K mg base C) (Rp : Dr P w K mg base spReadParts "read_parts" ["text"] 4) (mis : mg "isinstance" = none) (ms : mg "str" = none) : FnOk P w K mg base CX0 6 f fd ["cls", "text"] (spRead K C) := by
  refine F.ok scRead (fun vs H Q E h => ?_) (fun cdv A outer s H vs Q E hr h => ?_)
  · obtain ⟨lv, fin, ls, rfl, _⟩ := h
    rfl
  · obtain ⟨lv, fin, ls, rfl, hf, hg, hi, q⟩ := h
    refine ⟨_, pss_cons (ps_if (pt_not (pt_val (pe_callB call_isi (by rfl) mis (by decide +kernel) (pa_cons (pv 1) (pa_cons (pe_bltn (v := .ty "str") (by rfl) ms (by decide +kernel) rfl) pa_nil))))) pss_never pss_nil)
      (pss_cons (ps_set (i := 2) scRead.nd rfl (.inl rfl) (pe_dr Rp (by decide) hr rfl (pa_cons (pv 1) pa_nil)))
      (pss_cons (ps_if (pt_cmpR op_isN1 (pv 2) pe_non (nomark _)) pss_never pss_nil)
      (pss_cons (ps_asg (pv 2) (pg_tup rfl (pgs_cons (pg_name (i := 3) scRead.nd rfl (.inl rfl)) (pgs_cons (pg_name (i := 4) scRead.nd rfl (.inl rfl)) (pgs_cons (pg_name (i := 5) scRead.nd rfl (.inl rfl)) pgs_nil)))))
      (pss_one (ps_try_thru0 (pss_one (ps_ret (pe_mkL M hr (i := 0) rfl (.inl rfl) (pa_cons (pv 3) (pa_cons (pv 4) (pa_cons (pv 5) pa_nil))))))))))), ?_⟩
    refine sq_no (ans_not (b := true) (ans_val fun Q q => ⟨_, rfl, isi_ss q⟩)) ?_
    refine ⟨_, rfl, lv, fin, ls, rfl, hf, fun l t H1 s1 hl ht => ?_⟩
    refine sq_no (ans_isN (x := .ref l) (val_var rfl) rfl) ?_
    refine ⟨_, rfl, l, _, rfl, SqT.of hl, rfl, _, _, rfl, _, _, rfl, _, _, rfl, rfl, ?_⟩
    obtain ⟨as, h1, h2⟩ := ht
    refine ⟨rfl, _, rfl, _, rfl, _, rfl, lv, t, fin, rfl, ls, hg, ⟨as, .inl h1, h2⟩, hi.w, fun a H2 s2 na hr2 => ?_⟩
    refine q a t H2 (s1.trans s2) (s1.free na) hr2 ?_
    exact PicAt.same (H := H1) ⟨as, .inl h1, h2⟩ s2
end

end Lamp
set_option Elab.async false
set_option linter.all false
set_option maxRecDepth 100000
set_option maxHeartbeats 1000000
namespace Lamp
open PySem PySem.Spec PyProof.Rows L2 LamX
/-! list comprehensions whose elements are things that are made -/
theorem del_upd {H : Hp} {D : Addr} {o : HO} : delH (upd H D o) D = delH H D := by
  funext b
  by_cases e : b = D
  · subst e
    rw [delH_same, delH_same]
  · rw [delH_ne e, delH_ne e, upd_ne e]
theorem same_delH {H H' : Hp} {D : Addr} (s : Same H H') : Same (delH H D) (delH H' D) := fun b o e => by
  have ne : b ≠ D := fun z => by rw [z, delH_same] at e; cases e
  rw [delH_ne ne] at e ⊢
  exact s _ _ e
theorem same_new {H H' : Hp} {D : Addr} (hD : H D = none) (s : Same H H') : Same H (delH H' D) := fun b o e => by
  rw [delH_ne (ne_of_none e hD)]
  exact s _ _ e
section
variable {α : Type} {K : PySem.W.Frag} {a D : Addr} {us : List α} {enc : α → V} {Rel : α → V → Hp → Prop} {g : TG} {te : TE} {vs : List Nat} {σ : L2.St} {H1 : Hp} {Qd : Hp → Prop}
/-- what stands ahead of turn i -/
def GrowI (H1 : Hp) (D : Addr) (Rel : α → V → Hp → Prop) (us : List α) (i : Nat) (H : Hp) : Prop := ∃ ys, H D = some (.lst ys) ∧ Same H1 (delH H D) ∧ Paired (fun v r => Rel r v (delH H D)) ys (us.take i)
/-- over a list; an element leaves a thing that stands apart from the list that grows -/
theorem lc_grow (st : ∀ r v H H', Same H H' → Rel r v H → Rel r v H') (hD : H1 D = none) (hsq : SqL K H1 a (us.map enc)) (hz : us.length ≤ 9000)
    (hs : ∀ (i : Nat) (r : α) (H : Hp), us[i]? = some r → Same H1 H → (∃ ys, H D = some (.lst ys)) → ∀ Z : V → Hp → Prop, (∀ y H', Same H H' → Rel r y (delH H' D) → Z y H') → g (enc r) (wipe σ vs) H fun σ2 H2 => wipe σ2 vs = wipe σ vs ∧ te σ2 H2 Z)
    (hd : ∀ H' ys, Same H1 H' → H' D = some (.lst ys) → Paired (fun v r => Rel r v (delH H' D)) ys us → Qd H') :
    ∃ W : Nat → Nat → Hp → Prop, (∃ m, W 0 m (upd H1 D (.lst []))) ∧ ∀ i m H, W i m H →
      ((Itl K a).stop i H ∧ Qd H) ∨ ((Itl K a).go i H ∧ ∃ Nx : Hp → Prop, (∀ H', Nx H' → ∃ m', m' < m ∧ W (i + 1) m' H') ∧ ∀ x H', (Itl K a).yld i H x H' → g x (wipe σ vs) H' fun σ2 H2 => wipe σ2 vs = wipe σ vs ∧ tYes σ2 H2 fun b H3 =>
        if b = true then te σ2 H3 fun y H4 => ∃ acc, H4 D = some (.lst acc) ∧ acc.length < sizeLine ∧ Nx (upd H4 D (.lst (acc ++ [y]))) else Nx H3) := by
  have s0 : Same H1 (delH (upd H1 D (.lst [])) D) := same_new hD (same_of hD)
  refine lc_list (K := K) (a := a) (xs := us.map enc) (GrowI H1 D Rel us) ⟨[], upd_same, s0, .nil⟩ (fun i H' _ z => ?_) (fun i x H' hi z => ?_) (fun H' z => ?_)
  · obtain ⟨ys, _, s1, _⟩ := z
    exact (s1.trans del_sub).seq hsq
  · rw [List.getElem?_map] at hi
    cases eu : us[i]? with
    | none => rw [eu] at hi; cases hi
    | some r =>
      rw [eu] at hi
      have ex : enc r = x := Option.some.inj hi
      rw [← ex]
      obtain ⟨ys, hl, s1, hp⟩ := z
      refine hs i r H' eu (s1.trans del_sub) ⟨ys, hl⟩ _ fun y H4 s4 hy => ?_
      have hi' : i < us.length := by
        rw [List.getElem?_eq_some_iff] at eu
        exact eu.1
      refine ⟨ys, s4 _ _ hl, ?_, ys ++ [y], upd_same, ?_, ?_⟩
      · have e := Paired.length hp
        rw [List.length_take] at e
        have : (9000 : Nat) < sizeLine := by decide
        omega
      · rw [del_upd]
        exact s1.trans (same_delH s4)
      · rw [del_upd, List.take_add_one, eu]
        exact Paired.snoc (L2.Paired.mapP hp fun _ _ z => st _ _ _ _ (same_delH s4) z) hy
  · obtain ⟨ys, hl, s1, hp⟩ := z
    rw [List.length_map, List.take_length] at hp
    exact hd H' ys (s1.trans del_sub) hl hp
end
end Lamp
set_option Elab.async false
set_option linter.all false
set_option maxRecDepth 100000
set_option maxHeartbeats 2000000
namespace Lamp
open PySem PySem.Spec PyProof.Rows L2 LamX ClX
open TL (tl)
abbrev sLotRead : Stmt := inClass sLot 1
/-! good texts of lots, read by the class -/
theorem joinlenN : ∀ (ps : List (List Nat)), (TL.joinL [10] ps).length ≤ (ps.map (·.length)).sum + ps.length
  | [] => Nat.zero_le _
  | [p] => by
    show p.length ≤ p.length + 0 + 1
    omega
  | p :: q :: r => by
    have h := joinlenN (q :: r)
    show (p ++ ([10] ++ TL.joinL [10] (q :: r))).length ≤ _
    rw [List.length_append, List.length_append, List.map_cons, List.sum_cons, List.length_cons (a := p)]
    have e : ([10] : List Nat).length = 1 := rfl
    rw [e]
    omega
theorem tl_lot (rs : List Parts) : tl (lotS rs) = TL.joinL [10] ((rs.map lineS).map tl) := by
  unfold lotS
  rw [TL.join_eq, TL.tl_join]
  rfl
theorem lot_len {rs : List Parts} (h : GoodLot rs) : (lotS rs).length ≤ 45600 := by
  rw [TL.len_tl, tl_lot]
  have h1 := joinlenN ((rs.map lineS).map tl)
  have few := h.few
  have sum : ∀ l : List Parts, (∀ r ∈ l, Fit r.lv r.ls r.fin) → (((l.map lineS).map tl).map (·.length)).sum ≤ l.length * (130 + 88 * 128) := fun l hl => by
    induction l with
    | nil => exact Nat.le_refl _
    | cons r l ih =>
      have h1 := ih fun y hy => hl y (List.mem_cons_of_mem _ hy)
      have h2 := line_len (hl r (List.mem_cons_self ..))
      rw [TL.len_tl] at h2
      rw [List.map_cons, List.map_cons, List.map_cons, List.sum_cons, List.length_cons]
      omega
  have h2 := sum rs h.fit
  rw [List.length_map, List.length_map] at h1
  have : rs.length * (130 + 88 * 128) ≤ 4 * (130 + 88 * 128) := Nat.mul_le_mul_right _ few
  omega
theorem lampS_free10 (q : Int × Int) : 10 ∉ tl (lampS q) := by
  rw [tl_lampS]
  intro h
  rcases List.mem_append.mp h with h | h
  · exact nS_free (by decide) (.inl (by decide)) h
  · rcases List.mem_cons.mp h with h | h
    · cases h
    · exact nS_free (by decide) (.inl (by decide)) h
theorem words_free10 (lv : Int) (ls : List (Int × Int)) (fin : Int) : ∀ p ∈ wordsS lv ls fin, 10 ∉ tl p := by
  intro p hp
  unfold wordsS at hp
  rcases List.mem_append.mp hp with h | h
  · simp only [List.mem_cons, List.not_mem_nil, or_false] at h
    rcases h with rfl | rfl | rfl | rfl
    · decide
    · exact nS_free (by decide) (.inl (by decide))
    · decide
    · exact nS_free (by decide) (.inl (by decide))
  · cases ls with
    | nil =>
      rw [show tailWs [] = [("dark" : Str)] from rfl] at h
      rw [List.mem_singleton.mp h]
      decide
    | cons l r =>
      rcases List.mem_cons.mp h with h | h
      · rw [h]; decide
      · obtain ⟨q, _, rfl⟩ := List.mem_map.mp h
        exact lampS_free10 q
theorem join_memN {c s : Nat} : ∀ {ps : List (List Nat)}, c ∈ TL.joinL [s] ps → c = s ∨ ∃ p ∈ ps, c ∈ p
  | [], h => by cases h
  | [p], h => .inr ⟨p, List.mem_singleton.mpr rfl, h⟩
  | p :: q :: r, h => by
    have h' : c ∈ p ++ ([s] ++ TL.joinL [s] (q :: r)) := h
    rcases List.mem_append.mp h' with z | z
    · exact .inr ⟨p, List.mem_cons_self .., z⟩
    · rcases List.mem_append.mp z with y | y
      · exact .inl (List.mem_singleton.mp y)
      · rcases join_memN y with x | ⟨x, hx, hc⟩
        · exact .inl x
        · exact .inr ⟨x, List.mem_cons_of_mem _ hx, hc⟩
theorem line_free (r : Parts) : 10 ∉ tl (lineS r) := fun h => by
  unfold lineS at h
  rw [tl_sheet] at h
  rcases join_memN h with z | ⟨p, hp, hc⟩
  · cases z
  · obtain ⟨x, hx, rfl⟩ := List.mem_map.mp hp
    exact words_free10 _ _ _ x hx hc
theorem lot_split {rs : List Parts} (h : rs ≠ []) : Txt.split (lotS rs) "\n" = rs.map lineS :=
  TL.split_join (y := ("\n" : Str)) (s := 10) (S := []) rfl (by rw [all_tl]; decide) (fun z => h (List.map_eq_nil_iff.mp z)) fun p hp => by
    obtain ⟨r, _, rfl⟩ := List.mem_map.mp hp
    exact line_free r
/-- rounds as lots have them in the law -/
structure GoodRow (rs : List Parts) : Prop where
  ne : rs ≠ []
  few : rs.length ≤ 4
  each : ∀ r ∈ rs, r.Ok ∧ r.lv = lv0 rs ∧ Within 24 r
theorem wrong_none {l : Int} : ∀ {es : List El} {i : Nat}, i + es.length ≤ 4 → (∀ e ∈ es, okEl l e = true) → wrongGo l i es = none
  | [], _, _, _ => rfl
  | e :: es, i, h, k => by
    show (if i = 4 then some i else if okEl l e = true then wrongGo l (i + 1) es else some i) = none
    have h' : i + (es.length + 1) ≤ 4 := h
    rw [if_neg (by omega), if_pos (k e (List.mem_cons_self ..))]
    exact wrong_none (by omega) fun x hx => k x (List.mem_cons_of_mem _ hx)
theorem Within.small {r : Parts} (h : Within 24 r) : smallB r.fin r.ls = true := by
  have ab : ∀ z n : Int, -n ≤ z → z ≤ n → sizeI z ≤ n := fun z n h1 h2 => by unfold sizeI; split <;> omega
  unfold smallB
  rw [Bool.and_eq_true, List.all_eq_true]
  have := h.lo
  have := h.hi
  exact ⟨fun q hq => decide_eq_true (ab _ _ (h.pl q hq).1 (h.pl q hq).2), decide_eq_true (ab _ _ (by omega) (by omega))⟩
theorem row_fit4 {r : Parts} (h : Within 24 r) (k : r.Ok) : Fit4 r.lv r.ls r.fin := by
  have e40 : (100 : Nat) < 10 ^ 40 := by decide
  have := h.lo
  have := h.hi
  have g7 := good_pos k.lv
  refine ⟨by omega, by omega, by have := h.few; omega, fun q hq => ?_⟩
  have h1 : -24 ≤ q.1 ∧ q.1 ≤ 24 := h.pl q hq
  have h2 := k.pic.lv q hq
  exact ⟨by omega, by omega⟩
theorem GoodRow.lot {rs : List Parts} (h : GoodRow rs) : GoodLot rs := by
  refine ⟨h.ne, ?_, fun r hr => (row_fit4 (h.each r hr).2.2 (h.each r hr).1).fit⟩
  have e : lvOf (rs.map elOf) = lv0 rs := by cases rs <;> rfl
  unfold wrongOf
  rw [e]
  refine wrong_none (by rw [List.length_map]; have := h.few; omega) fun x hx => ?_
  obtain ⟨r, hr, rfl⟩ := List.mem_map.mp hx
  show (decide (r.lv = lv0 rs) && smallB r.fin r.ls) = true
  rw [(h.each r hr).2.2.small, decide_eq_true (h.each r hr).2.1]
  rfl
theorem paired_map2 {α β γ : Type} {F : α → β → Prop} {G : α → γ → Prop} {f : β → γ} (k : ∀ a b, F a b → G a (f b)) : ∀ {xs : List α} {ys : List β}, Paired F xs ys → Paired G xs (ys.map f)
  | _, _, .nil => .nil
  | _, _, .cons h t => .cons (k _ _ h) (paired_map2 k t)
theorem rnd_delL {K : PySem.W.Frag} {C D a : Addr} {H : Hp} {lv fin : Int} {ls : List (Int × Int)} {ys : List V} (h : RndW K C H a lv fin ls) (hl : H D = some (.lst ys)) : RndW K C (delH H D) a lv fin ls := by
  obtain ⟨⟨t, ⟨d, h1⟩, as, h2, h3⟩, h4, h5⟩ := h
  refine ⟨⟨t, ⟨d, by rw [delH_ne (fun z => by rw [z, hl] at h1; cases h1)]; exact h1⟩, as, ?_, L2.Paired.mapP h3 fun y q z => by rw [delH_ne (fun k => by rw [k, hl] at z; cases z)]; exact z⟩, h4, h5⟩
  rcases h2 with h2 | ⟨o, h2⟩
  · exact .inl (by rw [delH_ne (fun k => by rw [k, hl] at h2; cases h2)]; exact h2)
  · exact .inr ⟨o, by rw [delH_ne (fun k => by rw [k, hl] at h2; cases h2)]; exact h2⟩
/-- the class's reading of a round's text -/
structure RdR (P : Program) (w : World) (K : PySem.W.Frag) (mg : Str → Option Value) (base : Heap) (C : Addr) : Prop where
  ex : ∃ (mc : Value) (p g : Addr) (fd : FuncData), CRead K C mc ∧ CMet K C mc "read" p g ∧ FnOk P w K mg base CX0 6 g fd ["cls", "text"] (spRead K C) ∧ Binds K fd ["cls", "text"] []
def spRead1 (K : PySem.W.Frag) (C : Addr) : Sp := fun vs H Q E => spRead K C (vs ++ []) H Q E
theorem pe_rdR {X : Cx} {C : Addr} {o e : Expr} {ta : TE} {t : TA} {pos apos : Pos} {pl : Sem Bool} (Z : RdR X.prog X.w X.K X.mg X.base C) (hr : Room 6 X.A) (he : PE X o ta) (ha : PA X [e] t)
    (hst : starEach [e] X.env = (false, eval e X.env) :: starEach [] X.env := by rfl) (hpl : (backTo pos (starEach [] X.env)).any (·.1) = false := by rfl)
    (ht : eval (.Call (.Attribute o "read" apos) [e] [] pos) X.env = (do
      let ov ← eval o X.env
      standAt apos.atName
      let (f, first) ← holding [ov] (getMethod ov "read" pl)
      callWith pos f first (backTo pos (starEach [e] X.env)) (backToKw pos (keywordEach [] X.env))) := by rfl) :
    PE X (.Call (.Attribute o "read" apos) [e] [] pos) (tCMeth C (spRead1 X.K C) E0 ta t) := by
  obtain ⟨mc, p, g, fd, r, c, F, b⟩ := Z.ex
  exact pe_cmeth he r c (F.raw b .nil) hr pass0 ha hst hpl ht
/-- cls(a) -/
def tLotL (K : PySem.W.Frag) (C L xI : Addr) (i : Nat) (ta : TA) : TE := fun σ H Q => σ[i]? = some (some (.ref L)) ∧ ta σ H fun vs H1 => ∃ v, vs = [v] ∧ rMkL K C L xI E0 v H1 Q
theorem passes0E {X : Cx} : Passes (L2.CX X.prog X.w) X E0 := fun _ _ _ _ _ _ _ ⟨_, _, _, _, _, _, _, _, _, _, _, _, e⟩ => (show False from e).elim
theorem pe_lotL {X : Cx} {C L xI : Addr} {x : Str} {e : Expr} {es : List Expr} {ta : TA} {p pos : Pos} {i : Nat} (Z : MkL X.prog X.w X.K X.mg X.base C L xI) (hr : Room 7 X.A) (hN : X.N[i]? = some x) (hv : Vis X.env.scope x) (ha : PA X (e :: es) ta) (hdb : (x == ("__debug__" : Str)) = false := by decide) (hcd : (x == ("__classdict__" : Str)) = false := by decide)
    (he : starEach (e :: es) X.env = (false, eval e X.env) :: starEach es X.env := by rfl) (hpl : (backTo pos (starEach es X.env)).any (·.1) = false := by rfl) : PE X (.Call (.Name x p) (e :: es) [] pos) (tLotL X.K C L xI i ta) := by
  obtain ⟨f, fd, M, F, b, _⟩ := Z.ex
  refine ⟨fun pins s σ H Q I h => ?_⟩
  obtain ⟨hs, h⟩ := h
  refine wpAny_Call_Name_kw (thn ((pe_var (pos := p) hN hv hdb hcd).run pins s σ H (fun v H1 => v = .ref L ∧ H1 = H) I ⟨.ref L, hs, rfl, rfl⟩) fun u s0 ⟨v, H0, I0, r0, q0⟩ => ?_)
  obtain ⟨rfl, rfl⟩ := q0
  cases r0
  refine PySem.W.callWith_K (h₀ := X.base) I.ok.mod.kin M.kp (thn (ha.run pos pins s0 σ _ _ I0 h) fun us s1 ⟨vs, H1, I1, r, v, ev, q⟩ => ⟨I1.kIn, ?_⟩) he hpl
  subst ev
  exact run_make M F hr b .nil passes0E I1 r fun y dx hy hd hne => mkL_init q hy hd hne
def spLotRd (K : PySem.W.Frag) (C L : Addr) : Sp := fun vs H Q _ => ∃ (rs : List Parts), vs = [.ref L, .str (lotS rs)] ∧ GoodRow rs ∧ ∀ a t H', Same H H' → H a = none → LotAt K C L H' a t rs → Q (.ref a) H'
section
variable {P : Program} {w : World} {K : PySem.W.Frag} {mg : Str → Option Value} {base : Heap} {C L xI : Addr}
theorem scLRead : FnScope ["cls", "text", "line"] ["cls", "text"] (defScope sLotRead) := ⟨rfl, rfl, rfl, by decide +kernel, rfl, by decide +kernel, by decide +kernel⟩
theorem ok_lotRead {f : Addr} {fd : FuncData} (F : Fun K "read" "Lot.read" sLotRead f fd) (ML : MkL P w K mg base C L xI) (Rd : RdR P w K mg base C) (mR : mg "Round" = some (.ref C)) (mis : mg "isinstance" = none) (ms : mg "str" = none) (mt : mg "tuple" = none) : FnOk P w K mg base CX0 8 f fd ["cls", "text"] (spLotRd K C L) := by
  refine F.ok scLRead (fun vs H Q E h => ?_) (fun cdv A outer s H vs Q E hr h => ?_)
  · obtain ⟨rs, rfl, _⟩ := h
    rfl
  · obtain ⟨rs, rfl, hg, q⟩ := h
    have hL := hg.lot
    have hlen := lot_len hL
    refine ⟨_, pss_cons (ps_if (pt_not (pt_val (pe_callB call_isi (by rfl) mis (by decide +kernel) (pa_cons (pv 1) (pa_cons (pe_bltn (v := .ty "str") (by rfl) ms (by decide +kernel) rfl) pa_nil))))) pss_never pss_nil)
      (pss_one (ps_try_thru0 (pss_one (ps_ret (pe_lotL ML hr (i := 0) rfl (.inl rfl) (pa_cons (pe_callTy call_tupB (by rfl) mt (by decide +kernel) (pa_cons (pe_lc (own := [("line", 2)]) (g := gName 2) (tt := tYes) (te := tCMeth C (spRead1 K C) E0 (tC (.ref C)) (tCons (tVar 2) tNil)) rfl scLRead.nd (pi_list (pe_split (pv 1) pe_str))
          (blkOk_by (own := [("line", 2)]) (N := ["cls", "text", "line"]) (sc := defScope sLotRead) (by decide +kernel))
          (fun _ _ _ _ _ => pg_name (i := 2) scLRead.nd rfl (Or.inl rfl)) (fun _ _ _ _ _ => pts_nil)
          (fun _ _ _ _ _ => by exact pe_rdR Rd (hr.mono (by decide)) (pe_glob (v := .ref C) rfl mR rfl) (pa_cons (pv 2) pa_nil))) pa_nil)) pa_nil)))))), ?_⟩
    refine sq_no (ans_not (b := true) (ans_val fun Q q => ⟨_, rfl, isi_ss q⟩)) ?_
    refine ⟨rfl, _, rfl, ⟨_, rfl⟩, _, ("\n" : Str), rfl, rfl, rfl, ?_, ?_⟩
    · have : (45700 : Nat) ≤ sizeLine := by decide
      omega
    rw [lot_split hg.ne]
    intro wl nwl
    have s1 := same_of (o := .lst ((rs.map lineS).map V.str)) nwl
    refine ⟨wl, rfl, ⟨_, SqL.of upd_same⟩, fun D hD => ?_⟩
    refine lc_grow (us := rs) (enc := fun r => V.str (lineS r)) (Rel := fun r v H => ∃ a, v = .ref a ∧ RndP K C H a r) (fun r v H H' s ⟨a, e, h⟩ => ⟨a, e, RndW.same h s⟩) hD (SqL.of (by rw [upd_same, List.map_map]; rfl)) (by have := hg.few; omega) ?_ ?_
    · intro i r H2 hu s2 hl Z hZ
      obtain ⟨hok, hlv, hw⟩ := hg.each r (List.mem_of_getElem? hu)
      obtain ⟨ys, hl⟩ := hl
      refine ⟨rfl, rfl, _, rfl, ?_⟩
      exact ⟨r.lv, r.fin, r.ls, rfl, row_fit4 hw hok, hok.lv, hok.pic, fun a t H3 s3 na hra hpi => hZ _ _ s3 ⟨a, rfl, rnd_delL ⟨⟨t, hra, hpi⟩, hok.lv, hok.pic.w⟩ (s3 _ _ hl)⟩⟩
    · intro H2 ys s2 hl hp
      refine ⟨D, ys, rfl, SqL.of hl, fun c o nc od => ?_⟩
      have s3 := same_of (o := .frz o (.tup ys)) nc
      refine ⟨_, rfl, .inr ⟨c, ys, rs.map elOf, rfl, .inl (.inr ⟨o, upd_same⟩), ?_, by rw [List.length_map]; have := hg.few; omega, .inr (.inr ⟨rs, rfl, hL, fun a H3 s4 na hA => q a c H3 (((s1.trans s2).trans s3).trans s4) ?_ hA⟩)⟩⟩
      · exact paired_map2 (fun v r ⟨a, e, h⟩ => ⟨a, e, RndW.same (RndW.same h del_sub) s3⟩) hp
      · exact ((s1.trans s2).trans s3).free na
end
end Lamp
set_option Elab.async false
set_option linter.all false
set_option maxRecDepth 100000
set_option maxHeartbeats 2000000
namespace Lamp
open PySem PySem.Spec PyProof.Rows L2 LamX ClX
abbrev sCrowd : Stmt := top 162
abbrev sLSheet : Stmt := top 163
abbrev sLotOf : Stmt := top 164
abbrev sLotBuilt : Stmt := top 165
/-! drawn lots -/
def CrowdAt (K : PySem.W.Frag) (H : Hp) (g : Addr) (rs : List Parts) : Prop := ∃ ls : List Addr, SqL K H g (ls.map V.ref) ∧ Paired (fun l r => ∃ t, PartsAt K H l t r) ls rs
theorem CrowdAt.same {K : PySem.W.Frag} {H H' : Hp} {g : Addr} {rs : List Parts} (h : CrowdAt K H g rs) (s : Same H H') : CrowdAt K H' g rs := by
  obtain ⟨ls, h1, h2⟩ := h
  exact ⟨ls, s.seq h1, L2.Paired.mapP h2 fun _ _ ⟨t, z⟩ => ⟨t, z.same s⟩⟩
theorem parts_delL {K : PySem.W.Frag} {H : Hp} {D l t : Addr} {r : Parts} {ls : List Addr} (h : PartsAt K H l t r) (hD : H D = some (.lst (ls.map V.ref))) : PartsAt K (delH H D) l t r := by
  obtain ⟨h1, as, ⟨o, h2, h3⟩, h4⟩ := h
  have ne : l ≠ D := fun e => by
    rw [e, hD] at h1
    injection h1 with h1
    injection h1 with h1
    cases ls with
    | nil => cases h1
    | cons a as' =>
      injection h1 with h1 _
      cases h1
  exact ⟨by rw [delH_ne ne]; exact h1, as, ⟨o, by rw [delH_ne (fun e => by rw [e, hD] at h2; cases h2)]; exact h2, h3⟩, L2.Paired.mapP h4 fun a q z => by rw [delH_ne (fun e => by rw [e, hD] at z; cases z)]; exact z⟩
theorem lot_delL {K : PySem.W.Frag} {C L D a t : Addr} {H : Hp} {rs : List Parts} {ys : List V} (h : LotAt K C L H a t rs) (hD : H D = some (.lst ys)) : LotAt K C L (delH H D) a t rs := by
  obtain ⟨⟨dx, h1⟩, as, h2, h3⟩ := h
  refine ⟨⟨dx, by rw [delH_ne (fun e => by rw [e, hD] at h1; cases h1)]; exact h1⟩, as, ?_, L2.Paired.mapP h3 fun _ _ z => rnd_delL z hD⟩
  rcases h2 with (h2 | ⟨o, h2⟩) | h2
  · exact .inl (.inl (by rw [delH_ne (fun e => by rw [e, hD] at h2; cases h2)]; exact h2))
  · exact .inl (.inr ⟨o, by rw [delH_ne (fun e => by rw [e, hD] at h2; cases h2)]; exact h2⟩)
  · exact .inr h2
theorem Within.mono {a : Int} {r : Parts} (h : Within a r) (ha : a ≤ 24) : Within 24 r := ⟨fun q hq => by have : -a ≤ q.1 ∧ q.1 ≤ a := h.pl q hq; exact ⟨by omega, by omega⟩, h.few, h.lo, h.hi⟩
theorem del2_upd {H : Hp} {D p : Addr} {o : HO} : delH (delH (upd H D o) p) D = delH (delH H p) D := by
  funext b
  by_cases e : b = D
  · subst e
    rw [delH_same, delH_same]
  · rw [delH_ne e, delH_ne e]
    by_cases z : b = p
    · subst z
      rw [delH_same, delH_same]
    · rw [delH_ne z, delH_ne z, upd_ne e]
/-- the class's reading of a lot's text -/
structure RdL (P : Program) (w : World) (K : PySem.W.Frag) (mg : Str → Option Value) (base : Heap) (C L : Addr) : Prop where
  ex : ∃ (mc : Value) (p g : Addr) (fd : FuncData), CRead K L mc ∧ CMet K L mc "read" p g ∧ FnOk P w K mg base CX0 8 g fd ["cls", "text"] (spLotRd K C L) ∧ Binds K fd ["cls", "text"] []
def spLotRd1 (K : PySem.W.Frag) (C L : Addr) : Sp := fun vs H Q E => spLotRd K C L (vs ++ []) H Q E
theorem pe_rdL {X : Cx} {C L : Addr} {o e : Expr} {ta : TE} {t : TA} {pos apos : Pos} {pl : Sem Bool} (Z : RdL X.prog X.w X.K X.mg X.base C L) (hr : Room 8 X.A) (he : PE X o ta) (ha : PA X [e] t)
    (hst : starEach [e] X.env = (false, eval e X.env) :: starEach [] X.env := by rfl) (hpl : (backTo pos (starEach [] X.env)).any (·.1) = false := by rfl)
    (ht : eval (.Call (.Attribute o "read" apos) [e] [] pos) X.env = (do
      let ov ← eval o X.env
      standAt apos.atName
      let (f, first) ← holding [ov] (getMethod ov "read" pl)
      callWith pos f first (backTo pos (starEach [e] X.env)) (backToKw pos (keywordEach [] X.env))) := by rfl) :
    PE X (.Call (.Attribute o "read" apos) [e] [] pos) (tCMeth L (spLotRd1 X.K C L) E0 ta t) := by
  obtain ⟨mc, p, g, fd, r, c, F, b⟩ := Z.ex
  exact pe_cmeth he r c (F.raw b .nil) hr pass0 ha hst hpl ht
theorem lot_bound {rs : List Parts} (h : GoodLot rs) : ((rs.map lineS).map (·.length)).sum + (rs.map lineS).length * ("\n" : Str).length ≤ 16777216 := by
  have few := h.few
  have e1 : ("\n" : Str).length = 1 := rfl
  rw [e1, List.length_map]
  have sum : ∀ l : List Parts, (∀ r ∈ l, Fit r.lv r.ls r.fin) → ((l.map lineS).map (·.length)).sum ≤ l.length * (130 + 88 * 128) := fun l hl => by
    induction l with
    | nil => exact Nat.le_refl _
    | cons r l ih =>
      have h1 := ih fun y hy => hl y (List.mem_cons_of_mem _ hy)
      have h2 := line_len (hl r (List.mem_cons_self ..))
      rw [List.map_cons, List.map_cons, List.sum_cons, List.length_cons]
      omega
  have h2 := sum rs h.fit
  have : rs.length * (130 + 88 * 128) ≤ 4 * (130 + 88 * 128) := Nat.mul_le_mul_right _ few
  omega
/-- the tuple of the rounds, then the lot -/
theorem lot_tail {K : PySem.W.Frag} {C L xI D : Addr} {H H2 : Hp} {ls : List Addr} {rs : List Parts} {ys : List V} {Q : VK} (el : ls.length = rs.length) (hg : GoodRow rs) (s2 : Same H H2) (hl : H2 D = some (.lst ys)) (hp : Paired (fun v (u : Addr × Parts) => ∃ a, v = .ref a ∧ RndP K C (delH H2 D) a u.2) ys (ls.zip rs))
    (q : ∀ a t H', Same H H' → H a = none → LotAt K C L H' a t rs → Q (.ref a) H') : rTupB K [.ref D] H2 fun x H3 => rMkL K C L xI E0 x H3 Q := by
  refine ⟨D, ys, rfl, SqL.of hl, fun c o nc od => ?_⟩
  have s3 := same_of (o := .frz o (.tup ys)) nc
  refine .inr ⟨c, ys, rs.map elOf, rfl, .inl (.inr ⟨o, upd_same⟩), ?_, by rw [List.length_map]; have := hg.few; omega, .inr (.inr ⟨rs, rfl, hg.lot, fun a H3 s4 na hA => q a c H3 ((s2.trans s3).trans s4) ?_ hA⟩)⟩
  · have z := paired_map2 (G := ElAt K C (upd H2 c (.frz o (.tup ys)))) (f := fun u : Addr × Parts => elOf u.2) (fun v r ⟨a, e, h⟩ => ⟨a, e, RndW.same (RndW.same h del_sub) s3⟩) hp
    rw [fb_snd elOf el] at z
    exact z
  · exact (s2.trans s3).free na
def spCrowd (K : PySem.W.Frag) : Sp := fun vs H Q _ => ∃ (p : Addr), vs = [.ref p] ∧ Pail H p ∧ ∀ (g : Addr) (rs : List Parts) H', GoodRow rs → CrowdAt K (delH H' p) g rs → Pail H' p → But p H H' → Q (.ref g) H'
def spLSheet (K : PySem.W.Frag) : Sp := fun vs H Q _ => ∃ (g : Addr) (rs : List Parts), vs = [.ref g] ∧ CrowdAt K H g rs ∧ GoodRow rs ∧ ∀ H', Same H H' → Q (.str (lotS rs)) H'
def spLotOf (K : PySem.W.Frag) (C L : Addr) : Sp := fun vs H Q _ => ∃ (g : Addr) (rs : List Parts), vs = [.ref g] ∧ CrowdAt K H g rs ∧ GoodRow rs ∧ ∀ a t H', Same H H' → H a = none → LotAt K C L H' a t rs → Q (.ref a) H'
def spLotBuilt (K : PySem.W.Frag) (C L : Addr) : Sp := fun vs H Q _ => ∃ (p g : Addr) (rs : List Parts), vs = [.ref p, .ref g] ∧ Pail H p ∧ CrowdAt K (delH H p) g rs ∧ GoodRow rs ∧ ∀ a t H', But p H H' → Pail H' p → LotAt K C L (delH H' p) a t rs → Q (.ref a) H'
section
variable {P : Program} {w : World} {K : PySem.W.Frag} {mg : Str → Option Value} {base : Heap} {C L xI : Addr}
theorem scCrowd : FnScope ["_law_pail", "_law_p", "_law_wide", "_law_k"] ["_law_pail"] (defScope sCrowd) := ⟨rfl, rfl, rfl, by decide +kernel, rfl, by decide +kernel, by decide +kernel⟩
theorem scLSheet : FnScope ["_law_crowd_here", "_law_parts"] ["_law_crowd_here"] (defScope sLSheet) := ⟨rfl, rfl, rfl, by decide +kernel, rfl, by decide +kernel, by decide +kernel⟩
theorem scLotOf : FnScope ["_law_crowd_here", "_law_parts"] ["_law_crowd_here"] (defScope sLotOf) := ⟨rfl, rfl, rfl, by decide +kernel, rfl, by decide +kernel, by decide +kernel⟩
theorem scLotBuilt : FnScope ["_law_pail", "_law_crowd_here", "_law_chance", "_law_parts"] ["_law_pail", "_law_crowd_here"] (defScope sLotBuilt) := ⟨rfl, rfl, rfl, by decide +kernel, rfl, by decide +kernel, by decide +kernel⟩
theorem ok_crowd {f : Addr} {fd : FuncData} (F : Fun K "_law_crowd" "_law_crowd" sCrowd f fd) (An : Dr P w K mg base spAny "_law_any_of" ["_law_pail", "_law_some"] 2) (Cs : Dr P w K mg base spCast "_law_cast" ["_law_pail", "_law_many"] 1) (Sm : Dr P w K mg base (spSmall K) "_law_small" ["_law_pail", "_law_p", "_law_wide"] 3) (m_range : mg "range" = none) : FnOk P w K mg base CX0 4 f fd ["_law_pail"] (spCrowd K) := by
  refine F.ok scCrowd (fun vs H Q E h => ?_) (fun cdv A outer s H vs Q E hr h => ?_)
  · obtain ⟨p, rfl, _⟩ := h
    rfl
  · obtain ⟨p, rfl, hp, q⟩ := h
    refine ⟨_, (pss_cons (ps_set (i := 1) scCrowd.nd rfl (.inr rfl) (pe_dr An (by decide) hr rfl (pa_cons (pv 0) (pa_cons (pe_lst (pa_cons pe_int (pa_cons pe_int (pa_cons pe_int (pa_cons pe_int (pa_cons pe_int pa_nil)))))) pa_nil))))
      (pss_cons (ps_set (i := 2) scCrowd.nd rfl (.inr rfl) (pe_dr An (by decide) hr rfl (pa_cons (pv 0) (pa_cons (pe_lst (pa_cons pe_int (pa_cons pe_int (pa_cons pe_int (pa_cons pe_int pa_nil))))) pa_nil))))
      (pss_one (ps_ret (pe_lc (own := [("_law_k", 3)]) (g := gName 3) (tt := tYes) rfl scCrowd.nd (pi_range1 rfl m_range (pa_cons (pe_op op_add pe_int (pe_dr Cs (by decide) hr rfl (pa_cons (pv 0) (pa_cons pe_int pa_nil)))) pa_nil))
          (blkOk_by (own := [("_law_k", 3)]) (N := ["_law_pail", "_law_p", "_law_wide", "_law_k"]) (sc := defScope sCrowd) (by decide +kernel))
          (fun _ _ _ _ _ => (pg_name (i := 3) scCrowd.nd rfl (Or.inl rfl))) (fun _ _ _ _ _ => pts_nil)
          (fun _ _ _ _ _ => (pe_dr Sm (by decide) hr rfl (pa_cons (pv 0) (pa_cons (pv 1) (pa_cons (pv 2) pa_nil)))))))))), ?_⟩
    refine ⟨_, rfl, (by show 5 ≤ sizeLine; decide), fun l0 n0 => ?_⟩
    have sl0 := same_of (o := .lst [V.int 2, V.int 2, V.int 3, V.int 5, V.int 7]) n0
    refine ⟨p, l0, _, rfl, hp.ne n0, upd_same, (by show 0 < 5; decide), (by show 5 < 1000000; decide), hp.same sl0, fun v H1 hv hp1 bt1 => ?_⟩
    obtain ⟨lv, rfl, hg⟩ : ∃ lv : Int, v = .int lv ∧ goodLv lv := by
      simp only [List.mem_cons, List.not_mem_nil, or_false] at hv
      rcases hv with e | e | e | e | e
      · exact ⟨2, e, .inl rfl⟩
      · exact ⟨2, e, .inl rfl⟩
      · exact ⟨3, e, .inr (.inl rfl)⟩
      · exact ⟨5, e, .inr (.inr (.inl rfl))⟩
      · exact ⟨7, e, .inr (.inr (.inr rfl))⟩
    have b1 : But p H H1 := (But.of sl0).trans bt1
    dsimp only [gName, List.set]
    refine ⟨_, rfl, (by show 4 ≤ sizeLine; decide), fun l1 n1 => ?_⟩
    have sl1 := same_of (o := .lst [V.int 2, V.int 4, V.int 8, V.int 24]) n1
    refine ⟨p, l1, _, rfl, hp1.ne n1, upd_same, (by show 0 < 4; decide), (by show 4 < 1000000; decide), hp1.same sl1, fun v H2 hv hp2 bt2 => ?_⟩
    obtain ⟨wide, rfl, w1, w2⟩ : ∃ wide : Int, v = .int wide ∧ 1 ≤ wide ∧ wide ≤ 24 := by
      simp only [List.mem_cons, List.not_mem_nil, or_false] at hv
      rcases hv with e | e | e | e
      · exact ⟨2, e, by decide, by decide⟩
      · exact ⟨4, e, by decide, by decide⟩
      · exact ⟨8, e, by decide, by decide⟩
      · exact ⟨24, e, by decide, by decide⟩
    have b2 : But p H H2 := (b1.trans (But.of sl1)).trans bt2
    dsimp only [gName, List.set]
    refine ⟨_, rfl, p, 4, rfl, by decide, by decide, hp2, fun c H3 c0 c4 hp3 bt3 => ⟨1, c, rfl, rfl, 1 + c, rfl, by omega, by omega, fun D hD => ?_⟩⟩
    obtain ⟨n, en, n1', n4⟩ : ∃ n : Nat, (1 + c : Int) = (n : Int) ∧ 1 ≤ n ∧ n ≤ 4 := ⟨(1 + c).toNat, by omega, by omega, by omega⟩
    rw [en, show ((n : Int)).toNat = n by omega]
    have b3 : But p H H3 := b2.trans bt3
    have Dp : D ≠ p := hp3.ne hD
    refine lc_range (lo := 0) (n := n) (fun i H' => ∃ (ls : List Addr) (rs : List Parts), H' D = some (.lst (ls.map V.ref)) ∧ Pail H' p ∧ But p H3 H' ∧ Paired (fun l r => ∃ t, PartsAt K (delH (delH H' p) D) l t r) ls rs ∧ rs.length = i ∧ ∀ r ∈ rs, r.Ok ∧ r.lv = lv ∧ Within 24 r)
      ⟨[], [], upd_same, hp3.same (same_of hD), But.of (same_of hD), .nil, rfl, fun _ z => nomatch z⟩ (fun i H' hi z => ?_) (fun H' z => ?_)
    · obtain ⟨ls, rs, hl, hp4, b4, hpa, hlen, hall⟩ := z
      refine ⟨rfl, _, rfl, _, rfl, _, rfl, p, lv, wide, rfl, hg, w1, w2, hp4, fun l t r H5 elv hok hwi hpr hp5 b5 => ?_⟩
      have hl5 : H5 D = some (.lst (ls.map V.ref)) := b5 _ _ Dp hl
      have hl5' : (delH H5 p) D = some (.lst (ls.map V.ref)) := by rw [delH_ne Dp]; exact hl5
      refine ⟨_, hl5, ?_, ls ++ [l], rs ++ [r], ?_, ?_, fun b o nb e => ?_, ?_, ?_, ?_⟩
      · rw [List.length_map, fb_len hpa]
        exact small1000 (by omega)
      · rw [upd_same, List.map_append]
        rfl
      · obtain ⟨x, y, w', hx, hr'⟩ := hp5
        exact ⟨x, y, w', by rw [upd_ne (Ne.symm Dp)]; exact hx, hr'⟩
      · rw [upd_ne (ne_of_none e hD)]
        exact b5 _ _ nb (b4 _ _ nb e)
      · rw [del2_upd]
        exact Paired.snoc (L2.Paired.mapP hpa fun _ _ ⟨t', z⟩ => ⟨t', z.same (same_delH b5.del)⟩) ⟨t, parts_delL hpr hl5'⟩
      · rw [List.length_append, hlen]
        rfl
      · intro x hx
        rcases List.mem_append.mp hx with z | z
        · exact hall x z
        · rw [List.mem_singleton.mp z]
          exact ⟨hok, elv, hwi.mono w2⟩
    · obtain ⟨ls, rs, hl, hp4, b4, hpa, hlen, hall⟩ := z
      refine q D rs H' ?_ ⟨ls, SqL.of (by rw [delH_ne Dp]; exact hl), L2.Paired.mapP hpa fun _ _ ⟨t', z⟩ => ⟨t', z.same del_sub⟩⟩ hp4 (b3.trans b4)
      have ne : rs ≠ [] := fun z => by
        have : rs.length = 0 := by rw [z]; rfl
        omega
      have e0 : lv0 rs = lv := by
        cases rs with
        | nil => exact absurd rfl ne
        | cons r rs' => exact (hall r (List.mem_cons_self ..)).2.1
      exact ⟨ne, by omega, fun r hr => ⟨(hall r hr).1, (hall r hr).2.1.trans e0.symm, (hall r hr).2.2⟩⟩
theorem ok_lotSheet {f : Addr} {fd : FuncData} (F : Fun K "_law_lot_sheet" "_law_lot_sheet" sLSheet f fd) (Sh : Dr P w K mg base (spSheet K) "_law_sheet" ["_law_parts"] 1) : FnOk P w K mg base CX0 2 f fd ["_law_crowd_here"] (spLSheet K) := by
  refine F.ok scLSheet (fun vs H Q E h => ?_) (fun cdv A outer s H vs Q E hr h => ?_)
  · obtain ⟨g, rs, rfl, _⟩ := h
    rfl
  · obtain ⟨g, rs, rfl, ⟨ls, hsq, hpa⟩, hg, q⟩ := h
    refine ⟨_, (pss_one (ps_ret (pe_join pe_str (pe_lc (own := [("_law_parts", 1)]) (g := gName 1) (tt := tYes) rfl scLSheet.nd (pi_list (pv 0))
          (blkOk_by (own := [("_law_parts", 1)]) (N := ["_law_crowd_here", "_law_parts"]) (sc := defScope sLSheet) (by decide +kernel))
          (fun _ _ _ _ _ => (pg_name (i := 1) scLSheet.nd rfl (Or.inl rfl))) (fun _ _ _ _ _ => pts_nil)
          (fun _ _ _ _ _ => (pe_dr Sh (by decide) hr rfl (pa_cons (pv 1) pa_nil))))))), ?_⟩
    have el := fb_len hpa
    refine ⟨⟨_, rfl⟩, _, rfl, g, rfl, ⟨_, hsq⟩, fun D hD => ?_⟩
    refine lc_grow (us := ls.zip rs) (enc := fun u => V.ref u.1) (Rel := fun u v _ => v = V.str (lineS u.2)) (fun _ _ _ _ _ z => z) hD (by rw [fb_fst el]; exact hsq) (by rw [List.length_zip]; have := hg.few; omega) ?_ ?_
    · intro i u H2 hu s2 _ Z hZ
      obtain ⟨u1, u2⟩ := fb_at hu
      obtain ⟨r, hr1, t, hpr⟩ := fb_get hpa u1
      rw [u2] at hr1
      injection hr1 with hr1
      subst hr1
      obtain ⟨hok, hlv, hw⟩ := hg.each u.2 (List.mem_of_getElem? u2)
      have hpr2 := hpr.same s2
      exact ⟨rfl, _, rfl, u.1, t, u.2.lv, u.2.fin, u.2.ls, rfl, hpr2.1, hpr2.2.at, (row_fit4 hw hok).fit, fun H3 s3 => hZ _ _ s3 rfl⟩
    · intro H2 ys s2 hl hp
      have ey : ys = (rs.map lineS).map V.str := by
        have hp' : Paired (fun v (u : Addr × Parts) => v = V.str (lineS u.2)) ys (ls.zip rs) := hp
        have z2 : Paired (fun v (z : Str) => v = V.str z) ys ((ls.zip rs).map fun u : Addr × Parts => lineS u.2) := by
          refine paired_map2 ?_ hp'
          intro a b h
          exact h
        have z := fb_strs z2
        rw [z, fb_snd lineS el]
      subst ey
      refine ⟨("\n" : Str), D, rs.map lineS, rfl, rfl, .inl ?_, ?_, ?_⟩
      · exact SqL.of hl
      · exact lot_bound hg.lot
      · exact q H2 s2
theorem ok_lotOf {f : Addr} {fd : FuncData} (F : Fun K "_law_lot_of" "_law_lot_of" sLotOf f fd) (Of : Dr P w K mg base (spOf K C) "_law_of" ["_law_parts"] 6) (ML : MkL P w K mg base C L xI) (mL : mg "Lot" = some (.ref L)) (m_tuple : mg "tuple" = none) : FnOk P w K mg base CX0 8 f fd ["_law_crowd_here"] (spLotOf K C L) := by
  refine F.ok scLotOf (fun vs H Q E h => ?_) (fun cdv A outer s H vs Q E hr h => ?_)
  · obtain ⟨g, rs, rfl, _⟩ := h
    rfl
  · obtain ⟨g, rs, rfl, ⟨ls, hsq, hpa⟩, hg, q⟩ := h
    refine ⟨_, (pss_one (ps_ret (pe_lotC ML (hr.mono (by decide)) rfl mL passes0E (pa_cons (pe_callTy call_tupB (by rfl) m_tuple (by decide +kernel) (pa_cons (pe_lc (own := [("_law_parts", 1)]) (g := gName 1) (tt := tYes) rfl scLotOf.nd (pi_list (pv 0))
          (blkOk_by (own := [("_law_parts", 1)]) (N := ["_law_crowd_here", "_law_parts"]) (sc := defScope sLotOf) (by decide +kernel))
          (fun _ _ _ _ _ => (pg_name (i := 1) scLotOf.nd rfl (Or.inl rfl))) (fun _ _ _ _ _ => pts_nil)
          (fun _ _ _ _ _ => (pe_dr Of (by decide) hr rfl (pa_cons (pv 1) pa_nil)))) pa_nil)) pa_nil)))), ?_⟩
    have el := fb_len hpa
    refine ⟨_, rfl, g, rfl, ⟨_, hsq⟩, fun D hD => ?_⟩
    refine lc_grow (us := ls.zip rs) (enc := fun u => V.ref u.1) (Rel := fun u v H => ∃ a, v = .ref a ∧ RndP K C H a u.2) (fun u v H H' s ⟨a, e, h⟩ => ⟨a, e, RndW.same h s⟩) hD (by rw [fb_fst el]; exact hsq) (by rw [List.length_zip]; have := hg.few; omega) ?_ ?_
    · intro i u H2 hu s2 ⟨ys, hl⟩ Z hZ
      obtain ⟨u1, u2⟩ := fb_at hu
      obtain ⟨r, hr1, t, hpr⟩ := fb_get hpa u1
      rw [u2] at hr1
      injection hr1 with hr1
      subst hr1
      obtain ⟨hok, hlv, hw⟩ := hg.each u.2 (List.mem_of_getElem? u2)
      have hpr2 := hpr.same s2
      exact ⟨rfl, _, rfl, u.1, t, u.2, rfl, hpr2, hok, fun a H3 s3 na hra => hZ _ _ s3 ⟨a, rfl, rnd_delL ⟨⟨t, hra, (hpr2.2.same s3).at⟩, hok.lv, hok.pic.w⟩ (s3 _ _ hl)⟩⟩
    · intro H2 ys s2 hl hp
      obtain ⟨p, ys', e1, e2, e3⟩ := lot_tail (xI := xI) el hg s2 hl hp q
      exact ⟨p, ys', e1, e2, fun l o h1 h2 => ⟨_, rfl, e3 l o h1 h2⟩⟩
theorem ok_lotBuilt {f : Addr} {fd : FuncData} (F : Fun K "_law_lot_built" "_law_lot_built" sLotBuilt f fd) (Cs : Dr P w K mg base spCast "_law_cast" ["_law_pail", "_law_many"] 1) (Of : Dr P w K mg base (spOf K C) "_law_of" ["_law_parts"] 6) (ML : MkL P w K mg base C L xI) (mL : mg "Lot" = some (.ref L)) (Lo : Dr P w K mg base (spLotOf K C L) "_law_lot_of" ["_law_crowd_here"] 8) (Ls : Dr P w K mg base (spLSheet K) "_law_lot_sheet" ["_law_crowd_here"] 2) (Rl : RdL P w K mg base C L) (m_tuple : mg "tuple" = none) : FnOk P w K mg base CX0 9 f fd ["_law_pail", "_law_crowd_here"] (spLotBuilt K C L) := by
  refine F.ok scLotBuilt (fun vs H Q E h => ?_) (fun cdv A outer s H vs Q E hr h => ?_)
  · obtain ⟨p, g, rs, rfl, _⟩ := h
    rfl
  · obtain ⟨p, g, rs, rfl, hp, hc, hg, q⟩ := h
    refine ⟨_, (pss_cons (ps_set (i := 2) scLotBuilt.nd rfl (.inl rfl) (pe_dr Cs (by decide) hr rfl (pa_cons (pv 0) (pa_cons pe_int pa_nil))))
      (pss_cons (ps_if (pt_cmpR op_eq (pv 2) pe_int (nomark _)) (pss_one (ps_ret (pe_dr Lo (by decide) hr rfl (pa_cons (pv 1) pa_nil)))) pss_nil)
      (pss_cons (ps_if (pt_cmpR op_eq (pv 2) pe_int (nomark _)) (pss_one (ps_ret (pe_lotCK ML (hr.mono (by decide)) rfl mL passes0E (pk_cons (pe_callTy call_tupB (by rfl) m_tuple (by decide +kernel) (pa_cons (pe_lc (own := [("_law_parts", 3)]) (g := gName 3) (tt := tYes) rfl scLotBuilt.nd (pi_list (pv 1))
          (blkOk_by (own := [("_law_parts", 3)]) (N := ["_law_pail", "_law_crowd_here", "_law_chance", "_law_parts"]) (sc := defScope sLotBuilt) (by decide +kernel))
          (fun _ _ _ _ _ => (pg_name (i := 3) scLotBuilt.nd rfl (Or.inl rfl))) (fun _ _ _ _ _ => pts_nil)
          (fun _ _ _ _ _ => (pe_dr Of (by decide) hr rfl (pa_cons (pv 3) pa_nil)))) pa_nil)) pk_nil)))) pss_nil)
      (pss_one (ps_ret (pe_rdL Rl hr (pe_glob (v := .ref L) rfl mL rfl) (pa_cons (pe_dr Ls (by decide) hr rfl (pa_cons (pv 1) pa_nil)) pa_nil))))))), ?_⟩
    refine ⟨_, rfl, p, 3, rfl, by decide, by decide, hp, fun c H1 c0 c1 hp1 bt1 => ?_⟩
    have hc1 : CrowdAt K H1 g rs := (hc.same bt1.del).same del_sub
    have fin : ∀ a t H', Same H1 H' → LotAt K C L H' a t rs → Q (.ref a) H' := fun a t H' s hA => by
      have hp2 := hp1.same s
      obtain ⟨x, y, z, hz, _⟩ := id hp2
      exact q a t H' (bt1.trans (But.of s)) hp2 (lot_delL hA hz)
    by_cases h0 : c = 0
    · subst h0
      refine sq_yes (ans_eq (x := .int 0) (y := .int 0) (val_var rfl) val_c rfl (decide_eq_true rfl)) ?_
      exact ⟨_, rfl, g, rs, rfl, hc1, hg, fun a t H' s na hA => fin a t H' s hA⟩
    · refine sq_no (ans_eq (x := .int c) (y := .int 0) (val_var rfl) val_c rfl (decide_eq_false fun z => h0 (V.int.inj z))) ?_
      by_cases h1 : c = 1
      · subst h1
        refine sq_yes (ans_eq (x := .int 1) (y := .int 1) (val_var rfl) val_c rfl (decide_eq_true rfl)) ?_
        obtain ⟨ls, hsq, hpa⟩ := hc1
        have el := fb_len hpa
        refine ⟨_, rfl, g, rfl, ⟨_, hsq⟩, fun D hD => ?_⟩
        refine lc_grow (us := ls.zip rs) (enc := fun u => V.ref u.1) (Rel := fun u v H => ∃ a, v = .ref a ∧ RndP K C H a u.2) (fun u v H H' s ⟨a, e, h⟩ => ⟨a, e, RndW.same h s⟩) hD (by rw [fb_fst el]; exact hsq) (by rw [List.length_zip]; have := hg.few; omega) ?_ ?_
        · intro i u H2 hu s2 ⟨ys, hl⟩ Z hZ
          obtain ⟨u1, u2⟩ := fb_at hu
          obtain ⟨r, hr1, t, hpr⟩ := fb_get hpa u1
          rw [u2] at hr1
          injection hr1 with hr1
          subst hr1
          obtain ⟨hok, hlv, hw⟩ := hg.each u.2 (List.mem_of_getElem? u2)
          have hpr2 := hpr.same s2
          exact ⟨rfl, _, rfl, u.1, t, u.2, rfl, hpr2, hok, fun a H3 s3 na hra => hZ _ _ s3 ⟨a, rfl, rnd_delL ⟨⟨t, hra, (hpr2.2.same s3).at⟩, hok.lv, hok.pic.w⟩ (s3 _ _ hl)⟩⟩
        · intro H2 ys s2 hl hp
          obtain ⟨p, ys', e1, e2, e3⟩ := lot_tail (xI := xI) (Q := Q) el hg s2 hl hp fun a t H' s na hA => fin a t H' s hA
          exact ⟨p, ys', e1, e2, fun l o h1 h2 => ⟨_, rfl, e3 l o h1 h2⟩⟩
      · refine sq_no (ans_eq (x := .int c) (y := .int 1) (val_var rfl) val_c rfl (decide_eq_false fun z => h1 (V.int.inj z))) ?_
        refine ⟨rfl, _, rfl, g, rs, rfl, hc1, hg, fun H2 s2 => ⟨rs, rfl, hg, fun a t H3 s3 na hA => fin a t H3 (s2.trans s3) hA⟩⟩
end
end Lamp
set_option Elab.async false
set_option linter.all false
set_option maxRecDepth 100000
set_option maxHeartbeats 4000000
namespace Lamp
open PySem PySem.Spec PyProof.Rows L2 LamX
abbrev sAsk : Stmt := top 167
abbrev sAskL : Stmt := top 168
abbrev sSec : Stmt := top 169
abbrev sFar : Stmt := top 170
abbrev sRight : Stmt := top 171
abbrev sLaw : Stmt := top 172
def qA : Str := (envOfC "_law_rounds_asked" (defScope sAsk) 0 0 .none).qual ++ "<lambda>"
def qB : Str := (envOfC "_law_lots_asked" (defScope sAskL) 0 0 .none).qual ++ "<lambda>"
def qC : Str := (envOfC "_law_seconds" (defScope sSec) 0 0 .none).qual ++ "<lambda>"
def qD : Str := (envOfC "_law_far_right" (defScope sFar) 0 0 .none).qual ++ "<lambda>"
def qR : Str := (envOfC "_law_right" (defScope sRight) 0 0 .none).qual ++ "<lambda>"
/-! lists of answers that grow -/
theorem up_of {K : PySem.W.Frag} {cA cB cC x0 x1 x2 x3 x4 x : Addr} {y : V} {m : Str} {dt : PyData} {H : Hp} {Q : VK} (xm : PySem.W.exmAny K (.ref x) [.ref cA, .ref cB, .ref cC] = some true) (he : ErrG x0 x1 x2 x3 x4 x "given" m) (hq : Dq K H y dt) (kd : okD dt = true)
    (k : ∀ l H', Same H H' → H' l = some (.lst [.str m, .str dt.shown]) → Q (.ref l) H') : Up (raisO K (.ref cA) (.ref cB) (.ref cC) (spSort K x0 x1 x2 x3 x4) Q) H x y := fun d H' s hd =>
  ⟨x, rfl, xm, fun ea nea => ⟨rfl, d, "given", m, y, dt, rfl, he, hd, dq_same s hq, kd, fun l H'' s' nl hl => k l H'' (s.trans s') hl⟩⟩
def errD (n : Str) (d : PyData) : PyData := .list [.str n, .str d.shown]
def rowD (n : Str) (d : PyData) (k : Nat) : PyData := .list (List.replicate k (errD n d))
def fineB (n : Str) (k : Nat) (d : PyData) : Bool := SeqAt.shaped (rowD n d k) && PyData.eqv (rowD n d k) (rowD n d k)
theorem all_at {α : Type} {l : List α} {f : α → Bool} (h : l.all f = true) {x : α} (m : x ∈ l) : f x = true := by
  rw [List.all_eq_true] at h
  exact h x m
/-- the list of answers, so far -/
def Row (H : Hp) (g : Addr) (n s : Str) (k : Nat) : Prop := ∃ ls : List Addr, H g = some (.lst (ls.map V.ref)) ∧ ls.length = k ∧ ∀ l ∈ ls, H l = some (.lst [.str n, .str s])
theorem dp_row {K : PySem.W.Frag} {H : Hp} {n : Str} {d : PyData} : ∀ {ls : List Addr}, (∀ l ∈ ls, H l = some (.lst [.str n, .str d.shown])) → DpAll K H (ls.map V.ref) (List.replicate ls.length (errD n d))
  | [], _ => .nil
  | l :: ls, h => .cons (.lst (SqL.of (h l (List.mem_cons_self ..))) (.cons (.str _) (.cons (.str _) .nil))) (dp_row fun m hm => h m (List.mem_cons_of_mem _ hm))
theorem Row.dp {K : PySem.W.Frag} {H : Hp} {g : Addr} {n : Str} {d : PyData} {k : Nat} (h : Row H g n d.shown k) : Dp K H (.ref g) (rowD n d k) := by
  obtain ⟨ls, h1, rfl, h3⟩ := h
  exact .lst (SqL.of h1) (dp_row h3)
theorem Row.same {H H' : Hp} {g : Addr} {n s : Str} {k : Nat} (h : Row H g n s k) (e : Same H H') : Row H' g n s k := by
  obtain ⟨ls, h1, h2, h3⟩ := h
  exact ⟨ls, e _ _ h1, h2, fun l hl => e _ _ (h3 l hl)⟩
section
variable {K : PySem.W.Frag} {cA cB cC x0 x1 x2 x3 x4 x : Addr} {T : List (Addr × Str)} {t : XK → TE} {rest t1 : TS} {D : Ends} {σ : L2.St} {H Hb : Hp} {v : V} {d : PyData} {n : Str}
/-- a list with one answer -/
theorem got_new {i : Nat} (hT : Tabs T H) (ok : okD d = true) (hv : Dq K H v d) (xm : PySem.W.exmAny K (.ref x) [.ref cA, .ref cB, .ref cC] = some true) (he : ErrG x0 x1 x2 x3 x4 x "given" n)
    (hbody : ∀ H8 E Q, ExtN H H8 → Up E H8 x v → t E σ H8 Q)
    (k : ∀ g Hb H', ExtN H Hb → Hb g = none → ExtN Hb H' → Tabs T H' → Row H' g n d.shown 1 → rest D (σ.set i (some (.ref g))) H') :
    tSeq (tAsg (tLst (tCons (tLam T (TTanO K (.ref cA) (.ref cB) (.ref cC) (spSort K x0 x1 x2 x3 x4)) t) tNil)) (gName i)) rest D σ H := by
  refine ⟨hT, fun H8 e8 hT8 f8 => hbody H8 _ _ e8 (up_of xm he (dq_ext e8 hv) ok fun l H9 s9 hl => ⟨(by show 1 ≤ sizeLine; decide), fun g ng => ?_⟩)⟩
  have sg := same_of (o := .lst [V.ref l]) ng
  exact k g H9 _ (e8.trans (ext_same s9)) ng (ext_same sg) (hT8.ext (s9.trans sg)) ⟨[l], upd_same, rfl, fun m hm => by
    rw [List.mem_singleton.mp hm]
    exact sg _ _ hl⟩
/-- one more answer -/
theorem got_add {g : Addr} {m i : Nat} (hg : σ[i]? = some (some (.ref g))) (R : Row H g n d.shown m) (hm : m < 20) (hb : Hb g = none) (e : ExtN Hb H) (hT : Tabs T H) (ok : okD d = true) (hv : Dq K Hb v d) (xm : PySem.W.exmAny K (.ref x) [.ref cA, .ref cB, .ref cC] = some true) (he : ErrG x0 x1 x2 x3 x4 x "given" n)
    (hbody : ∀ H8 E Q, ExtN Hb H8 → Up E H8 x v → t E σ H8 Q)
    (k : ∀ H', ExtN Hb H' → Tabs T H' → Row H' g n d.shown (m + 1) → rest D σ H') :
    tSeq (tDrop (tBM K "list" rAppend (tVar i) (tCons (tLam T (TTanO K (.ref cA) (.ref cB) (.ref cC) (spSort K x0 x1 x2 x3 x4)) t) tNil))) rest D σ H := by
  obtain ⟨ls, h1, h2, h3⟩ := R
  refine ⟨_, hg, .inl ⟨rfl, _, SqL.of h1⟩, hT, fun H8 e8 hT8 f8 => hbody H8 _ _ (e.trans e8) (up_of xm he (dq_ext (e.trans e8) hv) ok fun l H9 s9 hl => ?_)⟩
  have h9 := s9 _ _ (e8 _ _ h1 (fun _ z => by cases z))
  refine ⟨g, _, .ref l, rfl, rfl, h9, ?_, ?_⟩
  · rw [List.length_map, h2]
    have : (20 : Nat) < sizeLine := by decide
    omega
  · refine k _ (fun b o h z => ?_) (tabs_upd h9 (hT8.ext s9)) ⟨ls ++ [l], ?_, by rw [List.length_append, h2]; rfl, fun m hm => ?_⟩
    · have nb : b ≠ g := fun w => by rw [w, hb] at h; cases h
      rw [upd_ne nb]
      exact s9 _ _ ((e.trans e8) _ _ h z)
    · rw [upd_same, List.map_append]
      rfl
    · have hm' : H9 m = some (.lst [.str n, .str d.shown]) := by
        rcases List.mem_append.mp hm with q | q
        · exact s9 _ _ (e8 _ _ (h3 m q) (fun _ z => by cases z))
        · rw [List.mem_singleton.mp q]
          exact hl
      have nb : m ≠ g := fun w => by
        rw [w, h9] at hm'
        injection hm' with hm'
        injection hm' with hm'
        cases ls <;> cases hm'
      rw [upd_ne nb]
      exact hm'
/-- one of values of any kind -/
theorem any_q {ta : TA} {ds : List PyData} {p : Addr} {i : Nat} {Q : VK} (h : EvQs K p ta ds) (hp : Pail H p) (hl : ds.length ≤ 100) (h0 : 0 < ds.length) (hi : σ[i]? = some (some (.ref p)))
    (k : ∀ w e H', e ∈ ds → Dq K (delH H' p) w e → Pail H' p → But p H H' → Q w H') : tCallG spAny (tCons (tVar i) (tCons (tLst ta) tNil)) σ H Q := by
  refine ⟨_, hi, h σ H hp _ fun vs H1 s1 d1 => ?_⟩
  have hlen := Paired.length d1
  refine ⟨Nat.le_of_lt (small1000 (by omega)), fun r hr => ?_⟩
  have s2 : Same H1 (upd H1 r (.lst vs)) := same_of hr
  refine ⟨p, r, vs, rfl, (hp.same s1).ne hr, upd_same, by omega, by omega, (hp.same s1).same s2, fun v H2 hv hp2 bt => ?_⟩
  obtain ⟨e, he, hq⟩ := paired_mem (paired_same (But.of s2).del d1) hv
  exact k v e H2 he (dq_same bt.del hq) hp2 ((But.of (s1.trans s2)).trans bt)
end
end Lamp
set_option Elab.async false
set_option linter.all false
set_option maxRecDepth 100000
set_option maxHeartbeats 4000000
namespace Lamp
open PySem PySem.Spec PyProof.Rows L2 LamX
/-! what all functions say to what they refuse -/
theorem rnd_ext {K : PySem.W.Frag} {C a : Addr} {H H' : Hp} {lv fin : Int} {ls : List (Int × Int)} (h : RndW K C H a lv fin ls) (e : ExtN H H') : RndW K C H' a lv fin ls := by
  obtain ⟨⟨t, ⟨d, h1⟩, as, h2, h3⟩, h4, h5⟩ := h
  refine ⟨⟨t, ⟨d, e _ _ h1 (fun _ z => nomatch z)⟩, as, ?_, L2.Paired.mapP h3 fun _ _ z => e _ _ z (fun _ z => nomatch z)⟩, h4, h5⟩
  rcases h2 with h2 | ⟨o, h2⟩
  · exact .inl (e _ _ h2 (fun _ z => nomatch z))
  · exact .inr ⟨o, e _ _ h2 (fun _ z => nomatch z)⟩
theorem lot_ext {K : PySem.W.Frag} {C L a t : Addr} {H H' : Hp} {rs : List Parts} (h : LotAt K C L H a t rs) (e : ExtN H H') : LotAt K C L H' a t rs := by
  obtain ⟨⟨dx, h1⟩, as, h2, h3⟩ := h
  refine ⟨⟨dx, e _ _ h1 (fun _ z => nomatch z)⟩, as, ?_, L2.Paired.mapP h3 fun _ _ z => rnd_ext z e⟩
  rcases h2 with (h2 | ⟨o, h2⟩) | h2
  · exact .inl (.inl (e _ _ h2 (fun _ z => nomatch z)))
  · exact .inl (.inr ⟨o, e _ _ h2 (fun _ z => nomatch z)⟩)
  · exact .inr h2
section
variable {Y : Cx} {sp : Sp} {f x y z : Str} {ps : List Str} {i j l k : Nat} {E : XK} {p1 p2 p3 p4 p5 : Pos}
theorem pe_body1 (Z : DrX Y.prog Y.w Y.K Y.mg Y.base sp f ps k) (hk : k ≤ 9) (hr : Room 9 Y.A) (hx : Passes (L2.CX Y.prog Y.w) Y E) (g : Gl Y f) (ex : PE Y (.Name x p2) (tVar i)) (hdb : (f == ("__debug__" : Str)) = false := by decide) :
    PE Y (.Call (.Name f p1) [.Name x p2] [] p5) (tCallX sp E (tCons (tVar i) tNil)) := pe_drX Z hk hr g hx (pa_cons ex pa_nil) hdb
theorem pe_body2 (Z : DrX Y.prog Y.w Y.K Y.mg Y.base sp f ps k) (hk : k ≤ 9) (hr : Room 9 Y.A) (hx : Passes (L2.CX Y.prog Y.w) Y E) (g : Gl Y f) (ex : PE Y (.Name x p2) (tVar i)) (ey : PE Y (.Name y p3) (tVar j)) (hdb : (f == ("__debug__" : Str)) = false := by decide) :
    PE Y (.Call (.Name f p1) [.Name x p2, .Name y p3] [] p5) (tCallX sp E (tCons (tVar i) (tCons (tVar j) tNil))) := pe_drX Z hk hr g hx (pa_cons ex (pa_cons ey pa_nil)) hdb
theorem pe_body3 (Z : DrX Y.prog Y.w Y.K Y.mg Y.base sp f ps k) (hk : k ≤ 9) (hr : Room 9 Y.A) (hx : Passes (L2.CX Y.prog Y.w) Y E) (g : Gl Y f) (ex : PE Y (.Name x p2) (tVar i)) (ey : PE Y (.Name y p3) (tVar j)) (ez : PE Y (.Name z p4) (tVar l)) (hdb : (f == ("__debug__" : Str)) = false := by decide) :
    PE Y (.Call (.Name f p1) [.Name x p2, .Name y p3, .Name z p4] [] p5) (tCallX sp E (tCons (tVar i) (tCons (tVar j) (tCons (tVar l) tNil)))) := pe_drX Z hk hr g hx (pa_cons ex (pa_cons ey (pa_cons ez pa_nil))) hdb
end
def spAsk (K : PySem.W.Frag) (n : Str) (k : Nat) (T : List (Addr × Str)) : Sp := fun vs H Q _ => ∃ (v o : V) (d e : PyData), vs = [v, o] ∧ Dq K H v d ∧ okD d = true ∧ Dq K H o e ∧ Tabs T H ∧ ∀ g H', ExtN H H' → Tabs T H' → Row H' g n d.shown k → Q (.ref g) H'
def spSec (K : PySem.W.Frag) (C L : Addr) (T : List (Addr × Str)) : Sp := fun vs H Q _ => ∃ (a t b : Addr) (v : V) (d : PyData) (rs : List Parts) (lv fin : Int) (ls : List (Int × Int)), vs = [.ref a, .ref b, v] ∧ LotAt K C L H a t rs ∧ RndW K C H b lv fin ls ∧ Dq K H v d ∧ okD d = true ∧ Tabs T H ∧
  ∀ g H', ExtN H H' → Tabs T H' → Row H' g "NotRound" d.shown 7 → Q (.ref g) H'
section
variable {P : Program} {w : World} {K : PySem.W.Frag} {mg : Str → Option Value} {base : Heap} {C L xL xR xN xO xT cA cB cC : Addr}
theorem scAsk : FnScope ["_law_bad", "_law_odd", "_law_got"] ["_law_bad", "_law_odd"] (defScope sAsk) := ⟨rfl, rfl, rfl, by decide +kernel, rfl, by decide +kernel, by decide +kernel⟩
theorem scAskL : FnScope ["_law_bad", "_law_odd", "_law_got"] ["_law_bad", "_law_odd"] (defScope sAskL) := ⟨rfl, rfl, rfl, by decide +kernel, rfl, by decide +kernel, by decide +kernel⟩
theorem scSec : FnScope ["_law_mine", "_law_near", "_law_bad", "_law_got"] ["_law_mine", "_law_near", "_law_bad"] (defScope sSec) := ⟨rfl, rfl, rfl, by decide +kernel, rfl, by decide +kernel, by decide +kernel⟩
theorem ok_ask {f c Pt : Addr} {fd : FuncData} {T : List (Addr × Str)} (F : Fun K "_law_rounds_asked" "_law_rounds_asked" sAsk f fd) (hcd : fd.code = .ref c) (TB : TabB base mg c Pt) (hmT : (Pt, qA) ∈ T) (hu : ∀ p ∈ T, p.1 = Pt → p.2 = qA) (Aw : AnsO P w K mg base cA cB cC (spSort K xN xL xR xO xT) 2)
    (IsA : DrX P w K mg base (spRsE K C xR xO) "is_alike" ["trip", "second"] 5) (Al : DrX P w K mg base (spAlE K C xR xO xT) "alike" ["trip", "second"] 6) (Com : DrX P w K mg base (spRsE K C xR xO) "commute" ["trip", "second"] 5) (Rt : DrX P w K mg base (spRtE K C xR xN) "root" ["trip", "times"] 4) (CAl : DrX P w K mg base (spAlE K C xR xO xT) "certify_alike" ["trip", "second"] 7) (CRtK : DrKX P w K mg base (spRtE K C xR xN) "certify_root" ["trip", "times"] 5 0 ["trip", "times"]) (CSt : DrX P w K mg base (sp1E K xR) "certify_steps" ["trip"] 5) (xm : PySem.W.exmAny K (.ref xR) [.ref cA, .ref cB, .ref cC] = some true) : FnG P w K mg base 12 f fd ["_law_bad", "_law_odd"] (spAsk K "NotRound" 7 T) := by
  refine okGC F scAsk (fun vs H Q E h => ?_) (fun cdv A outer s H vs Q E hcv hgd hr h => ?_)
  · obtain ⟨v, o, d, e, rfl, _⟩ := h
    rfl
  · obtain ⟨v, o, d, e, rfl, hv, ok, ho, hT, q⟩ := h
    have ec : cdv = .ref c := hcv.symm.trans hcd
    subst ec
    refine ⟨_, pss_cons (ps_set (i := 2) scAsk.nd rfl (.inl rfl) (pe_lst (pa_cons (pe_ansO (t := fun E => tCallX (spRsE K C xR xO) E (tCons (tVar 0) (tCons (tVar 1) tNil))) (k := 9) Aw (by decide) hgd hr rfl TB rfl hmT hu (lamS_by (by show lamSB (defScope sAsk) _ = true; decide +kernel)) rfl (fun _ _ _ _ _ => rfl)
            (fun A' outer' s' H' E' f' c' hr' => by
              refine pe_body2 IsA ?_ ?_ ?_ ?_ ?_ ?_
              · decide
              · exact hr'
              · exact passes_lam2
              · rfl
              · exact pv 0 rfl (.inr (.inr rfl))
              · exact pv 1 rfl (.inr (.inr rfl)))) pa_nil)))
      (pss_cons (ps_expr (pe_bm PySem.F.plainAttrs_list PySem.F.slot_list_append PySem.F.type_list_append mt_append (pv 2) (pa_cons (pe_ansO (t := fun E => tCallX (spAlE K C xR xO xT) E (tCons (tVar 0) (tCons (tVar 1) tNil))) (k := 9) Aw (by decide) hgd hr rfl TB rfl hmT hu (lamS_by (by show lamSB (defScope sAsk) _ = true; decide +kernel)) rfl (fun _ _ _ _ _ => rfl)
            (fun A' outer' s' H' E' f' c' hr' => by
              refine pe_body2 Al ?_ ?_ ?_ ?_ ?_ ?_
              · decide
              · exact hr'
              · exact passes_lam2
              · rfl
              · exact pv 0 rfl (.inr (.inr rfl))
              · exact pv 1 rfl (.inr (.inr rfl)))) pa_nil)))
      (pss_cons (ps_expr (pe_bm PySem.F.plainAttrs_list PySem.F.slot_list_append PySem.F.type_list_append mt_append (pv 2) (pa_cons (pe_ansO (t := fun E => tCallX (spRsE K C xR xO) E (tCons (tVar 0) (tCons (tVar 1) tNil))) (k := 9) Aw (by decide) hgd hr rfl TB rfl hmT hu (lamS_by (by show lamSB (defScope sAsk) _ = true; decide +kernel)) rfl (fun _ _ _ _ _ => rfl)
            (fun A' outer' s' H' E' f' c' hr' => by
              refine pe_body2 Com ?_ ?_ ?_ ?_ ?_ ?_
              · decide
              · exact hr'
              · exact passes_lam2
              · rfl
              · exact pv 0 rfl (.inr (.inr rfl))
              · exact pv 1 rfl (.inr (.inr rfl)))) pa_nil)))
      (pss_cons (ps_expr (pe_bm PySem.F.plainAttrs_list PySem.F.slot_list_append PySem.F.type_list_append mt_append (pv 2) (pa_cons (pe_ansO (t := fun E => tCallX (spRtE K C xR xN) E (tCons (tVar 0) (tCons (tVar 1) tNil))) (k := 9) Aw (by decide) hgd hr rfl TB rfl hmT hu (lamS_by (by show lamSB (defScope sAsk) _ = true; decide +kernel)) rfl (fun _ _ _ _ _ => rfl)
            (fun A' outer' s' H' E' f' c' hr' => by
              refine pe_body2 Rt ?_ ?_ ?_ ?_ ?_ ?_
              · decide
              · exact hr'
              · exact passes_lam2
              · rfl
              · exact pv 0 rfl (.inr (.inr rfl))
              · exact pv 1 rfl (.inr (.inr rfl)))) pa_nil)))
      (pss_cons (ps_expr (pe_bm PySem.F.plainAttrs_list PySem.F.slot_list_append PySem.F.type_list_append mt_append (pv 2) (pa_cons (pe_ansO (t := fun E => tCallX (spAlE K C xR xO xT) E (tCons (tVar 0) (tCons (tVar 1) tNil))) (k := 9) Aw (by decide) hgd hr rfl TB rfl hmT hu (lamS_by (by show lamSB (defScope sAsk) _ = true; decide +kernel)) rfl (fun _ _ _ _ _ => rfl)
            (fun A' outer' s' H' E' f' c' hr' => by
              refine pe_body2 CAl ?_ ?_ ?_ ?_ ?_ ?_
              · decide
              · exact hr'
              · exact passes_lam2
              · rfl
              · exact pv 0 rfl (.inr (.inr rfl))
              · exact pv 1 rfl (.inr (.inr rfl)))) pa_nil)))
      (pss_cons (ps_expr (pe_bm PySem.F.plainAttrs_list PySem.F.slot_list_append PySem.F.type_list_append mt_append (pv 2) (pa_cons (pe_ansO (t := fun E => tCallKX 0 2 (spRtE K C xR xN) E tNil (tCons (tVar 0) (tCons (tVar 1) tNil))) (k := 9) Aw (by decide) hgd hr rfl TB rfl hmT hu (lamS_by (by show lamSB (defScope sAsk) _ = true; decide +kernel)) rfl (fun _ _ _ _ _ => rfl)
            (fun A' outer' s' H' E' f' c' hr' => by
              refine pe_drKX0 CRtK (j := 9) ?_ ?_ ?_ ?_ ?_
              · decide
              · exact hr'
              · rfl
              · exact passes_lam2
              · exact (pk_cons (pv 0 rfl (.inr (.inr rfl))) (pk_cons (pv 1 rfl (.inr (.inr rfl))) pk_nil)))) pa_nil)))
      (pss_cons (ps_expr (pe_bm PySem.F.plainAttrs_list PySem.F.slot_list_append PySem.F.type_list_append mt_append (pv 2) (pa_cons (pe_ansO (t := fun E => tCallX (sp1E K xR) E (tCons (tVar 0) tNil)) (k := 9) Aw (by decide) hgd hr rfl TB rfl hmT hu (lamS_by (by show lamSB (defScope sAsk) _ = true; decide +kernel)) rfl (fun _ _ _ _ _ => rfl)
            (fun A' outer' s' H' E' f' c' hr' => by
              refine pe_body1 CSt ?_ ?_ ?_ ?_ ?_
              · decide
              · exact hr'
              · exact passes_lam2
              · rfl
              · exact pv 0 rfl (.inr (.inr rfl)))) pa_nil)))
      (pss_one (ps_ret (pv 2))))))))), ?_⟩

    refine got_new (i := 2) (v := v) (d := d) (n := "NotRound") (x := xR) hT ok hv xm (.inr (.inr (.inl ⟨rfl, rfl, rfl⟩))) (fun H8 E Q e8 up => ⟨_, rfl, _, rfl, v, o, rfl, .inl ⟨_, an_dq (dq_ext e8 hv), up⟩⟩) fun g Hb H1 eb nb e1 hT1 R1 => ?_
    have hvb := dq_ext eb hv
    refine got_add (i := 2) (v := v) (d := d) (n := "NotRound") (x := xR) rfl R1 (by decide) nb e1 hT1 ok hvb xm (.inr (.inr (.inl ⟨rfl, rfl, rfl⟩))) (fun H8 E Q e8 up => ⟨_, rfl, _, rfl, v, o, rfl, .inl (.inl ⟨_, an_dq (dq_ext e8 hvb), up⟩)⟩) fun H2 e2 hT2 R2 => ?_
    refine got_add (i := 2) (v := v) (d := d) (n := "NotRound") (x := xR) rfl R2 (by decide) nb e2 hT2 ok hvb xm (.inr (.inr (.inl ⟨rfl, rfl, rfl⟩))) (fun H8 E Q e8 up => ⟨_, rfl, _, rfl, v, o, rfl, .inl ⟨_, an_dq (dq_ext e8 hvb), up⟩⟩) fun H3 e3 hT3 R3 => ?_
    refine got_add (i := 2) (v := v) (d := d) (n := "NotRound") (x := xR) rfl R3 (by decide) nb e3 hT3 ok hvb xm (.inr (.inr (.inl ⟨rfl, rfl, rfl⟩))) (fun H8 E Q e8 up => ⟨_, rfl, _, rfl, v, o, rfl, .inl ⟨_, an_dq (dq_ext e8 hvb), up⟩⟩) fun H4 e4 hT4 R4 => ?_
    refine got_add (i := 2) (v := v) (d := d) (n := "NotRound") (x := xR) rfl R4 (by decide) nb e4 hT4 ok hvb xm (.inr (.inr (.inl ⟨rfl, rfl, rfl⟩))) (fun H8 E Q e8 up => ⟨_, rfl, _, rfl, v, o, rfl, .inl (.inl ⟨_, an_dq (dq_ext e8 hvb), up⟩)⟩) fun H5 e5 hT5 R5 => ?_
    refine got_add (i := 2) (v := v) (d := d) (n := "NotRound") (x := xR) rfl R5 (by decide) nb e5 hT5 ok hvb xm (.inr (.inr (.inl ⟨rfl, rfl, rfl⟩))) (fun H8 E Q e8 up => ⟨_, rfl, _, rfl, rfl, rfl, v, o, rfl, .inl ⟨_, an_dq (dq_ext e8 hvb), up⟩⟩) fun H6 e6 hT6 R6 => ?_
    refine got_add (i := 2) (v := v) (d := d) (n := "NotRound") (x := xR) rfl R6 (by decide) nb e6 hT6 ok hvb xm (.inr (.inr (.inl ⟨rfl, rfl, rfl⟩))) (fun H8 E Q e8 up => ⟨_, rfl, v, rfl, _, an_dq (dq_ext e8 hvb), up⟩) fun H7 e7 hT7 R7 => ?_
    exact ⟨_, rfl, q g H7 (eb.trans e7) hT7 R7⟩
theorem ok_askL {f c Pt : Addr} {fd : FuncData} {T : List (Addr × Str)} (F : Fun K "_law_lots_asked" "_law_lots_asked" sAskL f fd) (hcd : fd.code = .ref c) (TB : TabB base mg c Pt) (hmT : (Pt, qB) ∈ T) (hu : ∀ p ∈ T, p.1 = Pt → p.2 = qB) (Aw : AnsO P w K mg base cA cB cC (spSort K xN xL xR xO xT) 2)
    (Fm : DrX P w K mg base (sp1E K xL) "form" ["lot"] 4) (CoK : DrKX P w K mg base (sp1E K xL) "cosets" ["lot"] 4 0 ["lot"]) (Mk : DrX P w K mg base (spLrE K C L xL xR xT) "makes" ["lot", "trip"] 7) (Pl : DrX P w K mg base (spLrE K C L xL xR xT) "plan" ["lot", "trip"] 7) (Doi : DrX P w K mg base (sp2E K xL) "doing" ["lot", "plan"] 4) (Sa : DrX P w K mg base (spLsE K C L xL) "same" ["lot", "other"] 5) (Wi : DrX P w K mg base (spLsE K C L xL) "within" ["lot", "other"] 5) (Ne : DrX P w K mg base (sp1E K xL) "needless" ["lot"] 4) (Ho : DrX P w K mg base (sp2E K xL) "holds" ["lot", "wish"] 4) (Me : DrX P w K mg base (sp3E K xL) "mends" ["lot", "wishes", "changes"] 4) (CMa : DrX P w K mg base (spLrE K C L xL xR xT) "certify_made" ["lot", "trip"] 8) (CSa : DrX P w K mg base (spLsE K C L xL) "certify_same" ["lot", "other"] 6) (xm : PySem.W.exmAny K (.ref xL) [.ref cA, .ref cB, .ref cC] = some true) : FnG P w K mg base 12 f fd ["_law_bad", "_law_odd"] (spAsk K "NotLot" 12 T) := by
  refine okGC F scAskL (fun vs H Q E h => ?_) (fun cdv A outer s H vs Q E hcv hgd hr h => ?_)
  · obtain ⟨v, o, d, e, rfl, _⟩ := h
    rfl
  · obtain ⟨v, o, d, e, rfl, hv, ok, ho, hT, q⟩ := h
    have ec : cdv = .ref c := hcv.symm.trans hcd
    subst ec
    refine ⟨_, pss_cons (ps_set (i := 2) scAskL.nd rfl (.inl rfl) (pe_lst (pa_cons (pe_ansO (t := fun E => tCallX (sp1E K xL) E (tCons (tVar 0) tNil)) (k := 9) Aw (by decide) hgd hr rfl TB rfl hmT hu (lamS_by (by show lamSB (defScope sAskL) _ = true; decide +kernel)) rfl (fun _ _ _ _ _ => rfl)
            (fun A' outer' s' H' E' f' c' hr' => by
              refine pe_body1 Fm ?_ ?_ ?_ ?_ ?_
              · decide
              · exact hr'
              · exact passes_lam2
              · rfl
              · exact pv 0 rfl (.inr (.inr rfl)))) pa_nil)))
      (pss_cons (ps_expr (pe_bm PySem.F.plainAttrs_list PySem.F.slot_list_append PySem.F.type_list_append mt_append (pv 2) (pa_cons (pe_ansO (t := fun E => tCallKX 0 1 (sp1E K xL) E tNil (tCons (tVar 0) tNil)) (k := 9) Aw (by decide) hgd hr rfl TB rfl hmT hu (lamS_by (by show lamSB (defScope sAskL) _ = true; decide +kernel)) rfl (fun _ _ _ _ _ => rfl)
            (fun A' outer' s' H' E' f' c' hr' => by
              refine pe_drKX0 CoK (j := 9) ?_ ?_ ?_ ?_ ?_
              · decide
              · exact hr'
              · rfl
              · exact passes_lam2
              · exact (pk_cons (pv 0 rfl (.inr (.inr rfl))) pk_nil))) pa_nil)))
      (pss_cons (ps_expr (pe_bm PySem.F.plainAttrs_list PySem.F.slot_list_append PySem.F.type_list_append mt_append (pv 2) (pa_cons (pe_ansO (t := fun E => tCallX (spLrE K C L xL xR xT) E (tCons (tVar 0) (tCons (tVar 1) tNil))) (k := 9) Aw (by decide) hgd hr rfl TB rfl hmT hu (lamS_by (by show lamSB (defScope sAskL) _ = true; decide +kernel)) rfl (fun _ _ _ _ _ => rfl)
            (fun A' outer' s' H' E' f' c' hr' => by
              refine pe_body2 Mk ?_ ?_ ?_ ?_ ?_ ?_
              · decide
              · exact hr'
              · exact passes_lam2
              · rfl
              · exact pv 0 rfl (.inr (.inr rfl))
              · exact pv 1 rfl (.inr (.inr rfl)))) pa_nil)))
      (pss_cons (ps_expr (pe_bm PySem.F.plainAttrs_list PySem.F.slot_list_append PySem.F.type_list_append mt_append (pv 2) (pa_cons (pe_ansO (t := fun E => tCallX (spLrE K C L xL xR xT) E (tCons (tVar 0) (tCons (tVar 1) tNil))) (k := 9) Aw (by decide) hgd hr rfl TB rfl hmT hu (lamS_by (by show lamSB (defScope sAskL) _ = true; decide +kernel)) rfl (fun _ _ _ _ _ => rfl)
            (fun A' outer' s' H' E' f' c' hr' => by
              refine pe_body2 Pl ?_ ?_ ?_ ?_ ?_ ?_
              · decide
              · exact hr'
              · exact passes_lam2
              · rfl
              · exact pv 0 rfl (.inr (.inr rfl))
              · exact pv 1 rfl (.inr (.inr rfl)))) pa_nil)))
      (pss_cons (ps_expr (pe_bm PySem.F.plainAttrs_list PySem.F.slot_list_append PySem.F.type_list_append mt_append (pv 2) (pa_cons (pe_ansO (t := fun E => tCallX (sp2E K xL) E (tCons (tVar 0) (tCons (tVar 1) tNil))) (k := 9) Aw (by decide) hgd hr rfl TB rfl hmT hu (lamS_by (by show lamSB (defScope sAskL) _ = true; decide +kernel)) rfl (fun _ _ _ _ _ => rfl)
            (fun A' outer' s' H' E' f' c' hr' => by
              refine pe_body2 Doi ?_ ?_ ?_ ?_ ?_ ?_
              · decide
              · exact hr'
              · exact passes_lam2
              · rfl
              · exact pv 0 rfl (.inr (.inr rfl))
              · exact pv 1 rfl (.inr (.inr rfl)))) pa_nil)))
      (pss_cons (ps_expr (pe_bm PySem.F.plainAttrs_list PySem.F.slot_list_append PySem.F.type_list_append mt_append (pv 2) (pa_cons (pe_ansO (t := fun E => tCallX (spLsE K C L xL) E (tCons (tVar 0) (tCons (tVar 1) tNil))) (k := 9) Aw (by decide) hgd hr rfl TB rfl hmT hu (lamS_by (by show lamSB (defScope sAskL) _ = true; decide +kernel)) rfl (fun _ _ _ _ _ => rfl)
            (fun A' outer' s' H' E' f' c' hr' => by
              refine pe_body2 Sa ?_ ?_ ?_ ?_ ?_ ?_
              · decide
              · exact hr'
              · exact passes_lam2
              · rfl
              · exact pv 0 rfl (.inr (.inr rfl))
              · exact pv 1 rfl (.inr (.inr rfl)))) pa_nil)))
      (pss_cons (ps_expr (pe_bm PySem.F.plainAttrs_list PySem.F.slot_list_append PySem.F.type_list_append mt_append (pv 2) (pa_cons (pe_ansO (t := fun E => tCallX (spLsE K C L xL) E (tCons (tVar 0) (tCons (tVar 1) tNil))) (k := 9) Aw (by decide) hgd hr rfl TB rfl hmT hu (lamS_by (by show lamSB (defScope sAskL) _ = true; decide +kernel)) rfl (fun _ _ _ _ _ => rfl)
            (fun A' outer' s' H' E' f' c' hr' => by
              refine pe_body2 Wi ?_ ?_ ?_ ?_ ?_ ?_
              · decide
              · exact hr'
              · exact passes_lam2
              · rfl
              · exact pv 0 rfl (.inr (.inr rfl))
              · exact pv 1 rfl (.inr (.inr rfl)))) pa_nil)))
      (pss_cons (ps_expr (pe_bm PySem.F.plainAttrs_list PySem.F.slot_list_append PySem.F.type_list_append mt_append (pv 2) (pa_cons (pe_ansO (t := fun E => tCallX (sp1E K xL) E (tCons (tVar 0) tNil)) (k := 9) Aw (by decide) hgd hr rfl TB rfl hmT hu (lamS_by (by show lamSB (defScope sAskL) _ = true; decide +kernel)) rfl (fun _ _ _ _ _ => rfl)
            (fun A' outer' s' H' E' f' c' hr' => by
              refine pe_body1 Ne ?_ ?_ ?_ ?_ ?_
              · decide
              · exact hr'
              · exact passes_lam2
              · rfl
              · exact pv 0 rfl (.inr (.inr rfl)))) pa_nil)))
      (pss_cons (ps_expr (pe_bm PySem.F.plainAttrs_list PySem.F.slot_list_append PySem.F.type_list_append mt_append (pv 2) (pa_cons (pe_ansO (t := fun E => tCallX (sp2E K xL) E (tCons (tVar 0) (tCons (tVar 1) tNil))) (k := 9) Aw (by decide) hgd hr rfl TB rfl hmT hu (lamS_by (by show lamSB (defScope sAskL) _ = true; decide +kernel)) rfl (fun _ _ _ _ _ => rfl)
            (fun A' outer' s' H' E' f' c' hr' => by
              refine pe_body2 Ho ?_ ?_ ?_ ?_ ?_ ?_
              · decide
              · exact hr'
              · exact passes_lam2
              · rfl
              · exact pv 0 rfl (.inr (.inr rfl))
              · exact pv 1 rfl (.inr (.inr rfl)))) pa_nil)))
      (pss_cons (ps_expr (pe_bm PySem.F.plainAttrs_list PySem.F.slot_list_append PySem.F.type_list_append mt_append (pv 2) (pa_cons (pe_ansO (t := fun E => tCallX (sp3E K xL) E (tCons (tVar 0) (tCons (tVar 1) (tCons (tVar 1) tNil)))) (k := 9) Aw (by decide) hgd hr rfl TB rfl hmT hu (lamS_by (by show lamSB (defScope sAskL) _ = true; decide +kernel)) rfl (fun _ _ _ _ _ => rfl)
            (fun A' outer' s' H' E' f' c' hr' => by
              refine pe_body3 Me ?_ ?_ ?_ ?_ ?_ ?_ ?_
              · decide
              · exact hr'
              · exact passes_lam2
              · rfl
              · exact pv 0 rfl (.inr (.inr rfl))
              · exact pv 1 rfl (.inr (.inr rfl))
              · exact pv 1 rfl (.inr (.inr rfl)))) pa_nil)))
      (pss_cons (ps_expr (pe_bm PySem.F.plainAttrs_list PySem.F.slot_list_append PySem.F.type_list_append mt_append (pv 2) (pa_cons (pe_ansO (t := fun E => tCallX (spLrE K C L xL xR xT) E (tCons (tVar 0) (tCons (tVar 1) tNil))) (k := 9) Aw (by decide) hgd hr rfl TB rfl hmT hu (lamS_by (by show lamSB (defScope sAskL) _ = true; decide +kernel)) rfl (fun _ _ _ _ _ => rfl)
            (fun A' outer' s' H' E' f' c' hr' => by
              refine pe_body2 CMa ?_ ?_ ?_ ?_ ?_ ?_
              · decide
              · exact hr'
              · exact passes_lam2
              · rfl
              · exact pv 0 rfl (.inr (.inr rfl))
              · exact pv 1 rfl (.inr (.inr rfl)))) pa_nil)))
      (pss_cons (ps_expr (pe_bm PySem.F.plainAttrs_list PySem.F.slot_list_append PySem.F.type_list_append mt_append (pv 2) (pa_cons (pe_ansO (t := fun E => tCallX (spLsE K C L xL) E (tCons (tVar 0) (tCons (tVar 1) tNil))) (k := 9) Aw (by decide) hgd hr rfl TB rfl hmT hu (lamS_by (by show lamSB (defScope sAskL) _ = true; decide +kernel)) rfl (fun _ _ _ _ _ => rfl)
            (fun A' outer' s' H' E' f' c' hr' => by
              refine pe_body2 CSa ?_ ?_ ?_ ?_ ?_ ?_
              · decide
              · exact hr'
              · exact passes_lam2
              · rfl
              · exact pv 0 rfl (.inr (.inr rfl))
              · exact pv 1 rfl (.inr (.inr rfl)))) pa_nil)))
      (pss_one (ps_ret (pv 2)))))))))))))), ?_⟩

    refine got_new (i := 2) (v := v) (d := d) (n := "NotLot") (x := xL) hT ok hv xm (.inr (.inl ⟨rfl, rfl, rfl⟩)) (fun H8 E Q e8 up => ⟨_, rfl, v, rfl, _, an_dq (dq_ext e8 hv), up⟩) fun g Hb H1 eb nb e1 hT1 R1 => ?_
    have hvb := dq_ext eb hv
    refine got_add (i := 2) (v := v) (d := d) (n := "NotLot") (x := xL) rfl R1 (by decide) nb e1 hT1 ok hvb xm (.inr (.inl ⟨rfl, rfl, rfl⟩)) (fun H8 E Q e8 up => ⟨_, rfl, rfl, rfl, v, rfl, _, an_dq (dq_ext e8 hvb), up⟩) fun H2 e2 hT2 R2 => ?_
    refine got_add (i := 2) (v := v) (d := d) (n := "NotLot") (x := xL) rfl R2 (by decide) nb e2 hT2 ok hvb xm (.inr (.inl ⟨rfl, rfl, rfl⟩)) (fun H8 E Q e8 up => ⟨_, rfl, _, rfl, v, o, rfl, .inl ⟨_, an_dq (dq_ext e8 hvb), up⟩⟩) fun H3 e3 hT3 R3 => ?_
    refine got_add (i := 2) (v := v) (d := d) (n := "NotLot") (x := xL) rfl R3 (by decide) nb e3 hT3 ok hvb xm (.inr (.inl ⟨rfl, rfl, rfl⟩)) (fun H8 E Q e8 up => ⟨_, rfl, _, rfl, v, o, rfl, .inl ⟨_, an_dq (dq_ext e8 hvb), up⟩⟩) fun H4 e4 hT4 R4 => ?_
    refine got_add (i := 2) (v := v) (d := d) (n := "NotLot") (x := xL) rfl R4 (by decide) nb e4 hT4 ok hvb xm (.inr (.inl ⟨rfl, rfl, rfl⟩)) (fun H8 E Q e8 up => ⟨_, rfl, _, rfl, v, o, rfl, _, an_dq (dq_ext e8 hvb), up⟩) fun H5 e5 hT5 R5 => ?_
    refine got_add (i := 2) (v := v) (d := d) (n := "NotLot") (x := xL) rfl R5 (by decide) nb e5 hT5 ok hvb xm (.inr (.inl ⟨rfl, rfl, rfl⟩)) (fun H8 E Q e8 up => ⟨_, rfl, _, rfl, v, o, rfl, .inl ⟨_, an_dq (dq_ext e8 hvb), up⟩⟩) fun H6 e6 hT6 R6 => ?_
    refine got_add (i := 2) (v := v) (d := d) (n := "NotLot") (x := xL) rfl R6 (by decide) nb e6 hT6 ok hvb xm (.inr (.inl ⟨rfl, rfl, rfl⟩)) (fun H8 E Q e8 up => ⟨_, rfl, _, rfl, v, o, rfl, .inl ⟨_, an_dq (dq_ext e8 hvb), up⟩⟩) fun H7 e7 hT7 R7 => ?_
    refine got_add (i := 2) (v := v) (d := d) (n := "NotLot") (x := xL) rfl R7 (by decide) nb e7 hT7 ok hvb xm (.inr (.inl ⟨rfl, rfl, rfl⟩)) (fun H8 E Q e8 up => ⟨_, rfl, v, rfl, _, an_dq (dq_ext e8 hvb), up⟩) fun H8 e8 hT8 R8 => ?_
    refine got_add (i := 2) (v := v) (d := d) (n := "NotLot") (x := xL) rfl R8 (by decide) nb e8 hT8 ok hvb xm (.inr (.inl ⟨rfl, rfl, rfl⟩)) (fun H8 E Q e8 up => ⟨_, rfl, _, rfl, v, o, rfl, _, an_dq (dq_ext e8 hvb), up⟩) fun H9 e9 hT9 R9 => ?_
    refine got_add (i := 2) (v := v) (d := d) (n := "NotLot") (x := xL) rfl R9 (by decide) nb e9 hT9 ok hvb xm (.inr (.inl ⟨rfl, rfl, rfl⟩)) (fun H8 E Q e8 up => ⟨_, rfl, _, rfl, _, rfl, v, o, o, rfl, _, an_dq (dq_ext e8 hvb), up⟩) fun H10 e10 hT10 R10 => ?_
    refine got_add (i := 2) (v := v) (d := d) (n := "NotLot") (x := xL) rfl R10 (by decide) nb e10 hT10 ok hvb xm (.inr (.inl ⟨rfl, rfl, rfl⟩)) (fun H8 E Q e8 up => ⟨_, rfl, _, rfl, v, o, rfl, .inl ⟨_, an_dq (dq_ext e8 hvb), up⟩⟩) fun H11 e11 hT11 R11 => ?_
    refine got_add (i := 2) (v := v) (d := d) (n := "NotLot") (x := xL) rfl R11 (by decide) nb e11 hT11 ok hvb xm (.inr (.inl ⟨rfl, rfl, rfl⟩)) (fun H8 E Q e8 up => ⟨_, rfl, _, rfl, v, o, rfl, .inl ⟨_, an_dq (dq_ext e8 hvb), up⟩⟩) fun H12 e12 hT12 R12 => ?_
    exact ⟨_, rfl, q g H12 (eb.trans e12) hT12 R12⟩
theorem rnd_bad {b : Addr} {lv fin : Int} {ls : List (Int × Int)} {v : V} {u : T} {H : Hp} {E : XK} (h : RndW K C H b lv fin ls) (an : An K H v u) (up : Up E H xR v) :
    ∃ (a t : Addr) (lv' fin' : Int), (V.ref b) = .ref a ∧ RoundAt C H a lv' t fin' ∧ ((∃ u, An K H v u ∧ Up E H xR v) ∨ ∃ (b u : Addr) (lv'' fin'' : Int), v = .ref b ∧ RoundAt C H b lv'' u fin'' ∧ lv'' ≠ lv' ∧ Up E H xO (.int lv'')) := by
  obtain ⟨⟨t, h1, _⟩, _, _⟩ := h
  exact ⟨b, t, lv, fin, rfl, h1, .inl ⟨u, an, up⟩⟩
theorem ok_sec {f c Pt : Addr} {fd : FuncData} {T : List (Addr × Str)} (F : Fun K "_law_seconds" "_law_seconds" sSec f fd) (hcd : fd.code = .ref c) (TB : TabB base mg c Pt) (hmT : (Pt, qC) ∈ T) (hu : ∀ p ∈ T, p.1 = Pt → p.2 = qC) (Aw : AnsO P w K mg base cA cB cC (spSort K xN xL xR xO xT) 2)
    (IsA : DrX P w K mg base (spRsE K C xR xO) "is_alike" ["trip", "second"] 5) (AlK : DrKX P w K mg base (spAlE K C xR xO xT) "alike" ["trip", "second"] 6 1 ["second"]) (Com : DrX P w K mg base (spRsE K C xR xO) "commute" ["trip", "second"] 5) (CAl : DrX P w K mg base (spAlE K C xR xO xT) "certify_alike" ["trip", "second"] 7) (MkK : DrKX P w K mg base (spLrE K C L xL xR xT) "makes" ["lot", "trip"] 7 1 ["trip"]) (Pl : DrX P w K mg base (spLrE K C L xL xR xT) "plan" ["lot", "trip"] 7) (CMa : DrX P w K mg base (spLrE K C L xL xR xT) "certify_made" ["lot", "trip"] 8) (xm : PySem.W.exmAny K (.ref xR) [.ref cA, .ref cB, .ref cC] = some true) : FnG P w K mg base 12 f fd ["_law_mine", "_law_near", "_law_bad"] (spSec K C L T) := by
  refine okGC F scSec (fun vs H Q E h => ?_) (fun cdv A outer s H vs Q E hcv hgd hr h => ?_)
  · obtain ⟨a, t, b, v, d, rs, lv, fin, ls, rfl, _⟩ := h
    rfl
  · obtain ⟨a, t, b, v, d, rs, lv, fin, ls, rfl, hA, hB, hv, ok, hT, q⟩ := h
    have ec : cdv = .ref c := hcv.symm.trans hcd
    subst ec
    refine ⟨_, pss_cons (ps_set (i := 3) scSec.nd rfl (.inl rfl) (pe_lst (pa_cons (pe_ansO (t := fun E => tCallX (spRsE K C xR xO) E (tCons (tVar 1) (tCons (tVar 2) tNil))) (k := 9) Aw (by decide) hgd hr rfl TB rfl hmT hu (lamS_by (by show lamSB (defScope sSec) _ = true; decide +kernel)) rfl (fun _ _ _ _ _ => rfl)
            (fun A' outer' s' H' E' f' c' hr' => by
              refine pe_body2 IsA ?_ ?_ ?_ ?_ ?_ ?_
              · decide
              · exact hr'
              · exact passes_lam2
              · rfl
              · exact pv 1 rfl (.inr (.inr rfl))
              · exact pv 2 rfl (.inr (.inr rfl)))) pa_nil)))
      (pss_cons (ps_expr (pe_bm PySem.F.plainAttrs_list PySem.F.slot_list_append PySem.F.type_list_append mt_append (pv 3) (pa_cons (pe_ansO (t := fun E => tCallKX 1 1 (spAlE K C xR xO xT) E (tCons (tVar 1) tNil) (tCons (tVar 2) tNil)) (k := 9) Aw (by decide) hgd hr rfl TB rfl hmT hu (lamS_by (by show lamSB (defScope sSec) _ = true; decide +kernel)) rfl (fun _ _ _ _ _ => rfl)
            (fun A' outer' s' H' E' f' c' hr' => by
              refine pe_drKX AlK (j := 9) ?_ ?_ ?_ ?_ ?_ ?_
              · decide
              · exact hr'
              · rfl
              · exact passes_lam2
              · exact (pa_cons (pv 1 rfl (.inr (.inr rfl))) pa_nil)
              · exact (pk_cons (pv 2 rfl (.inr (.inr rfl))) pk_nil))) pa_nil)))
      (pss_cons (ps_expr (pe_bm PySem.F.plainAttrs_list PySem.F.slot_list_append PySem.F.type_list_append mt_append (pv 3) (pa_cons (pe_ansO (t := fun E => tCallX (spRsE K C xR xO) E (tCons (tVar 1) (tCons (tVar 2) tNil))) (k := 9) Aw (by decide) hgd hr rfl TB rfl hmT hu (lamS_by (by show lamSB (defScope sSec) _ = true; decide +kernel)) rfl (fun _ _ _ _ _ => rfl)
            (fun A' outer' s' H' E' f' c' hr' => by
              refine pe_body2 Com ?_ ?_ ?_ ?_ ?_ ?_
              · decide
              · exact hr'
              · exact passes_lam2
              · rfl
              · exact pv 1 rfl (.inr (.inr rfl))
              · exact pv 2 rfl (.inr (.inr rfl)))) pa_nil)))
      (pss_cons (ps_expr (pe_bm PySem.F.plainAttrs_list PySem.F.slot_list_append PySem.F.type_list_append mt_append (pv 3) (pa_cons (pe_ansO (t := fun E => tCallX (spAlE K C xR xO xT) E (tCons (tVar 1) (tCons (tVar 2) tNil))) (k := 9) Aw (by decide) hgd hr rfl TB rfl hmT hu (lamS_by (by show lamSB (defScope sSec) _ = true; decide +kernel)) rfl (fun _ _ _ _ _ => rfl)
            (fun A' outer' s' H' E' f' c' hr' => by
              refine pe_body2 CAl ?_ ?_ ?_ ?_ ?_ ?_
              · decide
              · exact hr'
              · exact passes_lam2
              · rfl
              · exact pv 1 rfl (.inr (.inr rfl))
              · exact pv 2 rfl (.inr (.inr rfl)))) pa_nil)))
      (pss_cons (ps_expr (pe_bm PySem.F.plainAttrs_list PySem.F.slot_list_append PySem.F.type_list_append mt_append (pv 3) (pa_cons (pe_ansO (t := fun E => tCallKX 1 1 (spLrE K C L xL xR xT) E (tCons (tVar 0) tNil) (tCons (tVar 2) tNil)) (k := 9) Aw (by decide) hgd hr rfl TB rfl hmT hu (lamS_by (by show lamSB (defScope sSec) _ = true; decide +kernel)) rfl (fun _ _ _ _ _ => rfl)
            (fun A' outer' s' H' E' f' c' hr' => by
              refine pe_drKX MkK (j := 9) ?_ ?_ ?_ ?_ ?_ ?_
              · decide
              · exact hr'
              · rfl
              · exact passes_lam2
              · exact (pa_cons (pv 0 rfl (.inr (.inr rfl))) pa_nil)
              · exact (pk_cons (pv 2 rfl (.inr (.inr rfl))) pk_nil))) pa_nil)))
      (pss_cons (ps_expr (pe_bm PySem.F.plainAttrs_list PySem.F.slot_list_append PySem.F.type_list_append mt_append (pv 3) (pa_cons (pe_ansO (t := fun E => tCallX (spLrE K C L xL xR xT) E (tCons (tVar 0) (tCons (tVar 2) tNil))) (k := 9) Aw (by decide) hgd hr rfl TB rfl hmT hu (lamS_by (by show lamSB (defScope sSec) _ = true; decide +kernel)) rfl (fun _ _ _ _ _ => rfl)
            (fun A' outer' s' H' E' f' c' hr' => by
              refine pe_body2 Pl ?_ ?_ ?_ ?_ ?_ ?_
              · decide
              · exact hr'
              · exact passes_lam2
              · rfl
              · exact pv 0 rfl (.inr (.inr rfl))
              · exact pv 2 rfl (.inr (.inr rfl)))) pa_nil)))
      (pss_cons (ps_expr (pe_bm PySem.F.plainAttrs_list PySem.F.slot_list_append PySem.F.type_list_append mt_append (pv 3) (pa_cons (pe_ansO (t := fun E => tCallX (spLrE K C L xL xR xT) E (tCons (tVar 0) (tCons (tVar 2) tNil))) (k := 9) Aw (by decide) hgd hr rfl TB rfl hmT hu (lamS_by (by show lamSB (defScope sSec) _ = true; decide +kernel)) rfl (fun _ _ _ _ _ => rfl)
            (fun A' outer' s' H' E' f' c' hr' => by
              refine pe_body2 CMa ?_ ?_ ?_ ?_ ?_ ?_
              · decide
              · exact hr'
              · exact passes_lam2
              · rfl
              · exact pv 0 rfl (.inr (.inr rfl))
              · exact pv 2 rfl (.inr (.inr rfl)))) pa_nil)))
      (pss_one (ps_ret (pv 3))))))))), ?_⟩

    refine got_new (i := 3) (v := v) (d := d) (n := "NotRound") (x := xR) hT ok hv xm (.inr (.inr (.inl ⟨rfl, rfl, rfl⟩))) (fun H8 E Q e8 up => ⟨_, rfl, _, rfl, _, v, rfl, .inr (rnd_bad (rnd_ext hB e8) (an_dq (dq_ext e8 hv)) up)⟩) fun g Hb H1 eb nb e1 hT1 R1 => ?_
    have hvb := dq_ext eb hv
    have hAb := lot_ext hA eb
    have hBb := rnd_ext hB eb
    refine got_add (i := 3) (v := v) (d := d) (n := "NotRound") (x := xR) rfl R1 (by decide) nb e1 hT1 ok hvb xm (.inr (.inr (.inl ⟨rfl, rfl, rfl⟩))) (fun H8 E Q e8 up => ⟨_, rfl, _, rfl, rfl, rfl, _, v, rfl, .inl (.inr (rnd_bad (rnd_ext hBb e8) (an_dq (dq_ext e8 hvb)) up))⟩) fun H2 e2 hT2 R2 => ?_
    refine got_add (i := 3) (v := v) (d := d) (n := "NotRound") (x := xR) rfl R2 (by decide) nb e2 hT2 ok hvb xm (.inr (.inr (.inl ⟨rfl, rfl, rfl⟩))) (fun H8 E Q e8 up => ⟨_, rfl, _, rfl, _, v, rfl, .inr (rnd_bad (rnd_ext hBb e8) (an_dq (dq_ext e8 hvb)) up)⟩) fun H3 e3 hT3 R3 => ?_
    refine got_add (i := 3) (v := v) (d := d) (n := "NotRound") (x := xR) rfl R3 (by decide) nb e3 hT3 ok hvb xm (.inr (.inr (.inl ⟨rfl, rfl, rfl⟩))) (fun H8 E Q e8 up => ⟨_, rfl, _, rfl, _, v, rfl, .inl (.inr (rnd_bad (rnd_ext hBb e8) (an_dq (dq_ext e8 hvb)) up))⟩) fun H4 e4 hT4 R4 => ?_
    refine got_add (i := 3) (v := v) (d := d) (n := "NotRound") (x := xR) rfl R4 (by decide) nb e4 hT4 ok hvb xm (.inr (.inr (.inl ⟨rfl, rfl, rfl⟩))) (fun H8 E Q e8 up => ⟨_, rfl, _, rfl, rfl, rfl, _, v, rfl, .inr ⟨⟨_, _, _, rfl, lot_ext hAb e8⟩, .inl ⟨_, an_dq (dq_ext e8 hvb), up⟩⟩⟩) fun H5 e5 hT5 R5 => ?_
    refine got_add (i := 3) (v := v) (d := d) (n := "NotRound") (x := xR) rfl R5 (by decide) nb e5 hT5 ok hvb xm (.inr (.inr (.inl ⟨rfl, rfl, rfl⟩))) (fun H8 E Q e8 up => ⟨_, rfl, _, rfl, _, v, rfl, .inr ⟨⟨_, _, _, rfl, lot_ext hAb e8⟩, .inl ⟨_, an_dq (dq_ext e8 hvb), up⟩⟩⟩) fun H6 e6 hT6 R6 => ?_
    refine got_add (i := 3) (v := v) (d := d) (n := "NotRound") (x := xR) rfl R6 (by decide) nb e6 hT6 ok hvb xm (.inr (.inr (.inl ⟨rfl, rfl, rfl⟩))) (fun H8 E Q e8 up => ⟨_, rfl, _, rfl, _, v, rfl, .inr ⟨⟨_, _, _, rfl, lot_ext hAb e8⟩, .inl ⟨_, an_dq (dq_ext e8 hvb), up⟩⟩⟩) fun H7 e7 hT7 R7 => ?_
    exact ⟨_, rfl, q g H7 (eb.trans e7) hT7 R7⟩
end
end Lamp
set_option Elab.async false
set_option linter.all false
set_option maxRecDepth 100000
set_option maxHeartbeats 4000000
namespace Lamp
open PySem PySem.Spec PyProof.Rows L2 LamX
/-! rounds that are not near, rounds of other levels -/
theorem fine6 {n : Str} {x : PyData} (hn : PyData.strOk n = true) (hs : PyData.strOk x.shown = true) : fineB n 6 x = true := by
  unfold fineB rowD errD
  generalize x.shown = s at *
  rw [Bool.and_eq_true]
  constructor
  · show (((PyData.strOk n && (PyData.strOk s && true)) && ((PyData.strOk n && (PyData.strOk s && true)) && ((PyData.strOk n && (PyData.strOk s && true)) && ((PyData.strOk n && (PyData.strOk s && true)) && ((PyData.strOk n && (PyData.strOk s && true)) && ((PyData.strOk n && (PyData.strOk s && true)) && true)))))) && decide (max (max 0 (max 0 0) + 1) (max (max 0 (max 0 0) + 1) (max (max 0 (max 0 0) + 1) (max (max 0 (max 0 0) + 1) (max (max 0 (max 0 0) + 1) (max (max 0 (max 0 0) + 1) (0)))))) + 1 ≤ 64)) = true
    rw [hn, hs]
    rfl
  · show (((n == n) && ((s == s) && true)) && (((n == n) && ((s == s) && true)) && (((n == n) && ((s == s) && true)) && (((n == n) && ((s == s) && true)) && (((n == n) && ((s == s) && true)) && (((n == n) && ((s == s) && true)) && true)))))) = true
    simp
theorem fine4 {n : Str} {x : PyData} (hn : PyData.strOk n = true) (hs : PyData.strOk x.shown = true) : fineB n 4 x = true := by
  unfold fineB rowD errD
  generalize x.shown = s at *
  rw [Bool.and_eq_true]
  constructor
  · show (((PyData.strOk n && (PyData.strOk s && true)) && ((PyData.strOk n && (PyData.strOk s && true)) && ((PyData.strOk n && (PyData.strOk s && true)) && ((PyData.strOk n && (PyData.strOk s && true)) && true)))) && decide (max (max 0 (max 0 0) + 1) (max (max 0 (max 0 0) + 1) (max (max 0 (max 0 0) + 1) (max (max 0 (max 0 0) + 1) (0)))) + 1 ≤ 64)) = true
    rw [hn, hs]
    rfl
  · show (((n == n) && ((s == s) && true)) && (((n == n) && ((s == s) && true)) && (((n == n) && ((s == s) && true)) && (((n == n) && ((s == s) && true)) && true)))) = true
    simp
theorem fine7 {n : Str} {x : PyData} (hn : PyData.strOk n = true) (hs : PyData.strOk x.shown = true) : fineB n 7 x = true := by
  unfold fineB rowD errD
  generalize x.shown = s at *
  rw [Bool.and_eq_true]
  constructor
  · show (((PyData.strOk n && (PyData.strOk s && true)) && ((PyData.strOk n && (PyData.strOk s && true)) && ((PyData.strOk n && (PyData.strOk s && true)) && ((PyData.strOk n && (PyData.strOk s && true)) && ((PyData.strOk n && (PyData.strOk s && true)) && ((PyData.strOk n && (PyData.strOk s && true)) && ((PyData.strOk n && (PyData.strOk s && true)) && true))))))) && decide (max (max 0 (max 0 0) + 1) (max (max 0 (max 0 0) + 1) (max (max 0 (max 0 0) + 1) (max (max 0 (max 0 0) + 1) (max (max 0 (max 0 0) + 1) (max (max 0 (max 0 0) + 1) (max (max 0 (max 0 0) + 1) (0))))))) + 1 ≤ 64)) = true
    rw [hn, hs]
    rfl
  · show (((n == n) && ((s == s) && true)) && (((n == n) && ((s == s) && true)) && (((n == n) && ((s == s) && true)) && (((n == n) && ((s == s) && true)) && (((n == n) && ((s == s) && true)) && (((n == n) && ((s == s) && true)) && (((n == n) && ((s == s) && true)) && true))))))) = true
    simp
theorem fine12 {n : Str} {x : PyData} (hn : PyData.strOk n = true) (hs : PyData.strOk x.shown = true) : fineB n 12 x = true := by
  unfold fineB rowD errD
  generalize x.shown = s at *
  rw [Bool.and_eq_true]
  constructor
  · show (((PyData.strOk n && (PyData.strOk s && true)) && ((PyData.strOk n && (PyData.strOk s && true)) && ((PyData.strOk n && (PyData.strOk s && true)) && ((PyData.strOk n && (PyData.strOk s && true)) && ((PyData.strOk n && (PyData.strOk s && true)) && ((PyData.strOk n && (PyData.strOk s && true)) && ((PyData.strOk n && (PyData.strOk s && true)) && ((PyData.strOk n && (PyData.strOk s && true)) && ((PyData.strOk n && (PyData.strOk s && true)) && ((PyData.strOk n && (PyData.strOk s && true)) && ((PyData.strOk n && (PyData.strOk s && true)) && ((PyData.strOk n && (PyData.strOk s && true)) && true)))))))))))) && decide (max (max 0 (max 0 0) + 1) (max (max 0 (max 0 0) + 1) (max (max 0 (max 0 0) + 1) (max (max 0 (max 0 0) + 1) (max (max 0 (max 0 0) + 1) (max (max 0 (max 0 0) + 1) (max (max 0 (max 0 0) + 1) (max (max 0 (max 0 0) + 1) (max (max 0 (max 0 0) + 1) (max (max 0 (max 0 0) + 1) (max (max 0 (max 0 0) + 1) (max (max 0 (max 0 0) + 1) (0)))))))))))) + 1 ≤ 64)) = true
    rw [hn, hs]
    rfl
  · show (((n == n) && ((s == s) && true)) && (((n == n) && ((s == s) && true)) && (((n == n) && ((s == s) && true)) && (((n == n) && ((s == s) && true)) && (((n == n) && ((s == s) && true)) && (((n == n) && ((s == s) && true)) && (((n == n) && ((s == s) && true)) && (((n == n) && ((s == s) && true)) && (((n == n) && ((s == s) && true)) && (((n == n) && ((s == s) && true)) && (((n == n) && ((s == s) && true)) && (((n == n) && ((s == s) && true)) && true)))))))))))) = true
    simp
theorem fine3 {n : Str} {x : PyData} (hn : PyData.strOk n = true) (hs : PyData.strOk x.shown = true) : fineB n 3 x = true := by
  unfold fineB rowD errD
  generalize x.shown = s at *
  rw [Bool.and_eq_true]
  constructor
  · show (((PyData.strOk n && (PyData.strOk s && true)) && ((PyData.strOk n && (PyData.strOk s && true)) && ((PyData.strOk n && (PyData.strOk s && true)) && true))) && decide (max (max 0 (max 0 0) + 1) (max (max 0 (max 0 0) + 1) (max (max 0 (max 0 0) + 1) (0))) + 1 ≤ 64)) = true
    rw [hn, hs]
    rfl
  · show (((n == n) && ((s == s) && true)) && (((n == n) && ((s == s) && true)) && (((n == n) && ((s == s) && true)) && true))) = true
    simp
theorem fine2 {n : Str} {x : PyData} (hn : PyData.strOk n = true) (hs : PyData.strOk x.shown = true) : fineB n 2 x = true := by
  unfold fineB rowD errD
  generalize x.shown = s at *
  rw [Bool.and_eq_true]
  constructor
  · show (((PyData.strOk n && (PyData.strOk s && true)) && ((PyData.strOk n && (PyData.strOk s && true)) && true)) && decide (max (max 0 (max 0 0) + 1) (max (max 0 (max 0 0) + 1) (0)) + 1 ≤ 64)) = true
    rw [hn, hs]
    rfl
  · show (((n == n) && ((s == s) && true)) && (((n == n) && ((s == s) && true)) && true)) = true
    simp
section
variable {K : PySem.W.Frag} {T : List (Addr × Str)} {t1 : TS} {D : Ends} {σ : L2.St} {H : Hp} {d : PyData} {n : Str} {te : TE}
/-- the list of answers against a row of one name and one text -/
theorem row_ne {g : Addr} {m : Nat} {tg : TE} {Q : VK} (hg : Val tg σ H (.ref g)) (he : ∀ H', Same H H' → Val te σ H' (.str d.shown)) (R : Row H g n d.shown m) (hm : m < 20) (fine : fineB n m d = true) {r : V → V → Hp → VK → Prop}
    (hr : ∀ (x y : Addr) (H' : Hp), Same H H' → Dp K H' (.ref x) (rowD n d m) → Dp K H' (.ref y) (rowD n d m) → r (.ref x) (.ref y) H' Q) :
    tOp r tg (tOp rRep (tLst (tCons (tLst (tCons (tC (.str n)) (tCons te tNil))) tNil)) (tC (.int (m : Int)))) σ H Q := by
  refine hg _ (he H (Same.refl _) _ ?_)
  refine ⟨(by show 2 ≤ sizeLine; decide), fun l n1 => ⟨(by show 1 ≤ sizeLine; decide), fun l2 n2 => ⟨l2, _, _, rfl, rfl, upd_same, by omega, by omega, ?_, fun l3 n3 => ?_⟩⟩⟩
  · show 1 * ((m : Int)).toNat ≤ sizeLine
    have : (20 : Nat) < sizeLine := by decide
    omega
  · have s1 := same_of (o := .lst [V.str n, V.str d.shown]) n1
    have s2 := same_of (o := .lst [V.ref l]) n2
    have s3 := same_of (o := .lst (List.replicate ((m : Int)).toNat [V.ref l]).flatten) n3
    have hl := s3 _ _ (s2 _ _ (upd_same (H := H) (a := l) (o := .lst [V.str n, V.str d.shown])))
    have R2 : Row (upd (upd (upd H l (.lst [V.str n, V.str d.shown])) l2 (.lst [V.ref l])) l3 (.lst (List.replicate ((m : Int)).toNat [V.ref l]).flatten)) l3 n d.shown m := by
      refine ⟨List.replicate m l, ?_, List.length_replicate, fun q hq => ?_⟩
      · rw [upd_same, show ((m : Int)).toNat = m by omega]
        congr 2
        clear hm s3 hl n3 fine R hr
        induction m with
        | zero => rfl
        | succ m ih => rw [List.replicate_succ, List.flatten_cons, ih, List.replicate_succ]; rfl
      · rw [List.eq_of_mem_replicate hq]
        exact hl
    exact hr g l3 _ (s1.trans (s2.trans s3)) (R.same (s1.trans (s2.trans s3))).dp R2.dp
end
section
variable {Y : Cx} {C xR xO xT : Addr} {E : XK} {p1 p2 p3 p4 p5 p6 p7 p8 p9 : Pos} {j1 j2 : Nat}
theorem pe_bodyF {op9 : Pos} (Z : DrX Y.prog Y.w Y.K Y.mg Y.base (spAlE Y.K C xR xO xT) "certify_alike" ["trip", "second"] 7) (M : MkR Y.prog Y.w Y.K Y.mg Y.base C) (mR : Y.mg "Round" = some (.ref C)) (hr : Room 9 Y.A) (hx : Passes (L2.CX Y.prog Y.w) Y E) (g : Gl Y "certify_alike") (g2 : Gl Y "Round")
    (e6 : PE Y (.Name "_law_far" p1) (tVar 6)) (e3 : PE Y (.Name "_law_p" p2) (tVar 3)) (e4 : PE Y (.Name "_law_size" p3) (tVar 4)) :
    PE Y (.Call (.Name "certify_alike" p4) [.Name "_law_far" p1, .Call (.Name "Round" p5) [.Name "_law_p" p2, .Tuple [] j1 p6, .BinOp (.Constant (.int 9) j2 p7) .Add (.Name "_law_size" p3) op9] [] p8] [] p9)
      (tCallX (spAlE Y.K C xR xO xT) E (tCons (tVar 6) (tCons (tMkR Y.K C (tCons (tVar 3) (tCons (tTup tNil) (tCons (tOp (rI0 fun i j => .int (i + j)) (tC (.int 9)) (tVar 4)) tNil)))) tNil))) :=
  pe_drX Z (by decide) hr g hx (pa_cons e6 (pa_cons (pe_mkR M (hr.mono (by decide)) g2 mR (pa_cons e3 (pa_cons (pe_tup pa_nil) (pa_cons (pe_op op_add pe_int e4) pa_nil)))) pa_nil))
end
theorem logI {i : Int} (h : i.natAbs < 10 ^ 40) : i.natAbs.log2 < 1920 := by
  have := fits_log (lt42 h)
  omega
theorem okI {i : Int} (h : i.natAbs < 10 ^ 40) : okD (.int i) = true := by
  have e := nS_lenW (lt42 h)
  unfold okD
  have l1 : (PyData.int i).shown.length ≤ sizeLine := by
    show (nS i).length ≤ sizeLine
    have : (1000 : Nat) ≤ sizeLine := by decide
    omega
  have l2 : (PyData.int i).showable = true := by
    show decide (i.natAbs.log2 < 1920) = true
    exact decide_eq_true (logI h)
  rw [decide_eq_true l1, l2]
  rfl
theorem rnd_oth {K : PySem.W.Frag} {C xR xO b r : Addr} {H : Hp} {lv fin lv' fin' : Int} {ls ls' : List (Int × Int)} {E : XK} (h : RndW K C H b lv fin ls) (h' : RndW K C H r lv' fin' ls') (ne : lv' ≠ lv) (up : Up E H xO (.int lv')) : BadRs K C xR xO (.ref b) (.ref r) H E := by
  obtain ⟨⟨t, h1, _⟩, _, _⟩ := h
  obtain ⟨⟨t', h2, _⟩, _, _⟩ := h'
  exact .inr ⟨b, t, lv, fin, rfl, h1, .inr ⟨r, t', lv', fin', rfl, h2, ne, up⟩⟩
theorem pail_lst {p : Addr} {H : Hp} (h : Pail H p) : ∃ ys, H p = some (.lst ys) := by
  obtain ⟨x, y, z, e, _⟩ := h
  exact ⟨_, e⟩
/-- far, and of this size -/
def FarA (sz : Int) (ls : List (Int × Int)) (fin : Int) : Prop := ¬ NearR ls fin ∧ ∀ m, IsMax m ls fin → m = sz
theorem sizeI_pos {z : Int} (h : 0 ≤ z) : sizeI z = z := by unfold sizeI; rw [if_neg (by omega)]
theorem far1 {sz : Int} (h : 41 ≤ sz) : FarA sz [] sz := by
  have e : sizesOf [] sz = [sz] := by show [sizeI sz] = _; rw [sizeI_pos (by omega)]
  refine ⟨fun z => ?_, fun m hm => ?_⟩
  · have := z sz (by rw [e]; exact List.mem_cons_self ..)
    omega
  · have := hm.1
    rw [e] at this
    exact List.mem_singleton.mp this
theorem far2 {sz : Int} (h : 41 ≤ sz) : FarA sz [(0 - sz, 1)] 5 := by
  have e : sizesOf [(0 - sz, 1)] 5 = [sz, 5] := by
    show [sizeI (0 - sz), sizeI 5] = _
    have e1 : sizeI (0 - sz) = sz := by unfold sizeI; rw [if_pos (by omega)]; omega
    rw [e1]
    rfl
  refine ⟨fun z => ?_, fun m hm => ?_⟩
  · have := z sz (by rw [e]; exact List.mem_cons_self ..)
    omega
  · obtain ⟨h1, h2⟩ := hm
    rw [e] at h1 h2
    have := h2 sz (List.mem_cons_self ..)
    simp only [List.mem_cons, List.not_mem_nil, or_false] at h1
    omega
theorem far3 {sz : Int} (h : 41 ≤ sz) : FarA sz [(3, 1), (sz, 1)] (-40) := by
  have e : sizesOf [(3, 1), (sz, 1)] (-40) = [3, sz, 40] := by
    show [sizeI 3, sizeI sz, sizeI (-40)] = _
    rw [sizeI_pos (z := sz) (by omega)]
    rfl
  refine ⟨fun z => ?_, fun m hm => ?_⟩
  · have := z sz (by rw [e]; simp)
    omega
  · obtain ⟨h1, h2⟩ := hm
    rw [e] at h1 h2
    have := h2 sz (by simp)
    simp only [List.mem_cons, List.not_mem_nil, or_false] at h1
    omega
theorem FarA.up {E : XK} {H : Hp} {x : Addr} {sz fin : Int} {ls : List (Int × Int)} (h : FarA sz ls fin) (u : Up E H x (.int sz)) : UpM E H x ls fin := fun m d H' hm s e => u d H' s (by rw [h.2 m hm] at e; exact e)
theorem pic_one {lv x : Int} (h : goodLv lv) : IsPicW lv [(x, 1)] := by
  have := good_pos h
  have l2 : 2 ≤ lv := by rcases h with e | e | e | e <;> omega
  exact ⟨by simp, fun q hq => by rw [List.mem_singleton.mp hq]; exact ⟨(by show (1 : Int) ≤ 1; decide), by show (1 : Int) < lv; omega⟩, by show 1 ≤ 400; decide⟩
theorem pic_two {lv x y : Int} (h : goodLv lv) (xy : x < y) : IsPicW lv [(x, 1), (y, 1)] := by
  have l2 : 2 ≤ lv := by rcases h with e | e | e | e <;> omega
  refine ⟨by simpa using xy, fun q hq => ?_, by show 2 ≤ 400; decide⟩
  simp only [List.mem_cons, List.not_mem_nil, or_false] at hq
  rcases hq with e | e <;> rw [e] <;> exact ⟨(by show (1 : Int) ≤ 1; decide), by show (1 : Int) < lv; omega⟩
theorem pic_nil {lv : Int} : IsPicW lv [] := (⟨.nil, fun q h => (nomatch h)⟩ : Rising lv []).w (by decide)
abbrev farN : List Str := ["_law_pail", "_law_mine", "_law_near", "_law_p", "_law_size", "_law_other", "_law_far", "_law_got", "_law_strange", "_law_k"]
def spFar (K : PySem.W.Frag) (C L : Addr) (T : List (Addr × Str)) : Sp := fun vs H Q _ => ∃ (p a t b : Addr) (rs : List Parts) (lv fin : Int) (ls : List (Int × Int)), vs = [.ref p, .ref a, .ref b] ∧ Pail H p ∧ LotAt K C L (delH H p) a t rs ∧ RndW K C (delH H p) b lv fin ls ∧ NearR ls fin ∧ Tabs T H ∧
  ∀ H', ButN p H H' → Pail H' p → Tabs T H' → Q (.bl true) H'
section
variable {P : Program} {w : World} {K : PySem.W.Frag} {mg : Str → Option Value} {base : Heap} {C L xL xR xN xO xT cA cB cC : Addr}
theorem scFar : FnScope farN ["_law_pail", "_law_mine", "_law_near"] (defScope sFar) := ⟨rfl, rfl, rfl, by decide +kernel, rfl, by decide +kernel, by decide +kernel⟩
theorem ok_far {f c Pt : Addr} {fd : FuncData} {T : List (Addr × Str)} (F : Fun K "_law_far_right" "_law_far_right" sFar f fd) (hcd : fd.code = .ref c) (TB : TabB base mg c Pt) (hmT : (Pt, qD) ∈ T) (hu : ∀ p ∈ T, p.1 = Pt → p.2 = qD) (Aw : AnsO P w K mg base cA cB cC (spSort K xN xL xR xO xT) 2)
    (R : RCls K C) (Z : Ask3 P w K mg base C) (An : Dr P w K mg base spAny "_law_any_of" ["_law_pail", "_law_some"] 2) (Va : Dr P w K mg base spVast "_law_vast" ["_law_pail", "_law_many"] 2) (M : MkR P w K mg base C) (mR : mg "Round" = some (.ref C))
    (Al : DrX P w K mg base (spAlE K C xR xO xT) "alike" ["trip", "second"] 6) (CAl : DrX P w K mg base (spAlE K C xR xO xT) "certify_alike" ["trip", "second"] 7) (Mk : DrX P w K mg base (spLrE K C L xL xR xT) "makes" ["lot", "trip"] 7) (Pl : DrX P w K mg base (spLrE K C L xL xR xT) "plan" ["lot", "trip"] 7) (CMa : DrX P w K mg base (spLrE K C L xL xR xT) "certify_made" ["lot", "trip"] 8) (IsA : DrX P w K mg base (spRsE K C xR xO) "is_alike" ["trip", "second"] 5) (Com : DrX P w K mg base (spRsE K C xR xO) "commute" ["trip", "second"] 5) (xmT : PySem.W.exmAny K (.ref xT) [.ref cA, .ref cB, .ref cC] = some true) (xmO : PySem.W.exmAny K (.ref xO) [.ref cA, .ref cB, .ref cC] = some true) (m_str : mg "str" = none) : FnG P w K mg base 12 f fd ["_law_pail", "_law_mine", "_law_near"] (spFar K C L T) := by
  refine okGC F scFar (fun vs H Q E h => ?_) (fun cdv A outer s H vs Q E hcv hgd hr h => ?_)
  · obtain ⟨p, a, t, b, rs, lv, fin, ls, rfl, _⟩ := h
    rfl
  · obtain ⟨p, a, t, b, rs, lv, fin, ls, rfl, hp, hA, hB, near, hT, q⟩ := h
    have hu' := hu
    have hu := hr.units
    have ec : cdv = .ref c := hcv.symm.trans hcd
    subst ec
    refine ⟨_, (pss_cons (ps_asg (pe_tup (pa_cons (pe_prR Z.lv R (by decide) hr (pv 2)) (pa_cons (pe_op op_add pe_int (pe_dr Va (by decide) hr rfl (pa_cons (pv 0) (pa_cons (pe_op op_pow pe_int pe_int) pa_nil)))) pa_nil))) (pg_tup rfl (pgs_cons (pg_name (i := 3) scFar.nd rfl (Or.inr rfl)) (pgs_cons (pg_name (i := 4) scFar.nd rfl (Or.inr rfl)) pgs_nil))))
      (pss_cons (ps_set (i := 5) scFar.nd rfl (.inl rfl) (pe_dr An (by decide) hr rfl (pa_cons (pv 0) (pa_cons (pe_lc (own := [("_law_k", 9)]) (g := gName 9) rfl scFar.nd (pi_list (pe_lst (pa_cons pe_int (pa_cons pe_int (pa_cons pe_int (pa_cons pe_int pa_nil))))))
          (blkOk_by (own := [("_law_k", 9)]) (N := farN) (sc := defScope sFar) (by decide +kernel))
          (fun _ _ _ _ _ => (pg_name (i := 9) scFar.nd rfl (Or.inl rfl))) (fun _ _ _ _ _ => pts_one (pt_cmpR op_ne (pv 9) (pv 3) (nomark _)))
          (fun _ _ _ _ _ => (pv 9))) pa_nil))))
      (pss_cons (ps_set (i := 6) scFar.nd rfl (.inr rfl) (pe_dr An (by decide) hr rfl (pa_cons (pv 0) (pa_cons (pe_lst (pa_cons (pe_mkR M (hr.mono (by decide)) rfl mR (pa_cons (pv 3) (pa_cons (pe_tup pa_nil) (pa_cons (pv 4) pa_nil)))) (pa_cons (pe_mkR M (hr.mono (by decide)) rfl mR (pa_cons (pv 3) (pa_cons (pe_tup (pa_cons (pe_tup (pa_cons (pe_op op_sub pe_int (pv 4)) (pa_cons pe_int pa_nil))) pa_nil)) (pa_cons pe_int pa_nil)))) (pa_cons (pe_mkR M (hr.mono (by decide)) rfl mR (pa_cons (pv 3) (pa_cons (pe_tup (pa_cons (pe_tup (pa_cons pe_int (pa_cons pe_int pa_nil))) (pa_cons (pe_tup (pa_cons (pv 4) (pa_cons pe_int pa_nil))) pa_nil))) (pa_cons (pe_un un_neg pe_int) pa_nil)))) pa_nil)))) pa_nil))))
      (pss_cons (ps_set (i := 7) scFar.nd rfl (.inl rfl) (pe_lst (pa_cons (pe_ansO (t := fun E => tCallX (spAlE K C xR xO xT) E (tCons (tVar 6) (tCons (tVar 2) tNil))) (k := 9) Aw (by decide) hgd hr rfl TB rfl hmT hu' (lamS_by (by show lamSB (defScope sFar) _ = true; decide +kernel)) rfl (fun _ _ _ _ _ => rfl)
            (fun A' outer' s' H' E' f' c' hr' => by
              refine pe_body2 Al ?_ ?_ ?_ ?_ ?_ ?_
              · decide
              · exact hr'
              · exact passes_lam2
              · rfl
              · exact pv 6 rfl (.inr (.inr rfl))
              · exact pv 2 rfl (.inr (.inr rfl)))) pa_nil)))
      (pss_cons (ps_expr (pe_bm PySem.F.plainAttrs_list PySem.F.slot_list_append PySem.F.type_list_append mt_append (pv 7) (pa_cons (pe_ansO (t := fun E => tCallX (spAlE K C xR xO xT) E (tCons (tVar 2) (tCons (tVar 6) tNil))) (k := 9) Aw (by decide) hgd hr rfl TB rfl hmT hu' (lamS_by (by show lamSB (defScope sFar) _ = true; decide +kernel)) rfl (fun _ _ _ _ _ => rfl)
            (fun A' outer' s' H' E' f' c' hr' => by
              refine pe_body2 Al ?_ ?_ ?_ ?_ ?_ ?_
              · decide
              · exact hr'
              · exact passes_lam2
              · rfl
              · exact pv 2 rfl (.inr (.inr rfl))
              · exact pv 6 rfl (.inr (.inr rfl)))) pa_nil)))
      (pss_cons (ps_expr (pe_bm PySem.F.plainAttrs_list PySem.F.slot_list_append PySem.F.type_list_append mt_append (pv 7) (pa_cons (pe_ansO (t := fun E => tCallX (spAlE K C xR xO xT) E (tCons (tVar 6) (tCons (tMkR K C (tCons (tVar 3) (tCons (tTup tNil) (tCons (tOp (rI0 fun i j => .int (i + j)) (tC (.int 9)) (tVar 4)) tNil)))) tNil))) (k := 9) Aw (by decide) hgd hr rfl TB rfl hmT hu' (lamS_by (by show lamSB (defScope sFar) _ = true; decide +kernel)) rfl (fun _ _ _ _ _ => rfl)
            (fun A' outer' s' H' E' f' c' hr' => by
              refine pe_bodyF CAl M mR ?_ ?_ ?_ ?_ ?_ ?_ ?_
              · exact hr'
              · exact passes_lam2
              · rfl
              · rfl
              · exact pv 6 rfl (.inr (.inr rfl))
              · exact pv 3 rfl (.inr (.inr rfl))
              · exact pv 4 rfl (.inr (.inr rfl)))) pa_nil)))
      (pss_cons (ps_expr (pe_bm PySem.F.plainAttrs_list PySem.F.slot_list_append PySem.F.type_list_append mt_append (pv 7) (pa_cons (pe_ansO (t := fun E => tCallX (spLrE K C L xL xR xT) E (tCons (tVar 1) (tCons (tVar 6) tNil))) (k := 9) Aw (by decide) hgd hr rfl TB rfl hmT hu' (lamS_by (by show lamSB (defScope sFar) _ = true; decide +kernel)) rfl (fun _ _ _ _ _ => rfl)
            (fun A' outer' s' H' E' f' c' hr' => by
              refine pe_body2 Mk ?_ ?_ ?_ ?_ ?_ ?_
              · decide
              · exact hr'
              · exact passes_lam2
              · rfl
              · exact pv 1 rfl (.inr (.inr rfl))
              · exact pv 6 rfl (.inr (.inr rfl)))) pa_nil)))
      (pss_cons (ps_expr (pe_bm PySem.F.plainAttrs_list PySem.F.slot_list_append PySem.F.type_list_append mt_append (pv 7) (pa_cons (pe_ansO (t := fun E => tCallX (spLrE K C L xL xR xT) E (tCons (tVar 1) (tCons (tVar 6) tNil))) (k := 9) Aw (by decide) hgd hr rfl TB rfl hmT hu' (lamS_by (by show lamSB (defScope sFar) _ = true; decide +kernel)) rfl (fun _ _ _ _ _ => rfl)
            (fun A' outer' s' H' E' f' c' hr' => by
              refine pe_body2 Pl ?_ ?_ ?_ ?_ ?_ ?_
              · decide
              · exact hr'
              · exact passes_lam2
              · rfl
              · exact pv 1 rfl (.inr (.inr rfl))
              · exact pv 6 rfl (.inr (.inr rfl)))) pa_nil)))
      (pss_cons (ps_expr (pe_bm PySem.F.plainAttrs_list PySem.F.slot_list_append PySem.F.type_list_append mt_append (pv 7) (pa_cons (pe_ansO (t := fun E => tCallX (spLrE K C L xL xR xT) E (tCons (tVar 1) (tCons (tVar 6) tNil))) (k := 9) Aw (by decide) hgd hr rfl TB rfl hmT hu' (lamS_by (by show lamSB (defScope sFar) _ = true; decide +kernel)) rfl (fun _ _ _ _ _ => rfl)
            (fun A' outer' s' H' E' f' c' hr' => by
              refine pe_body2 CMa ?_ ?_ ?_ ?_ ?_ ?_
              · decide
              · exact hr'
              · exact passes_lam2
              · rfl
              · exact pv 1 rfl (.inr (.inr rfl))
              · exact pv 6 rfl (.inr (.inr rfl)))) pa_nil)))
      (pss_cons (ps_if (pt_cmpR (op_neD hu) (pv 7) (pe_op op_rep (pe_lst (pa_cons (pe_lst (pa_cons pe_str (pa_cons (pe_callTy call_str_int (by rfl) m_str (by decide +kernel) (pa_cons (pv 4) pa_nil)) pa_nil))) pa_nil)) pe_int) (nomark _)) pss_never pss_nil)
      (pss_cons (ps_set (i := 8) scFar.nd rfl (.inr rfl) (pe_mkR M (hr.mono (by decide)) rfl mR (pa_cons (pv 5) (pa_cons (pe_tup pa_nil) (pa_cons (pe_dr An (by decide) hr rfl (pa_cons (pv 0) (pa_cons (pe_lst (pa_cons pe_int (pa_cons pe_int (pa_cons (pv 4) pa_nil)))) pa_nil))) pa_nil)))))
      (pss_cons (ps_set (i := 7) scFar.nd rfl (.inl rfl) (pe_lst (pa_cons (pe_ansO (t := fun E => tCallX (spRsE K C xR xO) E (tCons (tVar 2) (tCons (tVar 8) tNil))) (k := 9) Aw (by decide) hgd hr rfl TB rfl hmT hu' (lamS_by (by show lamSB (defScope sFar) _ = true; decide +kernel)) rfl (fun _ _ _ _ _ => rfl)
            (fun A' outer' s' H' E' f' c' hr' => by
              refine pe_body2 IsA ?_ ?_ ?_ ?_ ?_ ?_
              · decide
              · exact hr'
              · exact passes_lam2
              · rfl
              · exact pv 2 rfl (.inr (.inr rfl))
              · exact pv 8 rfl (.inr (.inr rfl)))) pa_nil)))
      (pss_cons (ps_expr (pe_bm PySem.F.plainAttrs_list PySem.F.slot_list_append PySem.F.type_list_append mt_append (pv 7) (pa_cons (pe_ansO (t := fun E => tCallX (spRsE K C xR xO) E (tCons (tVar 2) (tCons (tVar 8) tNil))) (k := 9) Aw (by decide) hgd hr rfl TB rfl hmT hu' (lamS_by (by show lamSB (defScope sFar) _ = true; decide +kernel)) rfl (fun _ _ _ _ _ => rfl)
            (fun A' outer' s' H' E' f' c' hr' => by
              refine pe_body2 Com ?_ ?_ ?_ ?_ ?_ ?_
              · decide
              · exact hr'
              · exact passes_lam2
              · rfl
              · exact pv 2 rfl (.inr (.inr rfl))
              · exact pv 8 rfl (.inr (.inr rfl)))) pa_nil)))
      (pss_cons (ps_expr (pe_bm PySem.F.plainAttrs_list PySem.F.slot_list_append PySem.F.type_list_append mt_append (pv 7) (pa_cons (pe_ansO (t := fun E => tCallX (spAlE K C xR xO xT) E (tCons (tVar 6) (tCons (tVar 8) tNil))) (k := 9) Aw (by decide) hgd hr rfl TB rfl hmT hu' (lamS_by (by show lamSB (defScope sFar) _ = true; decide +kernel)) rfl (fun _ _ _ _ _ => rfl)
            (fun A' outer' s' H' E' f' c' hr' => by
              refine pe_body2 Al ?_ ?_ ?_ ?_ ?_ ?_
              · decide
              · exact hr'
              · exact passes_lam2
              · rfl
              · exact pv 6 rfl (.inr (.inr rfl))
              · exact pv 8 rfl (.inr (.inr rfl)))) pa_nil)))
      (pss_cons (ps_expr (pe_bm PySem.F.plainAttrs_list PySem.F.slot_list_append PySem.F.type_list_append mt_append (pv 7) (pa_cons (pe_ansO (t := fun E => tCallX (spAlE K C xR xO xT) E (tCons (tVar 2) (tCons (tVar 8) tNil))) (k := 9) Aw (by decide) hgd hr rfl TB rfl hmT hu' (lamS_by (by show lamSB (defScope sFar) _ = true; decide +kernel)) rfl (fun _ _ _ _ _ => rfl)
            (fun A' outer' s' H' E' f' c' hr' => by
              refine pe_body2 CAl ?_ ?_ ?_ ?_ ?_ ?_
              · decide
              · exact hr'
              · exact passes_lam2
              · rfl
              · exact pv 2 rfl (.inr (.inr rfl))
              · exact pv 8 rfl (.inr (.inr rfl)))) pa_nil)))
      (pss_one (ps_ret (pe_cmpR (op_eqD hu) (pv 7) (pe_op op_rep (pe_lst (pa_cons (pe_lst (pa_cons pe_str (pa_cons (pe_callTy call_str_int (by rfl) m_str (by decide +kernel) (pa_cons (pv 5) pa_nil)) pa_nil))) pa_nil)) pe_int) (nomark _))))))))))))))))))), ?_⟩
    obtain ⟨ys0, hpl0⟩ := pail_lst hp
    have hB0 := RndW.same hB del_sub
    obtain ⟨⟨tb, hrb, hpb⟩, hg, hi⟩ := id hB0
    obtain ⟨dxb, hBo⟩ := id hrb
    refine ⟨_, rfl, b, dxb, _, rfl, hBo, b, tb, lv, fin, rfl, hrb, ?_⟩
    refine ⟨_, rfl, 10, 30, rfl, rfl, ⟨by decide, by decide, by decide⟩, p, _, rfl, by decide, hp, fun z H1 z0 z1 hp1 bt1 => ⟨41, z, rfl, rfl, (by show 2 ≤ sizeLine; decide), fun t2 n2 => ⟨t2, _, rfl, .inl (.inl upd_same), rfl, _, _, rfl, _, _, rfl, rfl, ?_⟩⟩⟩
    have hT1 : Tabs T H1 := tabs_butL hpl0 bt1 hT
    have sn2 := same_of (o := .tup [V.int lv, V.int (41 + z)]) n2
    have hT2 := hT1.ext sn2
    have hp2 := hp1.same sn2
    have bA : ButN p H (upd H1 t2 (.tup [V.int lv, V.int (41 + z)])) := ButN.of (bt1.trans (But.of sn2))
    generalize upd H1 t2 (.tup [V.int lv, V.int (41 + z)]) = H2 at *
    dsimp only [gName, List.set, L2.start, List.map, List.length, List.replicate, List.append]
    generalize hsz : 41 + z = sz
    have hsz1 : 41 ≤ sz := by omega
    have hsz2 : sz < 10000000000000000000000000000000 := by
      have e : (10 : Int) ^ ((30 : Int)).toNat = 1000000000000000000000000000000 := by decide
      rw [e] at z1
      omega
    refine ⟨_, rfl, (by show 4 ≤ sizeLine; decide), fun l4 n4 => ⟨l4, rfl, ⟨_, SqL.of upd_same⟩, fun D hD => ?_⟩⟩
    have s4 := same_of (o := .lst [V.int 2, V.int 3, V.int 5, V.int 7]) n4
    refine lc_genL (us := [2, 3, 5, 7]) (enc := V.int) (out := fun n => if n = lv then none else some n) (Rel := fun (b : Int) v _ => v = .int b) (fun _ _ _ _ _ h => h) hD (SqL.of upd_same) (by decide) ?_ ?_
    · intro i n H5 hn s5 R' Z' hR hZ
      refine ⟨rfl, ?_⟩
      refine ⟨_, rfl, _, rfl, rfl, decide (n ≠ lv), ?_, ?_⟩
      · show V.bl (!decide (V.int n = V.int lv)) = _
        by_cases z : n = lv
        · rw [decide_eq_true (by rw [z]), decide_eq_false (by simpa using z)]
          rfl
        · rw [decide_eq_false (fun e => z (V.int.inj e)), decide_eq_true (by simpa using z)]
          rfl
      · by_cases z : n = lv
        · rw [decide_eq_false (by simpa using z)]
          exact iteF (hZ _ (if_pos z) (Same.refl _))
        · rw [decide_eq_true (by simpa using z)]
          exact iteT ⟨_, rfl, hR _ _ _ (if_neg z) (Same.refl _) rfl⟩
    · intro H5 ys s5 hD5 hys
      have hp5 := (hp2.same s4).same s5
      have hlen : ys.length = ([2, 3, 5, 7].filterMap fun n => if n = lv then none else some n).length := Paired.length hys
      have hlen3 : ys.length = 3 := by
        rw [hlen]
        rcases hg with e | e | e | e <;> rw [e] <;> decide
      refine ⟨p, D, ys, rfl, (hp2.same s4).ne hD, hD5, by omega, by omega, hp5, fun v H6 hv hp6 b6 => ?_⟩
      obtain ⟨o, ho, rfl⟩ : ∃ o : Int, (o ≠ lv ∧ goodLv o) ∧ v = .int o := by
        obtain ⟨o, ho, e⟩ := paired_mem hys hv
        refine ⟨o, ?_, e⟩
        obtain ⟨n, hn, e2⟩ := List.mem_filterMap.mp ho
        by_cases z : n = lv
        · rw [if_pos z] at e2; cases e2
        · rw [if_neg z] at e2
          cases e2
          refine ⟨z, ?_⟩
          simp only [List.mem_cons, List.not_mem_nil, or_false] at hn
          exact hn
      obtain ⟨one, hgo⟩ := ho
      obtain ⟨ys3, hpl3⟩ := pail_lst hp5
      have hT6 : Tabs T H6 := tabs_butL hpl3 b6 (hT2.ext (s4.trans s5))
      have bB : ButN p H H6 := bA.trans (ButN.of ((But.of (s4.trans s5)).trans b6))
      have hA6 := lot_ext hA bB
      have hB6 := rnd_ext hB bB
      clear hB0 hrb hpb hBo hpl0 hpl3 hT1 hT2 hT hp hp1 hp2 hp5
      dsimp only [gName, List.set, L2.start, List.map, List.length, List.replicate, List.append]
      -- three rounds that are far
      refine ⟨_, rfl, _, rfl, (by show 0 ≤ sizeLine; decide), fun ta nta => ⟨_, rfl, lv, ta, sz, rfl, [], hg, ⟨[], .inl upd_same, .nil⟩, pic_nil, fun r1 H7 s7 nr1 hr1 => ?_⟩⟩
      have sA := (same_of (o := .tup []) nta).trans s7
      have R1 : RndW K C H7 r1 lv sz [] := ⟨⟨ta, hr1, ⟨[], .inl (s7 _ _ upd_same), .nil⟩⟩, hg, pic_nil⟩
      clear hr1 s7 nta nr1
      refine ⟨_, rfl, _, rfl, 0, sz, rfl, rfl, (by show 2 ≤ sizeLine; decide), fun u1 nu1 => ⟨(by show 1 ≤ sizeLine; decide), fun u2 nu2 => ?_⟩⟩
      have su1 := same_of (o := .tup [V.int (0 - sz), V.int 1]) nu1
      have su2 := same_of (o := .tup [V.ref u1]) nu2
      have P2 : PicAt K (upd (upd H7 u1 (.tup [V.int (0 - sz), V.int 1])) u2 (.tup [V.ref u1])) u2 [(0 - sz, 1)] := ⟨[u1], .inl upd_same, .cons (su2 _ _ upd_same) .nil⟩
      refine ⟨lv, u2, 5, rfl, [(0 - sz, 1)], hg, P2, pic_one hg, fun r2 H8 s8 nr2 hr2 => ?_⟩
      have R2 : RndW K C H8 r2 lv 5 [(0 - sz, 1)] := ⟨⟨u2, hr2, P2.same s8⟩, hg, pic_one hg⟩
      have sB := sA.trans ((su1.trans su2).trans s8)
      have R1 := R1.same ((su1.trans su2).trans s8)
      clear hr2 s8 nr2 P2 su1 su2 nu1 nu2
      refine ⟨_, rfl, (by show 2 ≤ sizeLine; decide), fun u3 nu3 => ⟨_, rfl, (by show 2 ≤ sizeLine; decide), fun u4 nu4 => ⟨(by show 2 ≤ sizeLine; decide), fun u5 nu5 => ⟨40, rfl, ?_⟩⟩⟩⟩
      have su3 := same_of (o := .tup [V.int 3, V.int 1]) nu3
      have su4 := same_of (o := .tup [V.int sz, V.int 1]) nu4
      have su5 := same_of (o := .tup [V.ref u3, V.ref u4]) nu5
      have P3 : PicAt K (upd (upd (upd H8 u3 (.tup [V.int 3, V.int 1])) u4 (.tup [V.int sz, V.int 1])) u5 (.tup [V.ref u3, V.ref u4])) u5 [(3, 1), (sz, 1)] := ⟨[u3, u4], .inl upd_same, .cons (su5 _ _ (su4 _ _ upd_same)) (.cons (su5 _ _ upd_same) .nil)⟩
      refine ⟨lv, u5, -40, rfl, [(3, 1), (sz, 1)], hg, P3, pic_two hg (by omega), fun r3 H9 s9 nr3 hr3 => ?_⟩
      have R3 : RndW K C H9 r3 lv (-40) [(3, 1), (sz, 1)] := ⟨⟨u5, hr3, P3.same s9⟩, hg, pic_two hg (by omega)⟩
      have sC := sB.trans (((su3.trans su4).trans su5).trans s9)
      have R1 := R1.same (((su3.trans su4).trans su5).trans s9)
      have R2 := R2.same (((su3.trans su4).trans su5).trans s9)
      clear hr3 s9 nr3 P3 su3 su4 su5 nu3 nu4 nu5 sA sB
      refine ⟨(by show 3 ≤ sizeLine; decide), fun l6 n6 => ?_⟩
      have s6 := same_of (o := .lst [V.ref r1, V.ref r2, V.ref r3]) n6
      have hp9 := hp6.same sC
      refine ⟨p, l6, _, rfl, hp9.ne n6, upd_same, (by show 0 < 3; decide), (by show 3 < 1000000; decide), hp9.same s6, fun v HA hv hpA bA' => ?_⟩
      have sD := sC.trans s6
      obtain ⟨ysA, hplA⟩ := pail_lst (hp9.same s6)
      have hTA : Tabs T HA := tabs_butL hplA bA' (hT6.ext sD)
      have bC : ButN p H HA := bB.trans (ButN.of ((But.of sD).trans bA'))
      have hpl' := hp9.same s6
      obtain ⟨x1, x2, x3, hx, _⟩ := id hpl'
      have keep : ∀ {r : Addr} {fin' : Int} {ls' : List (Int × Int)}, RndW K C H9 r lv fin' ls' → RndW K C (delH HA p) r lv fin' ls' := fun h => (rnd_delL (h.same s6) hx).same bA'.del
      obtain ⟨r, fin', ls', rfl, hF, far⟩ : ∃ (r : Addr) (fin' : Int) (ls' : List (Int × Int)), v = .ref r ∧ RndW K C (delH HA p) r lv fin' ls' ∧ FarA sz ls' fin' := by
        simp only [List.mem_cons, List.not_mem_nil, or_false] at hv
        rcases hv with e | e | e
        · exact ⟨r1, _, _, e, keep R1, far1 hsz1⟩
        · exact ⟨r2, _, _, e, keep R2, far2 hsz1⟩
        · exact ⟨r3, _, _, e, keep R3, far3 hsz1⟩
      have hAA := lot_ext hA bC
      have hBA := rnd_ext hB bC
      clear hA6 hB6 R1 R2 R3 keep hx hv bA' hplA hpl' sD sC s6
      dsimp only [gName, List.set, L2.start, List.map, List.length, List.replicate, List.append]
      have okS : okD (.int sz) = true := okI (by omega)
      have dvS : ∀ {HZ : Hp}, Dq K HZ (.int sz) (.int sz) := .plain (.int _)
      have hF0 : RndW K C HA r lv fin' ls' := hF.same del_sub
      have hB0 : RndW K C HA b lv fin ls := hBA.same del_sub
      have hA0 : LotAt K C L HA a t rs := hAA.same del_sub
      refine got_new (i := 7) (v := .int sz) (d := .int sz) (n := "TooFar") (x := xT) hTA okS dvS xmT (.inr (.inr (.inr (.inr ⟨rfl, rfl, rfl⟩)))) (fun H8 E Q e8 up => ⟨_, rfl, _, rfl, _, _, rfl, .inr ⟨r, b, lv, fin', fin, ls', ls, rfl, rfl, rnd_ext hF0 e8, rnd_ext hB0 e8, .inl ⟨far.1, far.up up⟩⟩⟩) fun g Hb K1 eb nb e1 hT1 W1 => ?_
      have hFb := rnd_ext hF0 eb
      have hBb := rnd_ext hB0 eb
      have hAb := lot_ext hA0 eb
      refine got_add (i := 7) (v := .int sz) (d := .int sz) (n := "TooFar") (x := xT) rfl W1 (by decide) nb e1 hT1 okS dvS xmT (.inr (.inr (.inr (.inr ⟨rfl, rfl, rfl⟩)))) (fun H8 E Q e8 up => ⟨_, rfl, _, rfl, _, _, rfl, .inr ⟨b, r, lv, fin, fin', ls, ls', rfl, rfl, rnd_ext hBb e8, rnd_ext hFb e8, .inr ⟨near, far.1, far.up up⟩⟩⟩) fun K2 e2 hT2 W2 => ?_
      refine got_add (i := 7) (v := .int sz) (d := .int sz) (n := "TooFar") (x := xT) rfl W2 (by decide) nb e2 hT2 okS dvS xmT (.inr (.inr (.inr (.inr ⟨rfl, rfl, rfl⟩)))) (fun H8 E Q e8 up => ?_) fun K3 e3 hT3 W3 => ?_
      · refine ⟨_, rfl, _, rfl, (by show 0 ≤ sizeLine; decide), fun tq ntq => ⟨_, rfl, 9, sz, rfl, rfl, lv, tq, 9 + sz, rfl, [], hg, ⟨[], .inl upd_same, .nil⟩, pic_nil, fun rq Hq sq nq hq => ?_⟩⟩
        have st := (same_of (o := .tup []) ntq).trans sq
        exact ⟨_, _, rfl, .inr ⟨r, rq, lv, fin', 9 + sz, ls', [], rfl, rfl, (rnd_ext hFb e8).same st, ⟨⟨tq, hq, ⟨[], .inl (sq _ _ upd_same), .nil⟩⟩, hg, pic_nil⟩, .inl ⟨far.1, far.up (up.on st)⟩⟩⟩
      refine got_add (i := 7) (v := .int sz) (d := .int sz) (n := "TooFar") (x := xT) rfl W3 (by decide) nb e3 hT3 okS dvS xmT (.inr (.inr (.inr (.inr ⟨rfl, rfl, rfl⟩)))) (fun H8 E Q e8 up => ⟨_, rfl, _, rfl, _, _, rfl, .inr ⟨⟨a, t, rs, rfl, lot_ext hAb e8⟩, .inr ⟨r, lv, fin', ls', rfl, rnd_ext hFb e8, far.1, far.up up⟩⟩⟩) fun K4 e4 hT4 W4 => ?_
      refine got_add (i := 7) (v := .int sz) (d := .int sz) (n := "TooFar") (x := xT) rfl W4 (by decide) nb e4 hT4 okS dvS xmT (.inr (.inr (.inr (.inr ⟨rfl, rfl, rfl⟩)))) (fun H8 E Q e8 up => ⟨_, rfl, _, rfl, _, _, rfl, .inr ⟨⟨a, t, rs, rfl, lot_ext hAb e8⟩, .inr ⟨r, lv, fin', ls', rfl, rnd_ext hFb e8, far.1, far.up up⟩⟩⟩) fun K5 e5 hT5 W5 => ?_
      refine got_add (i := 7) (v := .int sz) (d := .int sz) (n := "TooFar") (x := xT) rfl W5 (by decide) nb e5 hT5 okS dvS xmT (.inr (.inr (.inr (.inr ⟨rfl, rfl, rfl⟩)))) (fun H8 E Q e8 up => ⟨_, rfl, _, rfl, _, _, rfl, .inr ⟨⟨a, t, rs, rfl, lot_ext hAb e8⟩, .inr ⟨r, lv, fin', ls', rfl, rnd_ext hFb e8, far.1, far.up up⟩⟩⟩) fun K6 e6 hT6 W6 => ?_
      have f6 := fine6 (n := "TooFar") (x := .int sz) (by decide +kernel) (asc_ok (asc_nS sz))
      refine row_ne (r := rNeD K) (d := .int sz) (m := 6) (n := "TooFar") (g := g) ?_ ?_ W6 (by decide) f6 fun x y KA sKA dx dy => ⟨_, _, dx, dy, ?_, ?_, ?_⟩
      · exact val_var rfl
      · exact fun H' _ Q q => ⟨_, rfl, sz, rfl, logI (by omega), q⟩
      · unfold fineB at f6; rw [Bool.and_eq_true] at f6; exact f6.1
      · unfold fineB at f6; rw [Bool.and_eq_true] at f6; exact f6.1
      have f62 : PyData.eqv (rowD "TooFar" (.int sz) 6) (rowD "TooFar" (.int sz) 6) = true := by unfold fineB at f6; rw [Bool.and_eq_true] at f6; exact f6.2
      rw [f62]
      refine ⟨false, rfl, iteF ?_⟩
      dsimp only [gName, tNext, List.set, L2.start, List.map, List.length, List.replicate, List.append]
      have hT7 := hT6.ext sKA
      have eK := eb.trans (e6.trans (ext_same sKA))
      have hpK := hpA.ext eK
      have hF7 := rnd_ext hF (ButN.ext (p := p) eK)
      have hB7 := rnd_ext hBA (ButN.ext (p := p) eK)
      have bK : ButN p H KA := bC.trans (ButN.ext eK)
      clear W1 W2 W3 W4 W5 W6 hFb hBb hAb hF0 hB0 hA0 dx dy hT1 hT2 hT3 hT4 hT5 hT6 hTA f62
      refine ⟨_, rfl, (by show 0 ≤ sizeLine; decide), fun tq ntq => ⟨_, rfl, _, rfl, (by show 3 ≤ sizeLine; decide), fun l7 n7 => ?_⟩⟩
      have stq := same_of (o := .tup []) ntq
      have sl7 := same_of (o := .lst [V.int 0, V.int 3, V.int sz]) n7
      have hpq := hpK.same stq
      have tqp : tq ≠ p := hpK.ne ntq
      have htq := sl7 _ _ (upd_same (H := KA) (a := tq) (o := .tup []))
      obtain ⟨ysK, hplK⟩ := pail_lst (hpq.same sl7)
      refine ⟨p, l7, _, rfl, hpq.ne n7, upd_same, (by show 0 < 3; decide), (by show 3 < 1000000; decide), hpq.same sl7, fun v KB hv hpB bB' => ?_⟩
      obtain ⟨e, rfl⟩ : ∃ e : Int, v = .int e := by
        simp only [List.mem_cons, List.not_mem_nil, or_false] at hv
        rcases hv with h | h | h <;> exact ⟨_, h⟩
      have hTB := tabs_butL hplK bB' (hT7.ext (stq.trans sl7))
      have bL : ButN p KA KB := ButN.of ((But.of (stq.trans sl7)).trans bB')
      have htB := bB' _ _ tqp htq
      refine ⟨o, tq, e, rfl, [], hgo, ⟨[], .inl htB, .nil⟩, pic_nil, fun rq Kq sq nq hq => ?_⟩
      have hSq : RndW K C Kq rq o e [] := ⟨⟨tq, hq, ⟨[], .inl (sq _ _ htB), .nil⟩⟩, hgo, pic_nil⟩
      have hTq := hTB.ext sq
      have hpQ := hpB.same sq
      have bQ : ButN p KA Kq := bL.trans (ButN.ext (ext_same sq))
      have hFq := (rnd_ext hF7 bQ).same del_sub
      have hBq := (rnd_ext hB7 bQ).same del_sub
      have bZ := bK.trans bQ
      clear hF7 hB7 htB hplK bB' bL hq hv hT7
      have okO : okD (.int o) = true := okI (by rcases hgo with h | h | h | h <;> rw [h] <;> decide)
      have dvO : ∀ {HZ : Hp}, Dq K HZ (.int o) (.int o) := .plain (.int _)
      dsimp only [gName, tNext, List.set, L2.start, List.map, List.length, List.replicate, List.append]
      refine got_new (i := 7) (v := .int o) (d := .int o) (n := "OtherLevels") (x := xO) hTq okO dvO xmO (.inr (.inr (.inr (.inl ⟨rfl, rfl, rfl⟩)))) (fun H8 E Q e8 up => ⟨_, rfl, _, rfl, _, _, rfl, rnd_oth (rnd_ext hBq e8) (rnd_ext hSq e8) one up⟩) fun g Hb K1 eb nb e1 hT1 W1 => ?_
      have hFb := rnd_ext hFq eb
      have hBb := rnd_ext hBq eb
      have hSb := rnd_ext hSq eb
      refine got_add (i := 7) (v := .int o) (d := .int o) (n := "OtherLevels") (x := xO) rfl W1 (by decide) nb e1 hT1 okO dvO xmO (.inr (.inr (.inr (.inl ⟨rfl, rfl, rfl⟩)))) (fun H8 E Q e8 up => ⟨_, rfl, _, rfl, _, _, rfl, rnd_oth (rnd_ext hBb e8) (rnd_ext hSb e8) one up⟩) fun K2 e2 hT2 W2 => ?_
      refine got_add (i := 7) (v := .int o) (d := .int o) (n := "OtherLevels") (x := xO) rfl W2 (by decide) nb e2 hT2 okO dvO xmO (.inr (.inr (.inr (.inl ⟨rfl, rfl, rfl⟩)))) (fun H8 E Q e8 up => ⟨_, rfl, _, rfl, _, _, rfl, .inl (rnd_oth (rnd_ext hFb e8) (rnd_ext hSb e8) one up)⟩) fun K3 e3 hT3 W3 => ?_
      refine got_add (i := 7) (v := .int o) (d := .int o) (n := "OtherLevels") (x := xO) rfl W3 (by decide) nb e3 hT3 okO dvO xmO (.inr (.inr (.inr (.inl ⟨rfl, rfl, rfl⟩)))) (fun H8 E Q e8 up => ⟨_, rfl, _, rfl, _, _, rfl, .inl (rnd_oth (rnd_ext hBb e8) (rnd_ext hSb e8) one up)⟩) fun K4 e4 hT4 W4 => ?_
      have f4 := fine4 (n := "OtherLevels") (x := .int o) (by decide +kernel) (asc_ok (asc_nS o))
      have f4' := f4
      unfold fineB at f4'
      rw [Bool.and_eq_true] at f4'
      refine row_ne (r := rEqD K) (d := .int o) (m := 4) (n := "OtherLevels") (g := g) ?_ ?_ W4 (by decide) f4 fun x y KC sKC dx dy => ⟨_, _, dx, dy, f4'.1, f4'.1, ?_⟩
      · exact val_var rfl
      · exact fun H' _ Q q => ⟨_, rfl, o, rfl, logI (by rcases hgo with h | h | h | h <;> rw [h] <;> decide), q⟩
      rw [f4'.2]
      have eZ := eb.trans (e4.trans (ext_same sKC))
      exact q KC (bZ.trans (ButN.ext eZ)) (hpQ.ext eZ) (hT4.ext sKC)
end
end Lamp
set_option Elab.async false
set_option linter.all false
set_option maxRecDepth 100000
set_option maxHeartbeats 4000000
namespace Lamp
open PySem PySem.Spec PyProof.Rows L2 LamX
/-! the law's judging -/
abbrev rightN : List Str := ["_law_pail", "_law_crowd_here", "_law_mine", "_law_near", "_law_turn", "_law_thing_here", "_law_odd", "_law_got", "_law_bad"]
def spRight (K : PySem.W.Frag) (T : List (Addr × Str)) : Sp := fun vs H Q _ => ∃ (p : Addr), vs = [.ref p] ∧ Pail H p ∧ Tabs T H ∧ ∀ H', ButN p H H' → Tabs T H' → Q (.bl true) H'
def bads : List PyData := [.int 0, .int (-1), .int (-(10 ^ (30 : Int).toNat)), .none, .bool true, .str "1", .tuple [.int 1]]
theorem things_f7 : things.all (fineB "NotRound" 7) = true := by decide +kernel
theorem things_f12 : things.all (fineB "NotLot" 12) = true := by decide +kernel
theorem things_f3 : things.all (fineB "NotLot" 3) = true := by decide +kernel
theorem bads_f2 : bads.all (fineB "InvalidNumber" 2) = true := by decide +kernel
theorem bads_ok : bads.all okD = true := by decide +kernel
theorem bads_no : ∀ d ∈ bads, whole (tOf d) = false ∨ ∃ i, d = .int i ∧ i < 1 := by
  intro d hd
  unfold bads at hd
  simp only [List.mem_cons, List.not_mem_nil, or_false] at hd
  rcases hd with e | e | e | e | e | e | e <;> subst e
  · exact .inr ⟨_, rfl, by decide⟩
  · exact .inr ⟨_, rfl, by decide⟩
  · exact .inr ⟨_, rfl, by decide⟩
  · exact .inl rfl
  · exact .inl rfl
  · exact .inl rfl
  · exact .inl rfl
theorem st_forL {K : PySem.W.Frag} {te : TE} {g : TG} {t1 : TS} {D : Ends} {σ : L2.St} {H : Hp} (P : Addr → Hp → Prop) (h : ∀ Q : VK, (∀ a H1, P a H1 → Q (.ref a) H1) → te σ H Q)
    (k : ∀ a H1, P a H1 → ∃ (xs : List V) (Pv : Nat → L2.St → Hp → Prop), SqL K H1 a xs ∧ Pv 0 σ H1 ∧ (∀ i σ H, i ≤ xs.length → Pv i σ H → SqL K H a xs) ∧ (∀ i x σ H, xs[i]? = some x → Pv i σ H → g x σ H fun σ2 H2 => t1 { D with nx := Pv (i + 1), ct := Pv (i + 1), bk := D.nx } σ2 H2) ∧ ∀ σ H, Pv xs.length σ H → D.nx σ H) :
    tFor (iList K te) g t1 D σ H := h _ fun a H1 p => by
  obtain ⟨xs, Pv, h1, h2, h3, h4, h5⟩ := k a H1 p
  exact ⟨a, rfl, ⟨xs, h1⟩, for_list Pv h2 h3 h4 h5⟩
theorem dq_int {K : PySem.W.Frag} {H : Hp} {w : V} {i : Int} (h : Dq K H w (.int i)) : w = .int i := by
  cases h with
  | plain h =>
    cases h
    rfl
theorem Within.near {r : Parts} (h : Within 24 r) : NearR r.ls r.fin := by
  have ab : ∀ z : Int, -40 ≤ z → z ≤ 40 → sizeI z ≤ 40 := fun z h1 h2 => by unfold sizeI; split <;> omega
  have := h.lo
  have := h.hi
  intro x hx
  unfold sizesOf at hx
  rcases List.mem_append.mp hx with z | z
  · obtain ⟨q, hq, rfl⟩ := List.mem_map.mp z
    have h1 : -24 ≤ q.1 ∧ q.1 ≤ 24 := h.pl q hq
    exact ab _ (by omega) (by omega)
  · rw [List.mem_singleton.mp z]
    exact ab _ (by omega) (by omega)
section
variable {K : PySem.W.Frag} {σ : L2.St} {H : Hp} {d : PyData} {n : Str} {te : TE} {v : V}
theorem repr_val {i : Nat} (hi : σ[i]? = some (some v)) (ok : okD d = true) (hv : Dq K H v d) : Val (tCB (rReprD K) (tCons (tVar i) tNil)) σ H (.str d.shown) := fun Q q => by
  obtain ⟨o1, o2, o3⟩ := okD_of ok
  exact ⟨_, hi, _, d, rfl, hv, o1, o2, o3, q⟩
theorem row_rep {g : Addr} {m : Nat} {Q : VK} (he : Val te σ H (.str d.shown)) (R : Row H g n d.shown m) (hm : m < 20)
    (hr : ∀ (y : Addr) (H' : Hp), Same H H' → Dp K H' (.ref g) (rowD n d m) → Dp K H' (.ref y) (rowD n d m) → Q (.ref y) H') :
    tOp rRep (tLst (tCons (tLst (tCons (tC (.str n)) (tCons te tNil))) tNil)) (tC (.int (m : Int))) σ H Q := by
  refine he _ ?_
  refine ⟨(by show 2 ≤ sizeLine; decide), fun l n1 => ⟨(by show 1 ≤ sizeLine; decide), fun l2 n2 => ⟨l2, _, _, rfl, rfl, upd_same, by omega, by omega, ?_, fun l3 n3 => ?_⟩⟩⟩
  · show 1 * ((m : Int)).toNat ≤ sizeLine
    have : (20 : Nat) < sizeLine := by decide
    omega
  · have s1 := same_of (o := .lst [V.str n, V.str d.shown]) n1
    have s2 := same_of (o := .lst [V.ref l]) n2
    have s3 := same_of (o := .lst (List.replicate ((m : Int)).toNat [V.ref l]).flatten) n3
    have hl := s3 _ _ (s2 _ _ (upd_same (H := H) (a := l) (o := .lst [V.str n, V.str d.shown])))
    have R2 : Row (upd (upd (upd H l (.lst [V.str n, V.str d.shown])) l2 (.lst [V.ref l])) l3 (.lst (List.replicate ((m : Int)).toNat [V.ref l]).flatten)) l3 n d.shown m := by
      refine ⟨List.replicate m l, ?_, List.length_replicate, fun q hq => ?_⟩
      · rw [upd_same, show ((m : Int)).toNat = m by omega]
        congr 2
        clear hm s3 hl n3 R hr
        induction m with
        | zero => rfl
        | succ m ih => rw [List.replicate_succ, List.flatten_cons, ih, List.replicate_succ]; rfl
      · rw [List.eq_of_mem_replicate hq]
        exact hl
    exact hr l3 _ (s1.trans (s2.trans s3)) (R.same (s1.trans (s2.trans s3))).dp R2.dp
end
section
variable {P : Program} {w : World} {K : PySem.W.Frag} {mg : Str → Option Value} {base : Heap} {C L xL xR xN xO xT cA cB cC : Addr}
theorem scRight : FnScope rightN ["_law_pail"] (defScope sRight) := ⟨rfl, rfl, rfl, by decide +kernel, rfl, by decide +kernel, by decide +kernel⟩
local macro_rules | `(tactic| walk_at "evp") => `(tactic| first
  | exact evp_non
  | exact evp_bl
  | exact evp_int
  | exact evp_str
  | (refine' evp_neg ?ha; (case ha => walk_at "evp"))
  | exact evp_pow ⟨by decide, by decide, by decide⟩
  | (refine' evp_tup ?ha ?hb; (case ha => walk_at "evps"); (case hb => decide))
  | (refine' evp_lst ?ha ?hb; (case ha => walk_at "evps"); (case hb => decide)))
local macro_rules | `(tactic| walk_at "evps") => `(tactic| first
  | exact evps_nil
  | (refine' evps_cons ?ha ?hb; (case ha => walk_at "evp"); (case hb => walk_at "evps")))
local macro_rules | `(tactic| walk_at "evqs") => `(tactic| first
  | exact evqs_nil
  | (refine' evqs_cons ?ha ?hb; (case ha => first | exact evq_d0 | exact evq_d1 | (refine' evq_of ?hc; (case hc => walk_at "evp"))); (case hb => walk_at "evqs")))

theorem ok_right {f c Pt fA fB fC fD : Addr} {fd fdA fdB fdC fdD : FuncData} {T : List (Addr × Str)} (F : Fun K "_law_right" "_law_right" sRight f fd) (hcd : fd.code = .ref c) (TB : TabB base mg c Pt) (hmT : (Pt, qR) ∈ T) (hu : ∀ p ∈ T, p.1 = Pt → p.2 = qR) (Aw : AnsO P w K mg base cA cB cC (spSort K xN xL xR xO xT) 2)
    (Cw : Dr P w K mg base (spCrowd K) "_law_crowd" ["_law_pail"] 4) (Bu : Dr P w K mg base (spLotBuilt K C L) "_law_lot_built" ["_law_pail", "_law_crowd_here"] 9) (Of : Dr P w K mg base (spOf K C) "_law_of" ["_law_parts"] 6) (Tg : Dr P w K mg base (spThing K) "_law_thing" ["_law_pail"] 3)
    (GA : FnG P w K mg base 12 fA fdA ["_law_bad", "_law_odd"] (spAsk K "NotRound" 7 T)) (bA : Binds K fdA ["_law_bad", "_law_odd"] []) (mA : mg "_law_rounds_asked" = some (.ref fA)) (kA : PySem.W.keepIn K (.ref fA) = true)
    (GB : FnG P w K mg base 12 fB fdB ["_law_bad", "_law_odd"] (spAsk K "NotLot" 12 T)) (bB : Binds K fdB ["_law_bad", "_law_odd"] []) (mB : mg "_law_lots_asked" = some (.ref fB)) (kB : PySem.W.keepIn K (.ref fB) = true)
    (GC : FnG P w K mg base 12 fC fdC ["_law_mine", "_law_near", "_law_bad"] (spSec K C L T)) (bC : Binds K fdC ["_law_mine", "_law_near", "_law_bad"] []) (mC : mg "_law_seconds" = some (.ref fC)) (kC : PySem.W.keepIn K (.ref fC) = true)
    (GD : FnG P w K mg base 12 fD fdD ["_law_pail", "_law_mine", "_law_near"] (spFar K C L T)) (bD : Binds K fdD ["_law_pail", "_law_mine", "_law_near"] []) (mD : mg "_law_far_right" = some (.ref fD)) (kD : PySem.W.keepIn K (.ref fD) = true)
    (Sa : DrX P w K mg base (spLsE K C L xL) "same" ["lot", "other"] 5) (CSa : DrX P w K mg base (spLsE K C L xL) "certify_same" ["lot", "other"] 6) (Rt : DrX P w K mg base (spRtE K C xR xN) "root" ["trip", "times"] 4) (CRt : DrX P w K mg base (spRtE K C xR xN) "certify_root" ["trip", "times"] 5) (WiB : DrBX P w K mg base (spLsE K C L xL) "within" ["lot", "other"] 5) (xmL : PySem.W.exmAny K (.ref xL) [.ref cA, .ref cB, .ref cC] = some true) (xmN : PySem.W.exmAny K (.ref xN) [.ref cA, .ref cB, .ref cC] = some true) (m_range : mg "range" = none) (m_repr : mg "repr" = none) : FnG P w K mg base 13 f fd ["_law_pail"] (spRight K T) := by
  refine okGC F scRight (fun vs H Q E h => ?_) (fun cdv A outer s H vs Q E hcv hgd hr h => ?_)
  · obtain ⟨p, rfl, _⟩ := h
    rfl
  · obtain ⟨p, rfl, hp, hT, q⟩ := h
    have hu' := hu
    have hu := hr.units
    have ec : cdv = .ref c := hcv.symm.trans hcd
    subst ec
    refine ⟨_, (pss_cons (ps_set (i := 1) scRight.nd rfl (.inl rfl) (pe_dr Cw (by decide) hr rfl (pa_cons (pv 0) pa_nil)))
      (pss_cons (ps_asg (pe_tup (pa_cons (pe_dr Bu (by decide) hr rfl (pa_cons (pv 0) (pa_cons (pv 1) pa_nil))) (pa_cons (pe_dr Of (by decide) hr rfl (pa_cons (pe_ix (r := rIxL K) ix_list (pv 1) pe_int (fun _ _ => rfl)) pa_nil)) pa_nil))) (pg_tup rfl (pgs_cons (pg_name (i := 2) scRight.nd rfl (Or.inr rfl)) (pgs_cons (pg_name (i := 3) scRight.nd rfl (Or.inr rfl)) pgs_nil))))
      (pss_cons (ps_for PassesOwn.never rfl (pi_range1 rfl m_range (pa_cons pe_int pa_nil)) (pg_name (i := 4) scRight.nd rfl (Or.inl rfl))
        (pss_cons (ps_asg (pe_tup (pa_cons (pe_dr Tg (by decide) hr rfl (pa_cons (pv 0) pa_nil)) (pa_cons (pe_dr Tg (by decide) hr rfl (pa_cons (pv 0) pa_nil)) pa_nil))) (pg_tup rfl (pgs_cons (pg_name (i := 5) scRight.nd rfl (Or.inr rfl)) (pgs_cons (pg_name (i := 6) scRight.nd rfl (Or.inl rfl)) pgs_nil))))
      (pss_cons (ps_if (pt_cmpR (op_neD hu) (pe_callG GA hgd hr rfl mA kA bA (pa_cons (pv 5) (pa_cons (pv 6) pa_nil))) (pe_op op_rep (pe_lst (pa_cons (pe_lst (pa_cons pe_str (pa_cons (pe_callB (call_reprD hgd hu) (by rfl) m_repr (by decide +kernel) (pa_cons (pv 5) pa_nil)) pa_nil))) pa_nil)) pe_int) (nomark _)) pss_never pss_nil)
      (pss_cons (ps_if (pt_cmpR (op_neD hu) (pe_callG GB hgd hr rfl mB kB bB (pa_cons (pv 5) (pa_cons (pv 6) pa_nil))) (pe_op op_rep (pe_lst (pa_cons (pe_lst (pa_cons pe_str (pa_cons (pe_callB (call_reprD hgd hu) (by rfl) m_repr (by decide +kernel) (pa_cons (pv 5) pa_nil)) pa_nil))) pa_nil)) pe_int) (nomark _)) pss_never pss_nil)
      (pss_cons (ps_if (PW.pt (pw_or (pt_cmpR (op_neD hu) (pe_callG GC hgd hr rfl mC kC bC (pa_cons (pv 2) (pa_cons (pv 3) (pa_cons (pv 5) pa_nil)))) (pe_op op_rep (pe_lst (pa_cons (pe_lst (pa_cons pe_str (pa_cons (pe_callB (call_reprD hgd hu) (by rfl) m_repr (by decide +kernel) (pa_cons (pv 5) pa_nil)) pa_nil))) pa_nil)) pe_int) (nomark _)) (pw_or1 (pt_not (pt_val (pe_callG GD hgd hr rfl mD kD bD (pa_cons (pv 0) (pa_cons (pv 2) (pa_cons (pv 3) pa_nil))))))))) pss_never pss_nil)
      (pss_cons (ps_set (i := 7) scRight.nd rfl (.inl rfl) (pe_lst (pa_cons (pe_ansO (t := fun E => tCallX (spLsE K C L xL) E (tCons (tVar 2) (tCons (tVar 5) tNil))) (k := 9) Aw (by decide) hgd (hr.mono (by decide)) rfl TB rfl hmT hu' (lamS_by (by show lamSB (defScope sRight) _ = true; decide +kernel)) rfl (fun _ _ _ _ _ => rfl)
            (fun A' outer' s' H' E' f' c' hr' => by
              refine pe_body2 Sa ?_ ?_ ?_ ?_ ?_ ?_
              · decide
              · exact hr'
              · exact passes_lam2
              · rfl
              · exact pv 2 rfl (.inr (.inr rfl))
              · exact pv 5 rfl (.inr (.inr rfl)))) pa_nil)))
      (pss_cons (ps_expr (pe_bm PySem.F.plainAttrs_list PySem.F.slot_list_append PySem.F.type_list_append mt_append (pv 7) (pa_cons (pe_ansO (t := fun E => tCallBX (spLsE K C L xL) E (tCons (tVar 5) (tCons (tVar 2) tNil))) (k := 9) Aw (by decide) hgd (hr.mono (by decide)) rfl TB rfl hmT hu' (lamS_by (by show lamSB (defScope sRight) _ = true; decide +kernel)) rfl (fun _ _ _ _ _ => rfl)
            (fun A' outer' s' H' E' f' c' hr' => by
              refine pe_drBX WiB (j := 9) ?_ ?_ ?_ ?_ ?_
              · decide
              · exact hr'
              · rfl
              · exact passes_lam2
              · exact pk_cons (pv 5 rfl (.inr (.inr rfl))) (pk_cons (pv 2 rfl (.inr (.inr rfl))) pk_nil))) pa_nil)))
      (pss_cons (ps_expr (pe_bm PySem.F.plainAttrs_list PySem.F.slot_list_append PySem.F.type_list_append mt_append (pv 7) (pa_cons (pe_ansO (t := fun E => tCallX (spLsE K C L xL) E (tCons (tVar 2) (tCons (tVar 5) tNil))) (k := 9) Aw (by decide) hgd (hr.mono (by decide)) rfl TB rfl hmT hu' (lamS_by (by show lamSB (defScope sRight) _ = true; decide +kernel)) rfl (fun _ _ _ _ _ => rfl)
            (fun A' outer' s' H' E' f' c' hr' => by
              refine pe_body2 CSa ?_ ?_ ?_ ?_ ?_ ?_
              · decide
              · exact hr'
              · exact passes_lam2
              · rfl
              · exact pv 2 rfl (.inr (.inr rfl))
              · exact pv 5 rfl (.inr (.inr rfl)))) pa_nil)))
      (pss_cons (ps_if (pt_cmpR (op_neD hu) (pv 7) (pe_op op_rep (pe_lst (pa_cons (pe_lst (pa_cons pe_str (pa_cons (pe_callB (call_reprD hgd hu) (by rfl) m_repr (by decide +kernel) (pa_cons (pv 5) pa_nil)) pa_nil))) pa_nil)) pe_int) (nomark _)) pss_never pss_nil)
      (pss_one (ps_for PassesOwn.never rfl (pi_list (pe_lst (pa_cons pe_int (pa_cons (pe_un un_neg pe_int) (pa_cons (pe_un un_neg (pe_op op_pow pe_int pe_int)) (pa_cons pe_non (pa_cons pe_bl (pa_cons pe_str (pa_cons (pe_tup (pa_cons pe_int pa_nil)) pa_nil))))))))) (pg_name (i := 8) scRight.nd rfl (Or.inr rfl))
        (pss_cons (ps_set (i := 7) scRight.nd rfl (.inl rfl) (pe_lst (pa_cons (pe_ansO (t := fun E => tCallX (spRtE K C xR xN) E (tCons (tVar 3) (tCons (tVar 8) tNil))) (k := 9) Aw (by decide) hgd (hr.mono (by decide)) rfl TB rfl hmT hu' (lamS_by (by show lamSB (defScope sRight) _ = true; decide +kernel)) rfl (fun _ _ _ _ _ => rfl)
            (fun A' outer' s' H' E' f' c' hr' => by
              refine pe_body2 Rt ?_ ?_ ?_ ?_ ?_ ?_
              · decide
              · exact hr'
              · exact passes_lam2
              · rfl
              · exact pv 3 rfl (.inr (.inr rfl))
              · exact pv 8 rfl (.inr (.inr rfl)))) pa_nil)))
      (pss_cons (ps_expr (pe_bm PySem.F.plainAttrs_list PySem.F.slot_list_append PySem.F.type_list_append mt_append (pv 7) (pa_cons (pe_ansO (t := fun E => tCallX (spRtE K C xR xN) E (tCons (tVar 3) (tCons (tVar 8) tNil))) (k := 9) Aw (by decide) hgd (hr.mono (by decide)) rfl TB rfl hmT hu' (lamS_by (by show lamSB (defScope sRight) _ = true; decide +kernel)) rfl (fun _ _ _ _ _ => rfl)
            (fun A' outer' s' H' E' f' c' hr' => by
              refine pe_body2 CRt ?_ ?_ ?_ ?_ ?_ ?_
              · decide
              · exact hr'
              · exact passes_lam2
              · rfl
              · exact pv 3 rfl (.inr (.inr rfl))
              · exact pv 8 rfl (.inr (.inr rfl)))) pa_nil)))
      (pss_one (ps_if (pt_cmpR (op_neD hu) (pv 7) (pe_op op_rep (pe_lst (pa_cons (pe_lst (pa_cons pe_str (pa_cons (pe_callB (call_reprD hgd hu) (by rfl) m_repr (by decide +kernel) (pa_cons (pv 8) pa_nil)) pa_nil))) pa_nil)) pe_int) (nomark _)) pss_never pss_nil)))))))))))))))
      (pss_one (ps_ret pe_bl))))), ?_⟩
    refine ⟨_, rfl, p, rfl, hp, fun g0 rs H1 hgr hc hp1 b1 => ?_⟩
    obtain ⟨ys0, hpl0⟩ := pail_lst hp
    have hT1 := tabs_butL hpl0 b1 hT
    dsimp only [gName, List.set, L2.start, List.map, List.length, List.replicate, List.append]
    refine ⟨_, rfl, _, rfl, p, g0, rs, rfl, hp1, hc, hgr, fun a t H2 b2 hp2 hA => ?_⟩
    obtain ⟨ys1, hpl1⟩ := pail_lst hp1
    have hT2 := tabs_butL hpl1 b2 hT1
    have hc2 : CrowdAt K (delH H2 p) g0 rs := hc.same b2.del
    have hc2' := hc2.same del_sub
    obtain ⟨r0, rs', rfl⟩ : ∃ r0 rs', rs = r0 :: rs' := by
      cases rs with
      | nil => exact absurd rfl hgr.ne
      | cons r0 rs' => exact ⟨r0, rs', rfl⟩
    obtain ⟨ls, hsq, hpa⟩ := hc2'
    obtain ⟨l0, ls', rfl⟩ : ∃ l0 ls', ls = l0 :: ls' := by
      cases hpa with
      | cons _ _ => exact ⟨_, _, rfl⟩
    obtain ⟨hok, hlv, hwi⟩ := hgr.each r0 (List.mem_cons_self ..)
    obtain ⟨t0, hpr⟩ : ∃ t, PartsAt K H2 l0 t r0 := by
      cases hpa with
      | cons h _ => exact h
    refine ⟨_, rfl, g0, _, 0, _, rfl, rfl, hsq, (by exact fb_ix (n := 0) rfl), l0, t0, r0, rfl, hpr, hok, fun b H3 s3 nb hrb => ⟨(by show 2 ≤ sizeLine; decide), fun t2 n2 => ?_⟩⟩
    have s2 := same_of (o := .tup [V.ref a, V.ref b]) n2
    refine ⟨t2, [.ref a, .ref b], rfl, .inl (.inl upd_same), rfl, _, _, rfl, _, _, rfl, rfl, ?_⟩
    have hT3 := (hT2.ext s3).ext s2
    have hp3 := (hp2.same s3).same s2
    obtain ⟨x1, x2, x3, hx, _⟩ := id hp3
    have hA3 : LotAt K C L (delH (upd H3 t2 (.tup [V.ref a, V.ref b])) p) a t (r0 :: rs') := hA.same (same_delH (s3.trans s2))
    have hB3 : RndW K C (delH (upd H3 t2 (.tup [V.ref a, V.ref b])) p) b r0.lv r0.fin r0.ls := rnd_delL ((⟨⟨t0, hrb, (hpr.2.same s3).at⟩, hok.lv, hok.pic.w⟩ : RndW K C H3 b r0.lv r0.fin r0.ls).same s2) hx
    have near : NearR r0.ls r0.fin := hwi.near
    have bA : ButN p H (upd H3 t2 (.tup [V.ref a, V.ref b])) := ButN.of (b1.trans (b2.trans (But.of (s3.trans s2))))
    clear hx hpl0 hpl1 hT1 hT2 hT hp hp1 hp2 hc hc2 hsq hpa hpr hrb s2 s3 n2 nb hA b1 b2
    generalize upd H3 t2 (.tup [V.ref a, V.ref b]) = H4 at *
    dsimp only [gName, List.set, L2.start, List.map, List.length, List.replicate, List.append]
    refine sq_forRn (n := 3) (by decide) (fun i σ' H' => ∃ x4 x5 x6 x7 x8, σ' = [some (.ref p), some (.ref g0), some (.ref a), some (.ref b), x4, x5, x6, x7, x8] ∧ ButN p H4 H' ∧ Pail H' p ∧ Tabs T H')
      ⟨_, _, _, _, _, rfl, ButN.of (But.refl _ _), hp3, hT3⟩ ?_ ?_ val_c
    · rintro i σ' K0 hi ⟨x4, x5, x6, x7, x8, rfl, bt0, hpk, hTk⟩
      refine ⟨_, rfl, p, rfl, hpk, fun v d K1 hq1 hd hpk1 c1 => ?_⟩
      obtain ⟨zs0, hz0⟩ := pail_lst hpk
      have hTk1 := tabs_butL hz0 c1 hTk
      refine ⟨_, rfl, p, rfl, hpk1, fun o e K2 hq2 he hpk2 c2 => ?_⟩
      obtain ⟨zs1, hz1⟩ := pail_lst hpk1
      have hTk2 := tabs_butL hz1 c2 hTk1
      refine ⟨(by show 2 ≤ sizeLine; decide), fun t5 n5 => ⟨t5, [v, o], rfl, .inl (.inl upd_same), rfl, _, _, rfl, _, _, rfl, rfl, ?_⟩⟩
      have s5' := same_of (o := .tup [v, o]) n5
      have dv : Dq K (upd K2 t5 (.tup [v, o])) v d := dq_same s5' (dq_same del_sub (dq_same c2.del hq1))
      have dO : Dq K (upd K2 t5 (.tup [v, o])) o e := dq_same s5' (dq_same del_sub hq2)
      have dvd : Dq K (delH (upd K2 t5 (.tup [v, o])) p) v d := dq_same (same_delH s5') (dq_same c2.del hq1)
      have bt3 : ButN p H4 (upd K2 t5 (.tup [v, o])) := bt0.trans (ButN.of (c1.trans (c2.trans (But.of s5'))))
      have hp3' := hpk2.same s5'
      have hTk3 := hTk2.ext s5'
      have okd := things_okD hd
      clear hq1 hq2 c1 c2 hz0 hz1 hTk1 hTk2 hTk hpk1 hpk2 hpk s5' bt0
      generalize upd K2 t5 (.tup [v, o]) = K3 at *
      have hLA := (lot_ext hA3 bt3).same del_sub
      have hRB := (rnd_ext hB3 bt3).same del_sub
      dsimp only [gName, List.set, L2.start, List.map, List.length, List.replicate, List.append]
      refine ⟨_, rfl, _, rfl, v, o, d, e, rfl, dv, okd, dO, hTk3, fun g K4 e4 hT4 R4 => ?_⟩
      have f1 := all_at things_f7 hd
      unfold fineB at f1
      rw [Bool.and_eq_true] at f1
      refine row_rep (d := d) (m := 7) (n := "NotRound") (g := g) (repr_val rfl okd (dq_ext e4 dv)) R4 (by decide) fun y K5 s5 dx dy => ⟨_, _, dx, dy, f1.1, f1.1, ?_⟩
      rw [f1.2]
      refine ⟨false, rfl, iteF ?_⟩
      dsimp only [tNext]
      have ea := e4.trans (ext_same s5)
      have hTa := hT4.ext s5
      refine ⟨_, rfl, _, rfl, v, o, d, e, rfl, dq_ext ea dv, okd, dq_ext ea dO, hTa, fun g2 K6 e6 hT6 R6 => ?_⟩
      have f2 := all_at things_f12 hd
      unfold fineB at f2
      rw [Bool.and_eq_true] at f2
      refine row_rep (d := d) (m := 12) (n := "NotLot") (g := g2) (repr_val rfl okd (dq_ext (ea.trans e6) dv)) R6 (by decide) fun y2 K7 s7 dx2 dy2 => ⟨_, _, dx2, dy2, f2.1, f2.1, ?_⟩
      rw [f2.2]
      refine ⟨false, rfl, iteF ?_⟩
      dsimp only [tNext]
      have eb := ea.trans (e6.trans (ext_same s7))
      have hTb := hT6.ext s7
      refine ⟨_, rfl, _, rfl, _, rfl, a, t, b, v, d, _, _, _, _, rfl, lot_ext hLA eb, rnd_ext hRB eb, dq_ext eb dv, okd, hTb, fun g3 K8 e8 hT8 R8 => ?_⟩
      refine row_rep (d := d) (m := 7) (n := "NotRound") (g := g3) (repr_val rfl okd (dq_ext (eb.trans e8) dv)) R8 (by decide) fun y3 K9 s9 dx3 dy3 => ⟨_, _, dx3, dy3, f1.1, f1.1, ?_⟩
      rw [f1.2]
      have ec := eb.trans (e8.trans (ext_same s9))
      have hTc := hT8.ext s9
      have hpc := hp3'.ext ec
      have bc : ButN p H4 K9 := bt3.trans (ButN.ext ec)
      refine ⟨false, rfl, iteF ?_⟩
      refine ⟨_, rfl, _, rfl, _, rfl, p, a, t, b, _, _, _, _, rfl, hpc, lot_ext hA3 bc, rnd_ext hB3 bc, near, hTc, fun KD bD' hpD hTD => ?_⟩
      refine ⟨true, rfl, iteF ?_⟩
      dsimp only [tNext]
      have bd := bc.trans bD'
      have hLd := (lot_ext hA3 bd).same del_sub
      have hRd := (rnd_ext hB3 bd).same del_sub
      have dvD : Dq K KD v d := dq_same del_sub (dq_ext ((ButN.ext ec).trans bD') dvd)
      clear R4 R6 R8 dx dy dx2 dy2 dx3 dy3 hLA hRB dv dvd hTa hTb hTc hT4 hT6 hT8 f1 f2 dO
      refine got_new (i := 7) (v := v) (d := d) (n := "NotLot") (x := xL) hTD okd dvD xmL (.inr (.inl ⟨rfl, rfl, rfl⟩)) (fun H8 E Q e8 up => ⟨_, rfl, _, rfl, _, v, rfl, .inr ⟨⟨a, t, _, rfl, lot_ext hLd e8⟩, _, an_dq (dq_ext e8 dvD), up⟩⟩) fun g4 Kb K10 eb' nb' e10 hT10 R10 => ?_
      have dvb := dq_ext eb' dvD
      have hLb := lot_ext hLd eb'
      refine got_add (i := 7) (v := v) (d := d) (n := "NotLot") (x := xL) rfl R10 (by decide) nb' e10 hT10 okd dvb xmL (.inr (.inl ⟨rfl, rfl, rfl⟩)) (fun H8 E Q e8 up => ⟨_, rfl, _, rfl, _, v, rfl, .inr ⟨⟨a, t, _, rfl, lot_ext hLb e8⟩, _, an_dq (dq_ext e8 dvb), up⟩⟩) fun K11 e11 hT11 R11 => ?_
      refine got_add (i := 7) (v := v) (d := d) (n := "NotLot") (x := xL) rfl R11 (by decide) nb' e11 hT11 okd dvb xmL (.inr (.inl ⟨rfl, rfl, rfl⟩)) (fun H8 E Q e8 up => ⟨_, rfl, _, rfl, _, v, rfl, .inr ⟨⟨a, t, _, rfl, lot_ext hLb e8⟩, _, an_dq (dq_ext e8 dvb), up⟩⟩) fun K12 e12 hT12 R12 => ?_
      have f3 := all_at things_f3 hd
      unfold fineB at f3
      rw [Bool.and_eq_true] at f3
      refine ⟨_, rfl, row_rep (d := d) (m := 3) (n := "NotLot") (g := g4) (repr_val rfl okd (dq_ext e12 dvb)) R12 (by decide) fun y4 K13 s13 dx4 dy4 => ⟨_, _, dx4, dy4, f3.1, f3.1, ?_⟩⟩
      rw [f3.2]
      refine ⟨false, rfl, iteF ?_⟩
      dsimp only [tNext]
      have ee := eb'.trans (e12.trans (ext_same s13))
      have hT13 := hT12.ext s13
      have hp13 := hpD.ext ee
      have hR13 := rnd_ext hRd ee
      have b13 := bd.trans (ButN.ext ee)
      clear R10 R11 R12 dx4 dy4 hT10 hT11 hT12 dvb hLb hLd hRd dvD f3
      refine st_forL (K := K) (fun l H1 => ∃ ws, H1 l = some (.lst ws) ∧ Same K13 H1 ∧ Paired (Dq K (delH H1 p)) ws bads) (fun Q q => ?_) (fun lw KL z => ?_)
      · refine (show EvQs K p _ bads by walk_at "evqs") _ _ hp13 _ fun ws H' s' hws => ?_
        refine ⟨(by rw [Paired.length hws]; decide), fun l nl => ?_⟩
        have sl := same_of (o := .lst ws) nl
        exact q l _ ⟨ws, upd_same, s'.trans sl, paired_same (same_delH sl) hws⟩
      obtain ⟨ws, hlw, s14, hws⟩ := z
      have hT14 := hT13.ext s14
      have hR14 := hR13.same s14
      refine ⟨ws, (fun _ σ' H' => ∃ x7 x8, σ' = [some (.ref p), some (.ref g0), some (.ref a), some (.ref b), some (.int (i : Int)), some v, some o, x7, x8] ∧ ExtN KL H' ∧ Tabs T H'), SqL.of hlw,
        ⟨_, _, rfl, ExtN.refl _, hT14⟩, fun j σ' H' _ z => ?_, fun j w σ' H' hj z => ?_, fun σ' H' z => ?_⟩
      · obtain ⟨x7, x8, rfl, e0, _⟩ := z
        exact SqL.of (e0 _ _ hlw (fun _ z => by cases z))
      · obtain ⟨x7, x8, rfl, e0, hT0⟩ := z
        obtain ⟨d', hd', hq'⟩ := paired_mem hws (List.mem_of_getElem? hj)
        have dw : Dq K H' w d' := dq_ext ((ext_same del_sub).trans e0) hq'
        have okw := all_at bads_ok hd'
        have hRw := rnd_ext hR14 e0
        have hno : whole (tOf d') = false ∨ ∃ i, w = .int i ∧ tOf d' = .int i ∧ i < 1 := by
          rcases bads_no d' hd' with z | ⟨i, rfl, z⟩
          · exact .inl z
          · exact .inr ⟨i, dq_int dw, rfl, z⟩
        have bad : ∀ {H8 : Hp} {E : XK}, RndW K C H8 b r0.lv r0.fin r0.ls → Dq K H8 w d' → Up E H8 xN w → ∀ {B : Prop}, B ∨ (∃ (a t : Addr) (lv fin : Int) (u : _), (V.ref b) = .ref a ∧ RoundAt C H8 a lv t fin ∧ An K H8 w u ∧ Up E H8 xN w ∧ (whole u = false ∨ ∃ i, w = .int i ∧ u = .int i ∧ i < 1)) := fun h hq up => by
          obtain ⟨⟨tt, h1, _⟩, _, _⟩ := h
          exact .inr ⟨b, tt, _, _, _, rfl, h1, an_dq hq, up, hno⟩
        refine got_new (i := 7) (v := w) (d := d') (n := "InvalidNumber") (x := xN) hT0 okw dw xmN (.inl ⟨rfl, rfl, rfl⟩) (fun H8 E Q e8 up => ⟨_, rfl, _, rfl, _, w, rfl, bad (rnd_ext hRw e8) (dq_ext e8 dw) up⟩) fun g5 Kc K15 ec' nc' e15 hT15 R15 => ?_
        have dwc := dq_ext ec' dw
        have hRc := rnd_ext hRw ec'
        refine got_add (i := 7) (v := w) (d := d') (n := "InvalidNumber") (x := xN) rfl R15 (by decide) nc' e15 hT15 okw dwc xmN (.inl ⟨rfl, rfl, rfl⟩) (fun H8 E Q e8 up => ⟨_, rfl, _, rfl, _, w, rfl, bad (rnd_ext hRc e8) (dq_ext e8 dwc) up⟩) fun K16 e16 hT16 R16 => ?_
        have f2 := all_at bads_f2 hd'
        unfold fineB at f2
        rw [Bool.and_eq_true] at f2
        refine ⟨_, rfl, row_rep (d := d') (m := 2) (n := "InvalidNumber") (g := g5) (repr_val rfl okw (dq_ext e16 dwc)) R16 (by decide) fun y5 K17 s17 dx5 dy5 => ⟨_, _, dx5, dy5, f2.1, f2.1, ?_⟩⟩
        rw [f2.2]
        refine ⟨false, rfl, iteF ?_⟩
        exact ⟨_, _, rfl, e0.trans (ec'.trans (e16.trans (ext_same s17))), hT16.ext s17⟩
      · obtain ⟨x7, x8, rfl, e0, hT0⟩ := z
        have eF := (ext_same s14).trans e0
        exact ⟨_, _, _, _, _, rfl, b13.trans (ButN.ext eF), hp13.ext eF, hT0⟩
    · rintro σ' K0 ⟨x4, x5, x6, x7, x8, rfl, bt0, hpk, hTk⟩
      exact q K0 (bA.trans bt0) hTk
end
end Lamp
set_option Elab.async false
set_option linter.all false
set_option maxRecDepth 100000
set_option maxHeartbeats 2000000
namespace Lamp
open PySem PySem.Spec PyProof.Rows L2 LamX
section
variable {P : Program} {w : World} {K : PySem.W.Frag} {mg : Str → Option Value} {base : Heap}
theorem scLaw : FnScope ["_law_script", "_law_turn"] ["_law_script"] (defScope sLaw) := ⟨rfl, rfl, rfl, by decide +kernel, rfl, by decide +kernel, by decide +kernel⟩
def spLaw (K : PySem.W.Frag) (T : List (Addr × Str)) : Sp := fun vs H Q _ => ∃ (a : Addr) (ns : List Int), vs = [.ref a] ∧ SqL K H a (ns.map V.int) ∧ ns.length ≤ 63 ∧ (∀ z ∈ ns, Builtin.Int.intBits z ≤ 1048576) ∧ Tabs T H ∧ ∀ H', Q (.bl true) H'
theorem ok_law {f fR : Addr} {fd fdR : FuncData} {T : List (Addr × Str)} (F : Fun K "law" "law" sLaw f fd)
    (GR : FnG P w K mg base 13 fR fdR ["_law_pail"] (spRight K T)) (bR : Binds K fdR ["_law_pail"] []) (mR : mg "_law_right" = some (.ref fR)) (kR : PySem.W.keepIn K (.ref fR) = true)
    (Bg : Dr P w K mg base (spBegun K) "_law_begun" ["_law_script", "_law_turn"] 1)
    (mr : mg "range" = none) (ml : mg "len" = none) (mall : mg "all" = none) (mmax : mg "max" = none) (mmin : mg "min" = none) :
    FnG P w K mg base 14 f fd ["_law_script"] (spLaw K T) := by
  refine okG F scLaw (fun vs H Q E h => ?_) (fun cdv Ar outer s H vs Q E hgd hr h => ?_)
  · obtain ⟨a, ns, rfl, _⟩ := h
    rfl
  · obtain ⟨a, ns, rfl, hS1, hlen, hbits, hT, q⟩ := h
    refine ⟨_, pss_one (ps_ret (pe_callB (cr_all rfl) (by rfl) mall (by decide +kernel) (pa_cons (pe_lc (own := [("_law_turn", 1)]) (g := gName 1) (tt := tYes) rfl scLaw.nd
          (pi_range1 rfl mr (pa_cons (pe_callB (call_max2 rfl) (by rfl) mmax (by decide +kernel) (pa_cons pe_int (pa_cons (pe_callB (call_min2 rfl) (by rfl) mmin (by decide +kernel) (pa_cons (pe_callB call_len_seq (by rfl) ml PySem.boot_len (pa_cons (pv 0) pa_nil)) (pa_cons pe_int pa_nil))) pa_nil))) pa_nil))
          (blkOk_by (own := [("_law_turn", 1)]) (N := ["_law_script", "_law_turn"]) (sc := defScope sLaw) (by decide +kernel)) (fun _ _ _ _ _ => pg_name (i := 1) scLaw.nd rfl (Or.inl rfl)) (fun _ _ _ _ _ => pts_nil)
          (fun _ _ _ _ _ => pe_callG GR hgd hr rfl mR kR bR (pa_cons (pe_dr Bg (by decide) hr rfl (pa_cons (pv 0) (pa_cons (pv 1) pa_nil))) pa_nil))) pa_nil))), ?_⟩
    refine ⟨.ref a, rfl, a, _, rfl, .inl hS1, ?_⟩
    refine ⟨_, _, rfl, _, _, rfl, ?_⟩
    have hlenV : ((ns.map V.int).length : Nat) = ns.length := List.length_map _
    rw [hlenV]
    generalize hm : (if (if (4 : Int) < ((ns.length : Nat) : Int) then (4 : Int) else ((ns.length : Nat) : Int)) > 2 then (if (4 : Int) < ((ns.length : Nat) : Int) then (4 : Int) else ((ns.length : Nat) : Int)) else 2) = m
    have hm2 : 2 ≤ m ∧ m ≤ 4 := by
      rw [← hm]
      split
      · split <;> omega
      · omega
    obtain ⟨n, en⟩ : ∃ n : Nat, m = (n : Int) := ⟨m.toNat, by omega⟩
    subst en
    refine ⟨(n : Int), rfl, by omega, by omega, fun D hD => ?_⟩
    have e0 : ((n : Int)).toNat = n := by omega
    rw [e0]
    refine lc_range (lo := 0) (n := n) (fun i H' => ExtN H H' ∧ Tabs T H' ∧ H' D = some (.lst ((List.replicate i true).map V.bl))) ⟨ext_same (same_of hD), hT.ext (same_of hD), upd_same⟩ (fun i H' hi z => ?_) (fun H' z => ?_)
    · obtain ⟨sb, hTb, hlD⟩ := z
      have e1 : (0 : Int) + (i : Int) = (i : Int) := Int.zero_add _
      rw [e1]
      refine ⟨rfl, ?_⟩
      refine ⟨_, rfl, _, rfl, a, ns, (i : Int), rfl, sqL_ext sb hS1, hlen, hbits, by omega, by omega, fun H2 p s2 np hp => ⟨p, rfl, hp, hTb.ext s2, fun H3 bt hT3 => ?_⟩⟩
      have pD : D ≠ p := fun e => by rw [e, np] at hlD; cases hlD
      have atD : H3 D = some (.lst ((List.replicate i true).map V.bl)) := by
        have h := bt D (.lst ((List.replicate i true).map V.bl)) (by rw [delH_ne pD]; exact s2 _ _ hlD) (fun _ z => by cases z)
        rw [delH_ne pD] at h
        exact h
      refine ⟨_, atD, ?_, fun b o e n => ?_, tabs_upd atD hT3, ?_⟩
      · rw [List.length_map, List.length_replicate]
        exact small1000 (by omega)
      · have nb : b ≠ D := fun z => by rw [z, hD] at e; cases e
        have hb' := sb b o e n
        have npb : b ≠ p := fun z => by
          rw [z, np] at hb'
          cases hb'
        have h := bt b o (by rw [delH_ne npb]; exact s2 _ _ hb') n
        rw [delH_ne npb] at h
        rw [upd_ne nb]
        exact h
      · rw [upd_same, List.replicate_succ', List.map_append]
        rfl
    · refine ⟨D, List.replicate n true, rfl, SqL.of z.2.2, ?_⟩
      have e : (List.replicate n true).all id = true := by
        rw [List.all_eq_true]
        intro b hb
        exact (List.eq_of_mem_replicate hb)
      rw [e]
      exact q _
end
end Lamp
set_option Elab.async false
set_option linter.all false
set_option maxRecDepth 100000
set_option maxHeartbeats 2000000
namespace Lamp
open PySem PySem.Spec PyProof.Rows L2
/-! what the top has written of exception classes, as one answer -/
def tailOf : Nat → List Value
  | 0 => [.type "ValueError", .type "Exception", .type "BaseException", .type "object"]
  | 1 => [.type "LookupError", .type "Exception", .type "BaseException", .type "object"]
  | _ => [.type "ArithmeticError", .type "Exception", .type "BaseException", .type "object"]
def newOf : Nat → String
  | 0 => "ValueError.__new__"
  | 1 => "LookupError.__new__"
  | _ => "ArithmeticError.__new__"
def ecB (K : PySem.W.Frag) (C : Addr) (b : Nat) : Bool :=
  PySem.W.excInitIn K C (tailOf b) (newOf b) && (PySem.W.excOver K C (tailOf b) && (decide (PySem.W.findIn K (.ref C) "__setattr__" = some (some (.builtin "object.__setattr__"))) && (decide (PySem.W.findIn K (.ref C) "__getattribute__" = some (some (.builtin "BaseException.__getattribute__"))) &&
    (decide (PySem.W.findIn K (.ref C) "__getattr__" = some none) && (decide (PySem.W.subIn K (.ref C) (.type "BaseException") = some true) && (PySem.W.hasDictIn K C && (PySem.W.keepIn K (.ref C) &&
      (decide (PySem.W.findIn K (.ref C) "__class__" = some (some (.builtin "object.__class__"))) && decide (PySem.W.mroIn K C (.type "object") = some true)))))))))
theorem ecB_ok {K : PySem.W.Frag} {C : Addr} : ∀ {b : Nat}, ecB K C b = true → ∃ (B newId initId : String) (tail : List Value), EC K C B newId initId tail ∧ newId = newOf b ∧ tail = tailOf b := fun {b} h => by
  unfold ecB at h
  simp only [Bool.and_eq_true, decide_eq_true_eq] at h
  obtain ⟨h1, h2, h3, h4, h5, h6, h7, h8, h9, h10⟩ := h
  match b, h1, h2 with
  | 0, h1, h2 => exact ⟨_, _, _, _, ⟨PySem.F.excBase_ValueError, PySem.F.store_ValueError, h1, h2, h3, h4, h5, h6, h7, h8, h9, h10⟩, rfl, rfl⟩
  | 1, h1, h2 => exact ⟨_, _, _, _, ⟨PySem.F.excBase_LookupError, PySem.F.store_LookupError, h1, h2, h3, h4, h5, h6, h7, h8, h9, h10⟩, rfl, rfl⟩
  | b + 2, h1, h2 => exact ⟨_, _, _, _, ⟨PySem.F.excBase_ArithmeticError, PySem.F.store_ArithmeticError, h1, h2, h3, h4, h5, h6, h7, h8, h9, h10⟩, rfl, rfl⟩
/-- an exception class with an __init__ at f -/
def initB (K : PySem.W.Frag) (C f : Addr) (nm : Str) : Bool :=
  decide (PySem.W.findIn K (.ref C) nm = some none) && (decide (PySem.W.findIn K (.ref C) "__init__" = some (some (.ref f))) && decide (PySem.W.typeIn K (.ref f) = some (.type "function")))
def metaB (K : PySem.W.Frag) : Bool := decide (PySem.W.specialIn K (.builtin "object.__class__") "__get__" = some (some (.builtin "getset_descriptor.__get__"))) && decide (PySem.W.takesIn K (.builtin "object.__class__") = some true)
theorem metaB_ok {K : PySem.W.Frag} (h : metaB K = true) : ClsG K := by
  unfold metaB at h
  rw [Bool.and_eq_true] at h
  exact ⟨of_decide_eq_true h.1, of_decide_eq_true h.2⟩
theorem xc_mk {P : Program} {w : World} {K : PySem.W.Frag} {mg : Str → Option Value} {C fI : Addr} {x f : Str} {b : Nat} {fd : FuncData} (h1 : ecB K C b = true) (h2 : initB K C fI f = true) (hm : mg x = some (.ref C)) (F1 : ∀ base : Heap, FnOk P w K mg base CX0 1 fI fd ["self", f] (spInit K C f))
    (p1 : ∀ (s : Shared) (v u : Value), K.In s.heap → BindsTo s fd ⟨[v, u], []⟩ [("self", v), (f, u)]) (p2 : ∀ (s : Shared) (v u : Value), K.In s.heap → BindsTo s fd ⟨[v], [(f, u)]⟩ [("self", v), (f, u)]) : XC P w K mg C x f := by
  obtain ⟨B, n, i, t, T, _⟩ := ecB_ok h1
  unfold initB at h2
  simp only [Bool.and_eq_true, decide_eq_true_eq] at h2
  obtain ⟨g1, g2, g3⟩ := h2
  refine ⟨⟨B, n, i, t, T⟩, hm, g1, fI, fd, g2, g3, ?_, F1, p1, p2⟩
  unfold PySem.W.takerIn
  rw [g1]
  rfl
theorem xn_mk {K : PySem.W.Frag} {mg : Str → Option Value} {C : Addr} {x : Str} {b : Nat} (h1 : ecB K C b = true) (h2 : PySem.W.excIn K C (tailOf b) (newOf b) = true) (hm : mg x = some (.ref C)) : XN K mg C x := by
  obtain ⟨B, n, i, t, T, e1, e2⟩ := ecB_ok h1
  subst e1 e2
  exact ⟨⟨B, _, i, _, T, h2⟩, hm⟩
end Lamp
set_option Elab.async false
set_option linter.all false
set_option maxRecDepth 100000
set_option maxHeartbeats 2000000
namespace Lamp
open PySem PySem.Spec PyProof.Rows L2 LamX
abbrev sXN : Stmt := inClass (top 5) 0
abbrev sXL : Stmt := inClass (top 8) 0
abbrev sXR : Stmt := inClass (top 7) 0
abbrev sXO : Stmt := inClass (top 16) 0
abbrev sXT : Stmt := inClass (top 18) 0
abbrev sXI : Stmt := inClass (top 10) 0
theorem scXN : FnScope ["self", "given"] ["self", "given"] (defScope sXN) := ⟨rfl, rfl, rfl, by decide +kernel, rfl, by decide +kernel, by decide +kernel⟩
theorem scXL : FnScope ["self", "given"] ["self", "given"] (defScope sXL) := ⟨rfl, rfl, rfl, by decide +kernel, rfl, by decide +kernel, by decide +kernel⟩
theorem scXR : FnScope ["self", "given"] ["self", "given"] (defScope sXR) := ⟨rfl, rfl, rfl, by decide +kernel, rfl, by decide +kernel, by decide +kernel⟩
theorem scXO : FnScope ["self", "given"] ["self", "given"] (defScope sXO) := ⟨rfl, rfl, rfl, by decide +kernel, rfl, by decide +kernel, by decide +kernel⟩
theorem scXT : FnScope ["self", "given"] ["self", "given"] (defScope sXT) := ⟨rfl, rfl, rfl, by decide +kernel, rfl, by decide +kernel, by decide +kernel⟩
theorem scXI : FnScope ["self", "index"] ["self", "index"] (defScope sXI) := ⟨rfl, rfl, rfl, by decide +kernel, rfl, by decide +kernel, by decide +kernel⟩
abbrev sAns : Stmt := top 156
theorem scAns : FnScope ansN ["_law_call_here"] (defScope sAns) := ⟨rfl, rfl, rfl, by decide +kernel, rfl, by decide +kernel, by decide +kernel⟩
theorem ans_body : ∃ (j1 j2 : Nat) (p1 p2 p3 p4 p5 p6 p7 p8 p9 p10 p11 p12 p13 p14 p15 p16 p17 p18 : Pos), defBody sAns = [.Try [.Assign [.Name "_law_got" p1] (.Call (.Name "_law_call_here" p2) [] [] p3) p4] [.ExceptHandler (some (.Tuple [.Name "WrongValue" p5, .Name "WrongName" p6, .Name "NotPossible" p7] j1 p8)) (some "_law_e") [.Return (some (.Call (.Name "_law_sort" p9) [.Name "_law_e" p10] [] p11)) p12] p13] [] [] p14,
      .Return (some (.List [.Constant (.str "back") j2 p15, .Name "_law_got" p16] p17)) p18] := ⟨_, _, _, _, _, _, _, _, _, _, _, _, _, _, _, _, _, _, _, _, rfl⟩
theorem ansO_mk {P : Program} {w : World} {K : PySem.W.Frag} {mg : Str → Option Value} {base : Heap} {cA cB cC g : Addr} {fd : FuncData} {sp : SpO} {k : Nat} (S : SortO P w K mg base sp k) (mA : mg "WrongValue" = some (.ref cA)) (mB : mg "WrongName" = some (.ref cB)) (mC : mg "NotPossible" = some (.ref cC))
    (F : Fun K "_law_answer" "_law_answer" sAns g fd) (b : Binds K fd ["_law_call_here"] []) (m : mg "_law_answer" = some (.ref g)) (kp : PySem.W.keepIn K (.ref g) = true) : AnsO P w K mg base cA cB cC sp k := by
  obtain ⟨j1, j2, p1, p2, p3, p4, p5, p6, p7, p8, p9, p10, p11, p12, p13, p14, p15, p16, p17, p18, hb⟩ := ans_body
  exact ⟨S, mA, mB, mC, g, sAns, fd, j1, j2, p1, p2, p3, p4, p5, p6, p7, p8, p9, p10, p11, p12, p13, p14, p15, p16, p17, p18, F, b, m, kp, scAns, ⟨rfl, rfl, rfl⟩, ⟨rfl, rfl, rfl, rfl⟩, hb⟩
/-- of one kind of exception -/
def ex1B (K : PySem.W.Frag) (cA cB cC x : Addr) : Bool := decide (PySem.W.exmAny K (.ref x) [.ref cA, .ref cB, .ref cC] = some true) && decide (PySem.W.typeIn K (.ref x) = some (.type "type"))
theorem ex1B_ok {K : PySem.W.Frag} {cA cB cC x : Addr} (h : ex1B K cA cB cC x = true) : PySem.W.exmAny K (.ref x) [.ref cA, .ref cB, .ref cC] = some true ∧ PySem.W.typeIn K (.ref x) = some (.type "type") := by
  unfold ex1B at h
  simp only [Bool.and_eq_true, decide_eq_true_eq] at h
  exact h
end Lamp
set_option Elab.async false
set_option linter.all false
set_option maxRecDepth 100000
set_option maxHeartbeats 2000000
namespace Lamp
open PySem PySem.Spec PyProof.Rows L2 ClX LamX
def noneB (K : PySem.W.Frag) : Bool := (["int", "divmod", "len", "abs", "range", "tuple", "sorted", "list", "isinstance", "bool", "str", "enumerate", "repr", "all", "max", "min", "sum", "dict", "ValueError", "LookupError", "ArithmeticError"] : List Str).all fun n => decide (PySem.W.nsIn K mainGlobals n = some none)
theorem none_of {K : PySem.W.Frag} (h : noneB K = true) {n : Str} (hn : n ∈ (["int", "divmod", "len", "abs", "range", "tuple", "sorted", "list", "isinstance", "bool", "str", "enumerate", "repr", "all", "max", "min", "sum", "dict", "ValueError", "LookupError", "ArithmeticError"] : List Str)) : PySem.W.nsIn K mainGlobals n = some none := by
  unfold noneB at h
  rw [List.all_eq_true] at h
  exact of_decide_eq_true (h n hn)
theorem two_of {α : Type} : ∀ {l : List α}, l.length = 2 → ∃ a b, l = [a, b]
  | [a, b], _ => ⟨a, b, rfl⟩
def clsB (K : PySem.W.Frag) (C : Addr) : Bool := PySem.W.plainGet K C Str.empty && (PySem.W.hasDictIn K C && (PySem.W.plainOver K C && (decide (PySem.W.findIn K (.ref C) "__setattr__" = some (some (.builtin "object.__setattr__"))) &&
  (decide (PySem.W.findIn K (.ref C) "_levels" = some none) && (decide (PySem.W.findIn K (.ref C) "_lamps" = some none) && (decide (PySem.W.findIn K (.ref C) "_end" = some none) && (PySem.W.makesIn K C && PySem.W.keepIn K (.ref C))))))))
def eqB (K : PySem.W.Frag) (C : Addr) : Bool := decide (PySem.W.findIn K (.ref C) "__ne__" = some (some (.builtin "object.__ne__"))) && (decide (PySem.W.mroIn K C (.type "object") = some true) && (decide (PySem.W.findIn K (.ref C) "__class__" = some (some (.builtin "object.__class__"))) &&
  (decide (PySem.W.specialIn K (.builtin "object.__class__") "__get__" = some (some (.builtin "getset_descriptor.__get__"))) && (decide (PySem.W.takesIn K (.builtin "object.__class__") = some true) && decide (PySem.W.kitOne K (.ref C) (.ref C) = some true)))))
theorem eqB_ok {K : PySem.W.Frag} {C : Addr} (h : eqB K C = true) : PySem.W.findIn K (.ref C) "__ne__" = some (some (.builtin "object.__ne__")) ∧ PySem.W.mroIn K C (.type "object") = some true ∧ IsR K C := by
  unfold eqB at h
  simp only [Bool.and_eq_true, decide_eq_true_eq] at h
  obtain ⟨h1, h2, h3, h4, h5, h6⟩ := h
  exact ⟨h1, h2, ⟨h3, h4, h5, h2, h6⟩⟩
theorem clsB_ok {K : PySem.W.Frag} {C : Addr} (h : clsB K C = true) : RCls K C ∧ PySem.W.makesIn K C = true ∧ PySem.W.keepIn K (.ref C) = true := by
  unfold clsB at h
  simp only [Bool.and_eq_true, decide_eq_true_eq] at h
  obtain ⟨h1, h2, h3, h4, h5, h6, h7, h8, h9⟩ := h
  exact ⟨⟨⟨h1, h2, h3, h4⟩, h5, h6, h7⟩, h8, h9⟩
def clsLB (K : PySem.W.Frag) (C : Addr) : Bool := PySem.W.plainGet K C Str.empty && (PySem.W.hasDictIn K C && (PySem.W.plainOver K C && (decide (PySem.W.findIn K (.ref C) "__setattr__" = some (some (.builtin "object.__setattr__"))) &&
  (decide (PySem.W.findIn K (.ref C) "_rounds" = some none) && (decide (PySem.W.findIn K (.ref C) "_levels" = some none) && (decide (PySem.W.findIn K (.ref C) "_text" = some none) && (PySem.W.makesIn K C && PySem.W.keepIn K (.ref C))))))))
theorem clsLB_ok {K : PySem.W.Frag} {C : Addr} (h : clsLB K C = true) : LCls K C ∧ PySem.W.makesIn K C = true ∧ PySem.W.keepIn K (.ref C) = true := by
  unfold clsLB at h
  simp only [Bool.and_eq_true, decide_eq_true_eq] at h
  obtain ⟨h1, h2, h3, h4, h5, h6, h7, h8, h9⟩ := h
  exact ⟨⟨⟨h1, h2, h3, h4⟩, h5, h6, h7⟩, h8, h9⟩
def uB (T : List (Addr × Str)) (Pt : Addr) (q : Str) : Bool := T.all fun p => decide (p.1 = Pt → p.2 = q)
theorem uB_ok {T : List (Addr × Str)} {Pt : Addr} {q : Str} (h : uB T Pt q = true) : ∀ p ∈ T, p.1 = Pt → p.2 = q := fun p hp => by
  unfold uB at h
  rw [List.all_eq_true] at h
  exact of_decide_eq_true (h p hp)
theorem two_of' {α : Type} : ∀ {l : List α}, l.length = 2 → ∃ a b, l = [a, b]
  | [a, b], _ => ⟨a, b, rfl⟩
theorem all_mk {P : Program} {w : World} {K : PySem.W.Frag} {mg : Str → Option Value} {fa : Addr} {hh : Heap} (X : K.In hh) (G : hh.Ns mainGlobals mg) (hfa : mg "law" = some (.ref fa)) {L' cA cB cC xN xL xR xO xT xI : Addr} {tR tP tE tN : Tok} {C aL : Addr} {odL : Option Addr} {tL0 tL1 tL2 tL3 tM : Tok} {nL0 : Nat} {slL : Array (Option Value)} {fRI : Addr} {oc_fRI kV_fRI dc_fRI pm_fRI cd_fRI ct_fRI : Value} {od_fRI an_fRI : Option Addr} {sl_fRI : Array (Option Value)} {fRL : Addr} {oc_fRL kV_fRL dc_fRL pm_fRL cd_fRL ct_fRL : Value} {od_fRL an_fRL : Option Addr} {sl_fRL : Array (Option Value)} {fRS : Addr} {oc_fRS kV_fRS dc_fRS pm_fRS cd_fRS ct_fRS : Value} {od_fRS an_fRS : Option Addr} {sl_fRS : Array (Option Value)} {fRP : Addr} {oc_fRP kV_fRP dc_fRP pm_fRP cd_fRP ct_fRP : Value} {od_fRP an_fRP : Option Addr} {sl_fRP : Array (Option Value)} {fII : Addr} {oc_fII kV_fII dc_fII pm_fII cd_fII ct_fII : Value} {od_fII an_fII : Option Addr} {sl_fII : Array (Option Value)} {fIL : Addr} {oc_fIL kV_fIL dc_fIL pm_fIL cd_fIL ct_fIL : Value} {od_fIL an_fIL : Option Addr} {sl_fIL : Array (Option Value)} {fIM : Addr} {oc_fIM kV_fIM dc_fIM pm_fIM cd_fIM ct_fIM : Value} {od_fIM an_fIM : Option Addr} {sl_fIM : Array (Option Value)} {fWL : Addr} {oc_fWL kV_fWL dc_fWL pm_fWL cd_fWL ct_fWL : Value} {od_fWL an_fWL : Option Addr} {sl_fWL : Array (Option Value)} {fRT : Addr} {oc_fRT kV_fRT dc_fRT pm_fRT cd_fRT ct_fRT : Value} {od_fRT an_fRT : Option Addr} {sl_fRT : Array (Option Value)} {fIs : Addr} {oc_fIs kV_fIs dc_fIs pm_fIs cd_fIs ct_fIs : Value} {od_fIs an_fIs : Option Addr} {sl_fIs : Array (Option Value)} {fWr : Addr} {oc_fWr kV_fWr dc_fWr pm_fWr cd_fWr ct_fWr : Value} {od_fWr an_fWr : Option Addr} {sl_fWr : Array (Option Value)} {fCN : Addr} {oc_fCN kV_fCN dc_fCN pm_fCN cd_fCN ct_fCN : Value} {od_fCN an_fCN : Option Addr} {sl_fCN : Array (Option Value)} {fCR : Addr} {oc_fCR kV_fCR dc_fCR pm_fCR cd_fCR ct_fCR : Value} {od_fCR an_fCR : Option Addr} {sl_fCR : Array (Option Value)} {fCS : Addr} {oc_fCS kV_fCS dc_fCS pm_fCS cd_fCS ct_fCS : Value} {od_fCS an_fCS : Option Addr} {sl_fCS : Array (Option Value)} {fSz : Addr} {oc_fSz kV_fSz dc_fSz pm_fSz cd_fSz ct_fSz : Value} {od_fSz an_fSz : Option Addr} {sl_fSz : Array (Option Value)} {fIN : Addr} {oc_fIN kV_fIN dc_fIN pm_fIN cd_fIN ct_fIN : Value} {od_fIN an_fIN : Option Addr} {sl_fIN : Array (Option Value)} {fCk : Addr} {oc_fCk kV_fCk dc_fCk pm_fCk cd_fCk ct_fCk : Value} {od_fCk an_fCk : Option Addr} {sl_fCk : Array (Option Value)} {fCl : Addr} {oc_fCl kV_fCl dc_fCl pm_fCl cd_fCl ct_fCl : Value} {od_fCl an_fCl : Option Addr} {sl_fCl : Array (Option Value)} {fIa : Addr} {oc_fIa kV_fIa dc_fIa pm_fIa cd_fIa ct_fIa : Value} {od_fIa an_fIa : Option Addr} {sl_fIa : Array (Option Value)} {fAl : Addr} {oc_fAl kV_fAl dc_fAl pm_fAl cd_fAl ct_fAl : Value} {od_fAl an_fAl : Option Addr} {sl_fAl : Array (Option Value)} {fCo : Addr} {oc_fCo kV_fCo dc_fCo pm_fCo cd_fCo ct_fCo : Value} {od_fCo an_fCo : Option Addr} {sl_fCo : Array (Option Value)} {fRo : Addr} {oc_fRo kV_fRo dc_fRo pm_fRo cd_fRo ct_fRo : Value} {od_fRo an_fRo : Option Addr} {sl_fRo : Array (Option Value)} {fKa : Addr} {oc_fKa kV_fKa dc_fKa pm_fKa cd_fKa ct_fKa : Value} {od_fKa an_fKa : Option Addr} {sl_fKa : Array (Option Value)} {fKr : Addr} {oc_fKr kV_fKr dc_fKr pm_fKr cd_fKr ct_fKr : Value} {od_fKr an_fKr : Option Addr} {sl_fKr : Array (Option Value)} {fLw : Addr} {oc_fLw kV_fLw dc_fLw pm_fLw cd_fLw ct_fLw : Value} {od_fLw an_fLw : Option Addr} {sl_fLw : Array (Option Value)} {fKs : Addr} {oc_fKs kV_fKs dc_fKs pm_fKs cd_fKs ct_fKs : Value} {od_fKs an_fKs : Option Addr} {sl_fKs : Array (Option Value)} {fFm : Addr} {oc_fFm kV_fFm dc_fFm pm_fFm cd_fFm ct_fFm : Value} {od_fFm an_fFm : Option Addr} {sl_fFm : Array (Option Value)} {fCs : Addr} {oc_fCs kV_fCs dc_fCs pm_fCs cd_fCs ct_fCs : Value} {od_fCs an_fCs : Option Addr} {sl_fCs : Array (Option Value)} {fNo : Addr} {oc_fNo kV_fNo dc_fNo pm_fNo cd_fNo ct_fNo : Value} {od_fNo an_fNo : Option Addr} {sl_fNo : Array (Option Value)} {fMk : Addr} {oc_fMk kV_fMk dc_fMk pm_fMk cd_fMk ct_fMk : Value} {od_fMk an_fMk : Option Addr} {sl_fMk : Array (Option Value)} {fPl : Addr} {oc_fPl kV_fPl dc_fPl pm_fPl cd_fPl ct_fPl : Value} {od_fPl an_fPl : Option Addr} {sl_fPl : Array (Option Value)} {fDo : Addr} {oc_fDo kV_fDo dc_fDo pm_fDo cd_fDo ct_fDo : Value} {od_fDo an_fDo : Option Addr} {sl_fDo : Array (Option Value)} {fLl : Addr} {oc_fLl kV_fLl dc_fLl pm_fLl cd_fLl ct_fLl : Value} {od_fLl an_fLl : Option Addr} {sl_fLl : Array (Option Value)} {fSa : Addr} {oc_fSa kV_fSa dc_fSa pm_fSa cd_fSa ct_fSa : Value} {od_fSa an_fSa : Option Addr} {sl_fSa : Array (Option Value)} {fWi : Addr} {oc_fWi kV_fWi dc_fWi pm_fWi cd_fWi ct_fWi : Value} {od_fWi an_fWi : Option Addr} {sl_fWi : Array (Option Value)} {fNe : Addr} {oc_fNe kV_fNe dc_fNe pm_fNe cd_fNe ct_fNe : Value} {od_fNe an_fNe : Option Addr} {sl_fNe : Array (Option Value)} {fHo : Addr} {oc_fHo kV_fHo dc_fHo pm_fHo cd_fHo ct_fHo : Value} {od_fHo an_fHo : Option Addr} {sl_fHo : Array (Option Value)} {fMe : Addr} {oc_fMe kV_fMe dc_fMe pm_fMe cd_fMe ct_fMe : Value} {od_fMe an_fMe : Option Addr} {sl_fMe : Array (Option Value)} {fKm : Addr} {oc_fKm kV_fKm dc_fKm pm_fKm cd_fKm ct_fKm : Value} {od_fKm an_fKm : Option Addr} {sl_fKm : Array (Option Value)} {fKe : Addr} {oc_fKe kV_fKe dc_fKe pm_fKe cd_fKe ct_fKe : Value} {od_fKe an_fKe : Option Addr} {sl_fKe : Array (Option Value)} {fBe : Addr} {oc_fBe kV_fBe dc_fBe pm_fBe cd_fBe ct_fBe : Value} {od_fBe an_fBe : Option Addr} {sl_fBe : Array (Option Value)} {fCa : Addr} {oc_fCa kV_fCa dc_fCa pm_fCa cd_fCa ct_fCa : Value} {od_fCa an_fCa : Option Addr} {sl_fCa : Array (Option Value)} {fAn : Addr} {oc_fAn kV_fAn dc_fAn pm_fAn cd_fAn ct_fAn : Value} {od_fAn an_fAn : Option Addr} {sl_fAn : Array (Option Value)} {fVa : Addr} {oc_fVa kV_fVa dc_fVa pm_fVa cd_fVa ct_fVa : Value} {od_fVa an_fVa : Option Addr} {sl_fVa : Array (Option Value)} {fSh : Addr} {oc_fSh kV_fSh dc_fSh pm_fSh cd_fSh ct_fSh : Value} {od_fSh an_fSh : Option Addr} {sl_fSh : Array (Option Value)} {fOf : Addr} {oc_fOf kV_fOf dc_fOf pm_fOf cd_fOf ct_fOf : Value} {od_fOf an_fOf : Option Addr} {sl_fOf : Array (Option Value)} {fTg : Addr} {oc_fTg kV_fTg dc_fTg pm_fTg cd_fTg ct_fTg : Value} {od_fTg an_fTg : Option Addr} {sl_fTg : Array (Option Value)} {fTi : Addr} {oc_fTi kV_fTi dc_fTi pm_fTi cd_fTi ct_fTi : Value} {od_fTi an_fTi : Option Addr} {sl_fTi : Array (Option Value)} {fSl : Addr} {oc_fSl kV_fSl dc_fSl pm_fSl cd_fSl ct_fSl : Value} {od_fSl an_fSl : Option Addr} {sl_fSl : Array (Option Value)} {fCw : Addr} {oc_fCw kV_fCw dc_fCw pm_fCw cd_fCw ct_fCw : Value} {od_fCw an_fCw : Option Addr} {sl_fCw : Array (Option Value)} {fLs : Addr} {oc_fLs kV_fLs dc_fLs pm_fLs cd_fLs ct_fLs : Value} {od_fLs an_fLs : Option Addr} {sl_fLs : Array (Option Value)} {fLo : Addr} {oc_fLo kV_fLo dc_fLo pm_fLo cd_fLo ct_fLo : Value} {od_fLo an_fLo : Option Addr} {sl_fLo : Array (Option Value)} {fBu : Addr} {oc_fBu kV_fBu dc_fBu pm_fBu cd_fBu ct_fBu : Value} {od_fBu an_fBu : Option Addr} {sl_fBu : Array (Option Value)} {fSo : Addr} {oc_fSo kV_fSo dc_fSo pm_fSo cd_fSo ct_fSo : Value} {od_fSo an_fSo : Option Addr} {sl_fSo : Array (Option Value)} {fAw : Addr} {oc_fAw kV_fAw dc_fAw pm_fAw cd_fAw ct_fAw : Value} {od_fAw an_fAw : Option Addr} {sl_fAw : Array (Option Value)} {fAk : Addr} {oc_fAk kV_fAk dc_fAk pm_fAk cd_fAk ct_fAk : Value} {od_fAk an_fAk : Option Addr} {sl_fAk : Array (Option Value)} {fAL : Addr} {oc_fAL kV_fAL dc_fAL pm_fAL cd_fAL ct_fAL : Value} {od_fAL an_fAL : Option Addr} {sl_fAL : Array (Option Value)} {fSe : Addr} {oc_fSe kV_fSe dc_fSe pm_fSe cd_fSe ct_fSe : Value} {od_fSe an_fSe : Option Addr} {sl_fSe : Array (Option Value)} {fFr : Addr} {oc_fFr kV_fFr dc_fFr pm_fFr cd_fFr ct_fFr : Value} {od_fFr an_fFr : Option Addr} {sl_fFr : Array (Option Value)} {fRg : Addr} {oc_fRg kV_fRg dc_fRg pm_fRg cd_fRg ct_fRg : Value} {od_fRg an_fRg : Option Addr} {sl_fRg : Array (Option Value)} {fLaw : Addr} {oc_fLaw kV_fLaw dc_fLaw pm_fLaw cd_fLaw ct_fLaw : Value} {od_fLaw an_fLaw : Option Addr} {sl_fLaw : Array (Option Value)} {gIn : Addr} {oc_gIn kV_gIn dc_gIn pm_gIn cd_gIn ct_gIn : Value} {od_gIn an_gIn : Option Addr} {sl_gIn : Array (Option Value)} {gEq : Addr} {oc_gEq kV_gEq dc_gEq pm_gEq cd_gEq ct_gEq : Value} {od_gEq an_gEq : Option Addr} {sl_gEq : Array (Option Value)} {iN : Addr} {oc_iN kV_iN dc_iN pm_iN cd_iN ct_iN : Value} {od_iN an_iN : Option Addr} {sl_iN : Array (Option Value)} {iL : Addr} {oc_iL kV_iL dc_iL pm_iL cd_iL ct_iL : Value} {od_iL an_iL : Option Addr} {sl_iL : Array (Option Value)} {iR : Addr} {oc_iR kV_iR dc_iR pm_iR cd_iR ct_iR : Value} {od_iR an_iR : Option Addr} {sl_iR : Array (Option Value)} {iO : Addr} {oc_iO kV_iO dc_iO pm_iO cd_iO ct_iO : Value} {od_iO an_iO : Option Addr} {sl_iO : Array (Option Value)} {iT : Addr} {oc_iT kV_iT dc_iT pm_iT cd_iT ct_iT : Value} {od_iT an_iT : Option Addr} {sl_iT : Array (Option Value)} {iI : Addr} {oc_iI kV_iI dc_iI pm_iI cd_iI ct_iI : Value} {od_iI an_iI : Option Addr} {sl_iI : Array (Option Value)} {hIn : Addr} {oc_hIn kV_hIn dc_hIn pm_hIn cd_hIn ct_hIn : Value} {od_hIn an_hIn : Option Addr} {sl_hIn : Array (Option Value)} {gLv : Addr} {oc_gLv kV_gLv dc_gLv pm_gLv cd_gLv ct_gLv : Value} {od_gLv an_gLv : Option Addr} {sl_gLv : Array (Option Value)} {p_gLv : Addr} {rest_gLv : List Value} {gLa : Addr} {oc_gLa kV_gLa dc_gLa pm_gLa cd_gLa ct_gLa : Value} {od_gLa an_gLa : Option Addr} {sl_gLa : Array (Option Value)} {p_gLa : Addr} {rest_gLa : List Value} {gEn : Addr} {oc_gEn kV_gEn dc_gEn pm_gEn cd_gEn ct_gEn : Value} {od_gEn an_gEn : Option Addr} {sl_gEn : Array (Option Value)} {p_gEn : Addr} {rest_gEn : List Value} {gTx : Addr} {oc_gTx kV_gTx dc_gTx pm_gTx cd_gTx ct_gTx : Value} {od_gTx an_gTx : Option Addr} {sl_gTx : Array (Option Value)} {p_gTx : Addr} {rest_gTx : List Value} {gRd : Addr} {oc_gRd kV_gRd dc_gRd pm_gRd cd_gRd ct_gRd : Value} {od_gRd an_gRd : Option Addr} {sl_gRd : Array (Option Value)} {p_gRd : Addr} {rest_gRd : List Value} {hRe : Addr} {oc_hRe kV_hRe dc_hRe pm_hRe cd_hRe ct_hRe : Value} {od_hRe an_hRe : Option Addr} {sl_hRe : Array (Option Value)} {p_hRe : Addr} {rest_hRe : List Value}
    (nC : PySem.W.nsIn K mainGlobals "Round" = some (some (.ref C)))
    (nLo : PySem.W.nsIn K mainGlobals "Lot" = some (some (.ref L')))
    (n_cA : PySem.W.nsIn K mainGlobals "WrongValue" = some (some (.ref cA)))
    (n_cB : PySem.W.nsIn K mainGlobals "WrongName" = some (some (.ref cB)))
    (n_cC : PySem.W.nsIn K mainGlobals "NotPossible" = some (some (.ref cC)))
    (n_xN : PySem.W.nsIn K mainGlobals "InvalidNumber" = some (some (.ref xN)))
    (n_xL : PySem.W.nsIn K mainGlobals "NotLot" = some (some (.ref xL)))
    (n_xR : PySem.W.nsIn K mainGlobals "NotRound" = some (some (.ref xR)))
    (n_xO : PySem.W.nsIn K mainGlobals "OtherLevels" = some (some (.ref xO)))
    (n_xT : PySem.W.nsIn K mainGlobals "TooFar" = some (some (.ref xT)))
    (n_xI : PySem.W.nsIn K mainGlobals "InvalidRounds" = some (some (.ref xI)))
    (nf_fRI : PySem.W.nsIn K mainGlobals "read_integer" = some (some (.ref fRI)))
    (lf_fRI : K.lookup fRI = some ⟨oc_fRI, od_fRI, .func (PySem.W.fnOf "read_integer" "read_integer" (defArgs sReadInt) (defBody sReadInt) (defScope sReadInt) .none kV_fRI dc_fRI pm_fRI an_fRI cd_fRI ct_fRI), sl_fRI⟩)
    (cf_fRI : PySem.W.codeIn K cd_fRI "read_integer" = true)
    (kf_fRI : PySem.W.keepIn K (.ref fRI) = true)
    (nf_fRL : PySem.W.nsIn K mainGlobals "read_lamp" = some (some (.ref fRL)))
    (lf_fRL : K.lookup fRL = some ⟨oc_fRL, od_fRL, .func (PySem.W.fnOf "read_lamp" "read_lamp" (defArgs sReadLamp) (defBody sReadLamp) (defScope sReadLamp) .none kV_fRL dc_fRL pm_fRL an_fRL cd_fRL ct_fRL), sl_fRL⟩)
    (cf_fRL : PySem.W.codeIn K cd_fRL "read_lamp" = true)
    (kf_fRL : PySem.W.keepIn K (.ref fRL) = true)
    (nf_fRS : PySem.W.nsIn K mainGlobals "read_lamps" = some (some (.ref fRS)))
    (lf_fRS : K.lookup fRS = some ⟨oc_fRS, od_fRS, .func (PySem.W.fnOf "read_lamps" "read_lamps" (defArgs sReadLamps) (defBody sReadLamps) (defScope sReadLamps) .none kV_fRS dc_fRS pm_fRS an_fRS cd_fRS ct_fRS), sl_fRS⟩)
    (cf_fRS : PySem.W.codeIn K cd_fRS "read_lamps" = true)
    (kf_fRS : PySem.W.keepIn K (.ref fRS) = true)
    (nf_fRP : PySem.W.nsIn K mainGlobals "read_parts" = some (some (.ref fRP)))
    (lf_fRP : K.lookup fRP = some ⟨oc_fRP, od_fRP, .func (PySem.W.fnOf "read_parts" "read_parts" (defArgs sReadParts) (defBody sReadParts) (defScope sReadParts) .none kV_fRP dc_fRP pm_fRP an_fRP cd_fRP ct_fRP), sl_fRP⟩)
    (cf_fRP : PySem.W.codeIn K cd_fRP "read_parts" = true)
    (kf_fRP : PySem.W.keepIn K (.ref fRP) = true)
    (nf_fII : PySem.W.nsIn K mainGlobals "is_integer" = some (some (.ref fII)))
    (lf_fII : K.lookup fII = some ⟨oc_fII, od_fII, .func (PySem.W.fnOf "is_integer" "is_integer" (defArgs sIsInt) (defBody sIsInt) (defScope sIsInt) .none kV_fII dc_fII pm_fII an_fII cd_fII ct_fII), sl_fII⟩)
    (cf_fII : PySem.W.codeIn K cd_fII "is_integer" = true)
    (kf_fII : PySem.W.keepIn K (.ref fII) = true)
    (nf_fIL : PySem.W.nsIn K mainGlobals "is_levels" = some (some (.ref fIL)))
    (lf_fIL : K.lookup fIL = some ⟨oc_fIL, od_fIL, .func (PySem.W.fnOf "is_levels" "is_levels" (defArgs sIsLevels) (defBody sIsLevels) (defScope sIsLevels) .none kV_fIL dc_fIL pm_fIL an_fIL cd_fIL ct_fIL), sl_fIL⟩)
    (cf_fIL : PySem.W.codeIn K cd_fIL "is_levels" = true)
    (kf_fIL : PySem.W.keepIn K (.ref fIL) = true)
    (nf_fIM : PySem.W.nsIn K mainGlobals "is_lamp" = some (some (.ref fIM)))
    (lf_fIM : K.lookup fIM = some ⟨oc_fIM, od_fIM, .func (PySem.W.fnOf "is_lamp" "is_lamp" (defArgs sIsLamp) (defBody sIsLamp) (defScope sIsLamp) .none kV_fIM dc_fIM pm_fIM an_fIM cd_fIM ct_fIM), sl_fIM⟩)
    (cf_fIM : PySem.W.codeIn K cd_fIM "is_lamp" = true)
    (kf_fIM : PySem.W.keepIn K (.ref fIM) = true)
    (nf_fWL : PySem.W.nsIn K mainGlobals "wrong_lamp" = some (some (.ref fWL)))
    (lf_fWL : K.lookup fWL = some ⟨oc_fWL, od_fWL, .func (PySem.W.fnOf "wrong_lamp" "wrong_lamp" (defArgs sWrong) (defBody sWrong) (defScope sWrong) .none kV_fWL dc_fWL pm_fWL an_fWL cd_fWL ct_fWL), sl_fWL⟩)
    (cf_fWL : PySem.W.codeIn K cd_fWL "wrong_lamp" = true)
    (kf_fWL : PySem.W.keepIn K (.ref fWL) = true)
    (nf_fRT : PySem.W.nsIn K mainGlobals "round_text" = some (some (.ref fRT)))
    (lf_fRT : K.lookup fRT = some ⟨oc_fRT, od_fRT, .func (PySem.W.fnOf "round_text" "round_text" (defArgs sRoundText) (defBody sRoundText) (defScope sRoundText) .none kV_fRT dc_fRT pm_fRT an_fRT cd_fRT ct_fRT), sl_fRT⟩)
    (cf_fRT : PySem.W.codeIn K cd_fRT "round_text" = true)
    (kf_fRT : PySem.W.keepIn K (.ref fRT) = true)
    (nf_fIs : PySem.W.nsIn K mainGlobals "is_small" = some (some (.ref fIs)))
    (lf_fIs : K.lookup fIs = some ⟨oc_fIs, od_fIs, .func (PySem.W.fnOf "is_small" "is_small" (defArgs sIsSmall) (defBody sIsSmall) (defScope sIsSmall) .none kV_fIs dc_fIs pm_fIs an_fIs cd_fIs ct_fIs), sl_fIs⟩)
    (cf_fIs : PySem.W.codeIn K cd_fIs "is_small" = true)
    (kf_fIs : PySem.W.keepIn K (.ref fIs) = true)
    (nf_fWr : PySem.W.nsIn K mainGlobals "wrong_round" = some (some (.ref fWr)))
    (lf_fWr : K.lookup fWr = some ⟨oc_fWr, od_fWr, .func (PySem.W.fnOf "wrong_round" "wrong_round" (defArgs sWrongR) (defBody sWrongR) (defScope sWrongR) .none kV_fWr dc_fWr pm_fWr an_fWr cd_fWr ct_fWr), sl_fWr⟩)
    (cf_fWr : PySem.W.codeIn K cd_fWr "wrong_round" = true)
    (kf_fWr : PySem.W.keepIn K (.ref fWr) = true)
    (nf_fCN : PySem.W.nsIn K mainGlobals "check_number" = some (some (.ref fCN)))
    (lf_fCN : K.lookup fCN = some ⟨oc_fCN, od_fCN, .func (PySem.W.fnOf "check_number" "check_number" (defArgs sCkN) (defBody sCkN) (defScope sCkN) .none kV_fCN dc_fCN pm_fCN an_fCN cd_fCN ct_fCN), sl_fCN⟩)
    (cf_fCN : PySem.W.codeIn K cd_fCN "check_number" = true)
    (kf_fCN : PySem.W.keepIn K (.ref fCN) = true)
    (nf_fCR : PySem.W.nsIn K mainGlobals "check_round" = some (some (.ref fCR)))
    (lf_fCR : K.lookup fCR = some ⟨oc_fCR, od_fCR, .func (PySem.W.fnOf "check_round" "check_round" (defArgs sCkR) (defBody sCkR) (defScope sCkR) .none kV_fCR dc_fCR pm_fCR an_fCR cd_fCR ct_fCR), sl_fCR⟩)
    (cf_fCR : PySem.W.codeIn K cd_fCR "check_round" = true)
    (kf_fCR : PySem.W.keepIn K (.ref fCR) = true)
    (nf_fCS : PySem.W.nsIn K mainGlobals "check_rounds" = some (some (.ref fCS)))
    (lf_fCS : K.lookup fCS = some ⟨oc_fCS, od_fCS, .func (PySem.W.fnOf "check_rounds" "check_rounds" (defArgs sCkRs) (defBody sCkRs) (defScope sCkRs) .none kV_fCS dc_fCS pm_fCS an_fCS cd_fCS ct_fCS), sl_fCS⟩)
    (cf_fCS : PySem.W.codeIn K cd_fCS "check_rounds" = true)
    (kf_fCS : PySem.W.keepIn K (.ref fCS) = true)
    (nf_fSz : PySem.W.nsIn K mainGlobals "size_of" = some (some (.ref fSz)))
    (lf_fSz : K.lookup fSz = some ⟨oc_fSz, od_fSz, .func (PySem.W.fnOf "size_of" "size_of" (defArgs sSize) (defBody sSize) (defScope sSize) .none kV_fSz dc_fSz pm_fSz an_fSz cd_fSz ct_fSz), sl_fSz⟩)
    (cf_fSz : PySem.W.codeIn K cd_fSz "size_of" = true)
    (kf_fSz : PySem.W.keepIn K (.ref fSz) = true)
    (nf_fIN : PySem.W.nsIn K mainGlobals "is_near" = some (some (.ref fIN)))
    (lf_fIN : K.lookup fIN = some ⟨oc_fIN, od_fIN, .func (PySem.W.fnOf "is_near" "is_near" (defArgs sIsNear) (defBody sIsNear) (defScope sIsNear) .none kV_fIN dc_fIN pm_fIN an_fIN cd_fIN ct_fIN), sl_fIN⟩)
    (cf_fIN : PySem.W.codeIn K cd_fIN "is_near" = true)
    (kf_fIN : PySem.W.keepIn K (.ref fIN) = true)
    (nf_fCk : PySem.W.nsIn K mainGlobals "check_near" = some (some (.ref fCk)))
    (lf_fCk : K.lookup fCk = some ⟨oc_fCk, od_fCk, .func (PySem.W.fnOf "check_near" "check_near" (defArgs sCkNear) (defBody sCkNear) (defScope sCkNear) .none kV_fCk dc_fCk pm_fCk an_fCk cd_fCk ct_fCk), sl_fCk⟩)
    (cf_fCk : PySem.W.codeIn K cd_fCk "check_near" = true)
    (kf_fCk : PySem.W.keepIn K (.ref fCk) = true)
    (nf_fCl : PySem.W.nsIn K mainGlobals "check_lot" = some (some (.ref fCl)))
    (lf_fCl : K.lookup fCl = some ⟨oc_fCl, od_fCl, .func (PySem.W.fnOf "check_lot" "check_lot" (defArgs sCkL) (defBody sCkL) (defScope sCkL) .none kV_fCl dc_fCl pm_fCl an_fCl cd_fCl ct_fCl), sl_fCl⟩)
    (cf_fCl : PySem.W.codeIn K cd_fCl "check_lot" = true)
    (kf_fCl : PySem.W.keepIn K (.ref fCl) = true)
    (nf_fIa : PySem.W.nsIn K mainGlobals "is_alike" = some (some (.ref fIa)))
    (lf_fIa : K.lookup fIa = some ⟨oc_fIa, od_fIa, .func (PySem.W.fnOf "is_alike" "is_alike" (defArgs sIsAl) (defBody sIsAl) (defScope sIsAl) .none kV_fIa dc_fIa pm_fIa an_fIa cd_fIa ct_fIa), sl_fIa⟩)
    (cf_fIa : PySem.W.codeIn K cd_fIa "is_alike" = true)
    (kf_fIa : PySem.W.keepIn K (.ref fIa) = true)
    (nf_fAl : PySem.W.nsIn K mainGlobals "alike" = some (some (.ref fAl)))
    (lf_fAl : K.lookup fAl = some ⟨oc_fAl, od_fAl, .func (PySem.W.fnOf "alike" "alike" (defArgs sAl) (defBody sAl) (defScope sAl) .none kV_fAl dc_fAl pm_fAl an_fAl cd_fAl ct_fAl), sl_fAl⟩)
    (cf_fAl : PySem.W.codeIn K cd_fAl "alike" = true)
    (kf_fAl : PySem.W.keepIn K (.ref fAl) = true)
    (nf_fCo : PySem.W.nsIn K mainGlobals "commute" = some (some (.ref fCo)))
    (lf_fCo : K.lookup fCo = some ⟨oc_fCo, od_fCo, .func (PySem.W.fnOf "commute" "commute" (defArgs sCom) (defBody sCom) (defScope sCom) .none kV_fCo dc_fCo pm_fCo an_fCo cd_fCo ct_fCo), sl_fCo⟩)
    (cf_fCo : PySem.W.codeIn K cd_fCo "commute" = true)
    (kf_fCo : PySem.W.keepIn K (.ref fCo) = true)
    (nf_fRo : PySem.W.nsIn K mainGlobals "root" = some (some (.ref fRo)))
    (lf_fRo : K.lookup fRo = some ⟨oc_fRo, od_fRo, .func (PySem.W.fnOf "root" "root" (defArgs sRt) (defBody sRt) (defScope sRt) .none kV_fRo dc_fRo pm_fRo an_fRo cd_fRo ct_fRo), sl_fRo⟩)
    (cf_fRo : PySem.W.codeIn K cd_fRo "root" = true)
    (kf_fRo : PySem.W.keepIn K (.ref fRo) = true)
    (nf_fKa : PySem.W.nsIn K mainGlobals "certify_alike" = some (some (.ref fKa)))
    (lf_fKa : K.lookup fKa = some ⟨oc_fKa, od_fKa, .func (PySem.W.fnOf "certify_alike" "certify_alike" (defArgs sCAl) (defBody sCAl) (defScope sCAl) .none kV_fKa dc_fKa pm_fKa an_fKa cd_fKa ct_fKa), sl_fKa⟩)
    (cf_fKa : PySem.W.codeIn K cd_fKa "certify_alike" = true)
    (kf_fKa : PySem.W.keepIn K (.ref fKa) = true)
    (nf_fKr : PySem.W.nsIn K mainGlobals "certify_root" = some (some (.ref fKr)))
    (lf_fKr : K.lookup fKr = some ⟨oc_fKr, od_fKr, .func (PySem.W.fnOf "certify_root" "certify_root" (defArgs sCRt) (defBody sCRt) (defScope sCRt) .none kV_fKr dc_fKr pm_fKr an_fKr cd_fKr ct_fKr), sl_fKr⟩)
    (cf_fKr : PySem.W.codeIn K cd_fKr "certify_root" = true)
    (kf_fKr : PySem.W.keepIn K (.ref fKr) = true)
    (nf_fLw : PySem.W.nsIn K mainGlobals "least_walk" = some (some (.ref fLw)))
    (lf_fLw : K.lookup fLw = some ⟨oc_fLw, od_fLw, .func (PySem.W.fnOf "least_walk" "least_walk" (defArgs sLw) (defBody sLw) (defScope sLw) .none kV_fLw dc_fLw pm_fLw an_fLw cd_fLw ct_fLw), sl_fLw⟩)
    (cf_fLw : PySem.W.codeIn K cd_fLw "least_walk" = true)
    (kf_fLw : PySem.W.keepIn K (.ref fLw) = true)
    (nf_fKs : PySem.W.nsIn K mainGlobals "certify_steps" = some (some (.ref fKs)))
    (lf_fKs : K.lookup fKs = some ⟨oc_fKs, od_fKs, .func (PySem.W.fnOf "certify_steps" "certify_steps" (defArgs sCSt) (defBody sCSt) (defScope sCSt) .none kV_fKs dc_fKs pm_fKs an_fKs cd_fKs ct_fKs), sl_fKs⟩)
    (cf_fKs : PySem.W.codeIn K cd_fKs "certify_steps" = true)
    (kf_fKs : PySem.W.keepIn K (.ref fKs) = true)
    (nf_fFm : PySem.W.nsIn K mainGlobals "form" = some (some (.ref fFm)))
    (lf_fFm : K.lookup fFm = some ⟨oc_fFm, od_fFm, .func (PySem.W.fnOf "form" "form" (defArgs sFm) (defBody sFm) (defScope sFm) .none kV_fFm dc_fFm pm_fFm an_fFm cd_fFm ct_fFm), sl_fFm⟩)
    (cf_fFm : PySem.W.codeIn K cd_fFm "form" = true)
    (kf_fFm : PySem.W.keepIn K (.ref fFm) = true)
    (nf_fCs : PySem.W.nsIn K mainGlobals "cosets" = some (some (.ref fCs)))
    (lf_fCs : K.lookup fCs = some ⟨oc_fCs, od_fCs, .func (PySem.W.fnOf "cosets" "cosets" (defArgs sCo) (defBody sCo) (defScope sCo) .none kV_fCs dc_fCs pm_fCs an_fCs cd_fCs ct_fCs), sl_fCs⟩)
    (cf_fCs : PySem.W.codeIn K cd_fCs "cosets" = true)
    (kf_fCs : PySem.W.keepIn K (.ref fCs) = true)
    (nf_fNo : PySem.W.nsIn K mainGlobals "check_near_of" = some (some (.ref fNo)))
    (lf_fNo : K.lookup fNo = some ⟨oc_fNo, od_fNo, .func (PySem.W.fnOf "check_near_of" "check_near_of" (defArgs sCkNO) (defBody sCkNO) (defScope sCkNO) .none kV_fNo dc_fNo pm_fNo an_fNo cd_fNo ct_fNo), sl_fNo⟩)
    (cf_fNo : PySem.W.codeIn K cd_fNo "check_near_of" = true)
    (kf_fNo : PySem.W.keepIn K (.ref fNo) = true)
    (nf_fMk : PySem.W.nsIn K mainGlobals "makes" = some (some (.ref fMk)))
    (lf_fMk : K.lookup fMk = some ⟨oc_fMk, od_fMk, .func (PySem.W.fnOf "makes" "makes" (defArgs sMk) (defBody sMk) (defScope sMk) .none kV_fMk dc_fMk pm_fMk an_fMk cd_fMk ct_fMk), sl_fMk⟩)
    (cf_fMk : PySem.W.codeIn K cd_fMk "makes" = true)
    (kf_fMk : PySem.W.keepIn K (.ref fMk) = true)
    (nf_fPl : PySem.W.nsIn K mainGlobals "plan" = some (some (.ref fPl)))
    (lf_fPl : K.lookup fPl = some ⟨oc_fPl, od_fPl, .func (PySem.W.fnOf "plan" "plan" (defArgs sPl) (defBody sPl) (defScope sPl) .none kV_fPl dc_fPl pm_fPl an_fPl cd_fPl ct_fPl), sl_fPl⟩)
    (cf_fPl : PySem.W.codeIn K cd_fPl "plan" = true)
    (kf_fPl : PySem.W.keepIn K (.ref fPl) = true)
    (nf_fDo : PySem.W.nsIn K mainGlobals "doing" = some (some (.ref fDo)))
    (lf_fDo : K.lookup fDo = some ⟨oc_fDo, od_fDo, .func (PySem.W.fnOf "doing" "doing" (defArgs sDoi) (defBody sDoi) (defScope sDoi) .none kV_fDo dc_fDo pm_fDo an_fDo cd_fDo ct_fDo), sl_fDo⟩)
    (cf_fDo : PySem.W.codeIn K cd_fDo "doing" = true)
    (kf_fDo : PySem.W.keepIn K (.ref fDo) = true)
    (nf_fLl : PySem.W.nsIn K mainGlobals "check_lots" = some (some (.ref fLl)))
    (lf_fLl : K.lookup fLl = some ⟨oc_fLl, od_fLl, .func (PySem.W.fnOf "check_lots" "check_lots" (defArgs sCkLs) (defBody sCkLs) (defScope sCkLs) .none kV_fLl dc_fLl pm_fLl an_fLl cd_fLl ct_fLl), sl_fLl⟩)
    (cf_fLl : PySem.W.codeIn K cd_fLl "check_lots" = true)
    (kf_fLl : PySem.W.keepIn K (.ref fLl) = true)
    (nf_fSa : PySem.W.nsIn K mainGlobals "same" = some (some (.ref fSa)))
    (lf_fSa : K.lookup fSa = some ⟨oc_fSa, od_fSa, .func (PySem.W.fnOf "same" "same" (defArgs sSa) (defBody sSa) (defScope sSa) .none kV_fSa dc_fSa pm_fSa an_fSa cd_fSa ct_fSa), sl_fSa⟩)
    (cf_fSa : PySem.W.codeIn K cd_fSa "same" = true)
    (kf_fSa : PySem.W.keepIn K (.ref fSa) = true)
    (nf_fWi : PySem.W.nsIn K mainGlobals "within" = some (some (.ref fWi)))
    (lf_fWi : K.lookup fWi = some ⟨oc_fWi, od_fWi, .func (PySem.W.fnOf "within" "within" (defArgs sWi) (defBody sWi) (defScope sWi) .none kV_fWi dc_fWi pm_fWi an_fWi cd_fWi ct_fWi), sl_fWi⟩)
    (cf_fWi : PySem.W.codeIn K cd_fWi "within" = true)
    (kf_fWi : PySem.W.keepIn K (.ref fWi) = true)
    (nf_fNe : PySem.W.nsIn K mainGlobals "needless" = some (some (.ref fNe)))
    (lf_fNe : K.lookup fNe = some ⟨oc_fNe, od_fNe, .func (PySem.W.fnOf "needless" "needless" (defArgs sNe) (defBody sNe) (defScope sNe) .none kV_fNe dc_fNe pm_fNe an_fNe cd_fNe ct_fNe), sl_fNe⟩)
    (cf_fNe : PySem.W.codeIn K cd_fNe "needless" = true)
    (kf_fNe : PySem.W.keepIn K (.ref fNe) = true)
    (nf_fHo : PySem.W.nsIn K mainGlobals "holds" = some (some (.ref fHo)))
    (lf_fHo : K.lookup fHo = some ⟨oc_fHo, od_fHo, .func (PySem.W.fnOf "holds" "holds" (defArgs sHo) (defBody sHo) (defScope sHo) .none kV_fHo dc_fHo pm_fHo an_fHo cd_fHo ct_fHo), sl_fHo⟩)
    (cf_fHo : PySem.W.codeIn K cd_fHo "holds" = true)
    (kf_fHo : PySem.W.keepIn K (.ref fHo) = true)
    (nf_fMe : PySem.W.nsIn K mainGlobals "mends" = some (some (.ref fMe)))
    (lf_fMe : K.lookup fMe = some ⟨oc_fMe, od_fMe, .func (PySem.W.fnOf "mends" "mends" (defArgs sMe) (defBody sMe) (defScope sMe) .none kV_fMe dc_fMe pm_fMe an_fMe cd_fMe ct_fMe), sl_fMe⟩)
    (cf_fMe : PySem.W.codeIn K cd_fMe "mends" = true)
    (kf_fMe : PySem.W.keepIn K (.ref fMe) = true)
    (nf_fKm : PySem.W.nsIn K mainGlobals "certify_made" = some (some (.ref fKm)))
    (lf_fKm : K.lookup fKm = some ⟨oc_fKm, od_fKm, .func (PySem.W.fnOf "certify_made" "certify_made" (defArgs sCMa) (defBody sCMa) (defScope sCMa) .none kV_fKm dc_fKm pm_fKm an_fKm cd_fKm ct_fKm), sl_fKm⟩)
    (cf_fKm : PySem.W.codeIn K cd_fKm "certify_made" = true)
    (kf_fKm : PySem.W.keepIn K (.ref fKm) = true)
    (nf_fKe : PySem.W.nsIn K mainGlobals "certify_same" = some (some (.ref fKe)))
    (lf_fKe : K.lookup fKe = some ⟨oc_fKe, od_fKe, .func (PySem.W.fnOf "certify_same" "certify_same" (defArgs sCSa) (defBody sCSa) (defScope sCSa) .none kV_fKe dc_fKe pm_fKe an_fKe cd_fKe ct_fKe), sl_fKe⟩)
    (cf_fKe : PySem.W.codeIn K cd_fKe "certify_same" = true)
    (kf_fKe : PySem.W.keepIn K (.ref fKe) = true)
    (nf_fBe : PySem.W.nsIn K mainGlobals "_law_begun" = some (some (.ref fBe)))
    (lf_fBe : K.lookup fBe = some ⟨oc_fBe, od_fBe, .func (PySem.W.fnOf "_law_begun" "_law_begun" (defArgs sBegun) (defBody sBegun) (defScope sBegun) .none kV_fBe dc_fBe pm_fBe an_fBe cd_fBe ct_fBe), sl_fBe⟩)
    (cf_fBe : PySem.W.codeIn K cd_fBe "_law_begun" = true)
    (kf_fBe : PySem.W.keepIn K (.ref fBe) = true)
    (nf_fCa : PySem.W.nsIn K mainGlobals "_law_cast" = some (some (.ref fCa)))
    (lf_fCa : K.lookup fCa = some ⟨oc_fCa, od_fCa, .func (PySem.W.fnOf "_law_cast" "_law_cast" (defArgs sCast) (defBody sCast) (defScope sCast) .none kV_fCa dc_fCa pm_fCa an_fCa cd_fCa ct_fCa), sl_fCa⟩)
    (cf_fCa : PySem.W.codeIn K cd_fCa "_law_cast" = true)
    (kf_fCa : PySem.W.keepIn K (.ref fCa) = true)
    (nf_fAn : PySem.W.nsIn K mainGlobals "_law_any_of" = some (some (.ref fAn)))
    (lf_fAn : K.lookup fAn = some ⟨oc_fAn, od_fAn, .func (PySem.W.fnOf "_law_any_of" "_law_any_of" (defArgs sAny) (defBody sAny) (defScope sAny) .none kV_fAn dc_fAn pm_fAn an_fAn cd_fAn ct_fAn), sl_fAn⟩)
    (cf_fAn : PySem.W.codeIn K cd_fAn "_law_any_of" = true)
    (kf_fAn : PySem.W.keepIn K (.ref fAn) = true)
    (nf_fVa : PySem.W.nsIn K mainGlobals "_law_vast" = some (some (.ref fVa)))
    (lf_fVa : K.lookup fVa = some ⟨oc_fVa, od_fVa, .func (PySem.W.fnOf "_law_vast" "_law_vast" (defArgs sVast) (defBody sVast) (defScope sVast) .none kV_fVa dc_fVa pm_fVa an_fVa cd_fVa ct_fVa), sl_fVa⟩)
    (cf_fVa : PySem.W.codeIn K cd_fVa "_law_vast" = true)
    (kf_fVa : PySem.W.keepIn K (.ref fVa) = true)
    (nf_fSh : PySem.W.nsIn K mainGlobals "_law_sheet" = some (some (.ref fSh)))
    (lf_fSh : K.lookup fSh = some ⟨oc_fSh, od_fSh, .func (PySem.W.fnOf "_law_sheet" "_law_sheet" (defArgs sSheet) (defBody sSheet) (defScope sSheet) .none kV_fSh dc_fSh pm_fSh an_fSh cd_fSh ct_fSh), sl_fSh⟩)
    (cf_fSh : PySem.W.codeIn K cd_fSh "_law_sheet" = true)
    (kf_fSh : PySem.W.keepIn K (.ref fSh) = true)
    (nf_fOf : PySem.W.nsIn K mainGlobals "_law_of" = some (some (.ref fOf)))
    (lf_fOf : K.lookup fOf = some ⟨oc_fOf, od_fOf, .func (PySem.W.fnOf "_law_of" "_law_of" (defArgs sOf) (defBody sOf) (defScope sOf) .none kV_fOf dc_fOf pm_fOf an_fOf cd_fOf ct_fOf), sl_fOf⟩)
    (cf_fOf : PySem.W.codeIn K cd_fOf "_law_of" = true)
    (kf_fOf : PySem.W.keepIn K (.ref fOf) = true)
    (nf_fTg : PySem.W.nsIn K mainGlobals "_law_thing" = some (some (.ref fTg)))
    (lf_fTg : K.lookup fTg = some ⟨oc_fTg, od_fTg, .func (PySem.W.fnOf "_law_thing" "_law_thing" (defArgs sThing) (defBody sThing) (defScope sThing) .none kV_fTg dc_fTg pm_fTg an_fTg cd_fTg ct_fTg), sl_fTg⟩)
    (cf_fTg : PySem.W.codeIn K cd_fTg "_law_thing" = true)
    (kf_fTg : PySem.W.keepIn K (.ref fTg) = true)
    (nf_fTi : PySem.W.nsIn K mainGlobals "_law_tidy" = some (some (.ref fTi)))
    (lf_fTi : K.lookup fTi = some ⟨oc_fTi, od_fTi, .func (PySem.W.fnOf "_law_tidy" "_law_tidy" (defArgs sTidy) (defBody sTidy) (defScope sTidy) .none kV_fTi dc_fTi pm_fTi an_fTi cd_fTi ct_fTi), sl_fTi⟩)
    (cf_fTi : PySem.W.codeIn K cd_fTi "_law_tidy" = true)
    (kf_fTi : PySem.W.keepIn K (.ref fTi) = true)
    (nf_fSl : PySem.W.nsIn K mainGlobals "_law_small" = some (some (.ref fSl)))
    (lf_fSl : K.lookup fSl = some ⟨oc_fSl, od_fSl, .func (PySem.W.fnOf "_law_small" "_law_small" (defArgs sSmall) (defBody sSmall) (defScope sSmall) .none kV_fSl dc_fSl pm_fSl an_fSl cd_fSl ct_fSl), sl_fSl⟩)
    (cf_fSl : PySem.W.codeIn K cd_fSl "_law_small" = true)
    (kf_fSl : PySem.W.keepIn K (.ref fSl) = true)
    (nf_fCw : PySem.W.nsIn K mainGlobals "_law_crowd" = some (some (.ref fCw)))
    (lf_fCw : K.lookup fCw = some ⟨oc_fCw, od_fCw, .func (PySem.W.fnOf "_law_crowd" "_law_crowd" (defArgs sCrowd) (defBody sCrowd) (defScope sCrowd) .none kV_fCw dc_fCw pm_fCw an_fCw cd_fCw ct_fCw), sl_fCw⟩)
    (cf_fCw : PySem.W.codeIn K cd_fCw "_law_crowd" = true)
    (kf_fCw : PySem.W.keepIn K (.ref fCw) = true)
    (nf_fLs : PySem.W.nsIn K mainGlobals "_law_lot_sheet" = some (some (.ref fLs)))
    (lf_fLs : K.lookup fLs = some ⟨oc_fLs, od_fLs, .func (PySem.W.fnOf "_law_lot_sheet" "_law_lot_sheet" (defArgs sLSheet) (defBody sLSheet) (defScope sLSheet) .none kV_fLs dc_fLs pm_fLs an_fLs cd_fLs ct_fLs), sl_fLs⟩)
    (cf_fLs : PySem.W.codeIn K cd_fLs "_law_lot_sheet" = true)
    (kf_fLs : PySem.W.keepIn K (.ref fLs) = true)
    (nf_fLo : PySem.W.nsIn K mainGlobals "_law_lot_of" = some (some (.ref fLo)))
    (lf_fLo : K.lookup fLo = some ⟨oc_fLo, od_fLo, .func (PySem.W.fnOf "_law_lot_of" "_law_lot_of" (defArgs sLotOf) (defBody sLotOf) (defScope sLotOf) .none kV_fLo dc_fLo pm_fLo an_fLo cd_fLo ct_fLo), sl_fLo⟩)
    (cf_fLo : PySem.W.codeIn K cd_fLo "_law_lot_of" = true)
    (kf_fLo : PySem.W.keepIn K (.ref fLo) = true)
    (nf_fBu : PySem.W.nsIn K mainGlobals "_law_lot_built" = some (some (.ref fBu)))
    (lf_fBu : K.lookup fBu = some ⟨oc_fBu, od_fBu, .func (PySem.W.fnOf "_law_lot_built" "_law_lot_built" (defArgs sLotBuilt) (defBody sLotBuilt) (defScope sLotBuilt) .none kV_fBu dc_fBu pm_fBu an_fBu cd_fBu ct_fBu), sl_fBu⟩)
    (cf_fBu : PySem.W.codeIn K cd_fBu "_law_lot_built" = true)
    (kf_fBu : PySem.W.keepIn K (.ref fBu) = true)
    (nf_fSo : PySem.W.nsIn K mainGlobals "_law_sort" = some (some (.ref fSo)))
    (lf_fSo : K.lookup fSo = some ⟨oc_fSo, od_fSo, .func (PySem.W.fnOf "_law_sort" "_law_sort" (defArgs sSort) (defBody sSort) (defScope sSort) .none kV_fSo dc_fSo pm_fSo an_fSo cd_fSo ct_fSo), sl_fSo⟩)
    (cf_fSo : PySem.W.codeIn K cd_fSo "_law_sort" = true)
    (kf_fSo : PySem.W.keepIn K (.ref fSo) = true)
    (nf_fAw : PySem.W.nsIn K mainGlobals "_law_answer" = some (some (.ref fAw)))
    (lf_fAw : K.lookup fAw = some ⟨oc_fAw, od_fAw, .func (PySem.W.fnOf "_law_answer" "_law_answer" (defArgs sAns) (defBody sAns) (defScope sAns) .none kV_fAw dc_fAw pm_fAw an_fAw cd_fAw ct_fAw), sl_fAw⟩)
    (cf_fAw : PySem.W.codeIn K cd_fAw "_law_answer" = true)
    (kf_fAw : PySem.W.keepIn K (.ref fAw) = true)
    (nf_fAk : PySem.W.nsIn K mainGlobals "_law_rounds_asked" = some (some (.ref fAk)))
    (lf_fAk : K.lookup fAk = some ⟨oc_fAk, od_fAk, .func (PySem.W.fnOf "_law_rounds_asked" "_law_rounds_asked" (defArgs sAsk) (defBody sAsk) (defScope sAsk) .none kV_fAk dc_fAk pm_fAk an_fAk cd_fAk ct_fAk), sl_fAk⟩)
    (cf_fAk : PySem.W.codeIn K cd_fAk "_law_rounds_asked" = true)
    (kf_fAk : PySem.W.keepIn K (.ref fAk) = true)
    (nf_fAL : PySem.W.nsIn K mainGlobals "_law_lots_asked" = some (some (.ref fAL)))
    (lf_fAL : K.lookup fAL = some ⟨oc_fAL, od_fAL, .func (PySem.W.fnOf "_law_lots_asked" "_law_lots_asked" (defArgs sAskL) (defBody sAskL) (defScope sAskL) .none kV_fAL dc_fAL pm_fAL an_fAL cd_fAL ct_fAL), sl_fAL⟩)
    (cf_fAL : PySem.W.codeIn K cd_fAL "_law_lots_asked" = true)
    (kf_fAL : PySem.W.keepIn K (.ref fAL) = true)
    (nf_fSe : PySem.W.nsIn K mainGlobals "_law_seconds" = some (some (.ref fSe)))
    (lf_fSe : K.lookup fSe = some ⟨oc_fSe, od_fSe, .func (PySem.W.fnOf "_law_seconds" "_law_seconds" (defArgs sSec) (defBody sSec) (defScope sSec) .none kV_fSe dc_fSe pm_fSe an_fSe cd_fSe ct_fSe), sl_fSe⟩)
    (cf_fSe : PySem.W.codeIn K cd_fSe "_law_seconds" = true)
    (kf_fSe : PySem.W.keepIn K (.ref fSe) = true)
    (nf_fFr : PySem.W.nsIn K mainGlobals "_law_far_right" = some (some (.ref fFr)))
    (lf_fFr : K.lookup fFr = some ⟨oc_fFr, od_fFr, .func (PySem.W.fnOf "_law_far_right" "_law_far_right" (defArgs sFar) (defBody sFar) (defScope sFar) .none kV_fFr dc_fFr pm_fFr an_fFr cd_fFr ct_fFr), sl_fFr⟩)
    (cf_fFr : PySem.W.codeIn K cd_fFr "_law_far_right" = true)
    (kf_fFr : PySem.W.keepIn K (.ref fFr) = true)
    (nf_fRg : PySem.W.nsIn K mainGlobals "_law_right" = some (some (.ref fRg)))
    (lf_fRg : K.lookup fRg = some ⟨oc_fRg, od_fRg, .func (PySem.W.fnOf "_law_right" "_law_right" (defArgs sRight) (defBody sRight) (defScope sRight) .none kV_fRg dc_fRg pm_fRg an_fRg cd_fRg ct_fRg), sl_fRg⟩)
    (cf_fRg : PySem.W.codeIn K cd_fRg "_law_right" = true)
    (kf_fRg : PySem.W.keepIn K (.ref fRg) = true)
    (nf_fLaw : PySem.W.nsIn K mainGlobals "law" = some (some (.ref fLaw)))
    (lf_fLaw : K.lookup fLaw = some ⟨oc_fLaw, od_fLaw, .func (PySem.W.fnOf "law" "law" (defArgs sLaw) (defBody sLaw) (defScope sLaw) .none kV_fLaw dc_fLaw pm_fLaw an_fLaw cd_fLaw ct_fLaw), sl_fLaw⟩)
    (cf_fLaw : PySem.W.codeIn K cd_fLaw "law" = true)
    (kf_fLaw : PySem.W.keepIn K (.ref fLaw) = true)
    (fm_gIn : PySem.W.findIn K (.ref C) "__init__" = some (some (.ref gIn)))
    (lf_gIn : K.lookup gIn = some ⟨oc_gIn, od_gIn, .func (PySem.W.fnOf "__init__" "Round.__init__" (defArgs sInit) (defBody sInit) (defScope sInit) .none kV_gIn dc_gIn pm_gIn an_gIn cd_gIn ct_gIn), sl_gIn⟩)
    (cf_gIn : PySem.W.codeIn K cd_gIn "Round.__init__" = true)
    (kf_gIn : PySem.W.keepIn K (.ref gIn) = true)
    (if_gIn : PySem.W.isFn K (.ref gIn) = true)
    (fm_gEq : PySem.W.findIn K (.ref C) "__eq__" = some (some (.ref gEq)))
    (lf_gEq : K.lookup gEq = some ⟨oc_gEq, od_gEq, .func (PySem.W.fnOf "__eq__" "Round.__eq__" (defArgs sEqR) (defBody sEqR) (defScope sEqR) .none kV_gEq dc_gEq pm_gEq an_gEq cd_gEq ct_gEq), sl_gEq⟩)
    (cf_gEq : PySem.W.codeIn K cd_gEq "Round.__eq__" = true)
    (kf_gEq : PySem.W.keepIn K (.ref gEq) = true)
    (if_gEq : PySem.W.isFn K (.ref gEq) = true)
    (fm_iN : PySem.W.findIn K (.ref xN) "__init__" = some (some (.ref iN)))
    (lf_iN : K.lookup iN = some ⟨oc_iN, od_iN, .func (PySem.W.fnOf "__init__" "InvalidNumber.__init__" (defArgs sXN) (defBody sXN) (defScope sXN) .none kV_iN dc_iN pm_iN an_iN cd_iN ct_iN), sl_iN⟩)
    (cf_iN : PySem.W.codeIn K cd_iN "InvalidNumber.__init__" = true)
    (kf_iN : PySem.W.keepIn K (.ref iN) = true)
    (if_iN : PySem.W.isFn K (.ref iN) = true)
    (fm_iL : PySem.W.findIn K (.ref xL) "__init__" = some (some (.ref iL)))
    (lf_iL : K.lookup iL = some ⟨oc_iL, od_iL, .func (PySem.W.fnOf "__init__" "NotLot.__init__" (defArgs sXL) (defBody sXL) (defScope sXL) .none kV_iL dc_iL pm_iL an_iL cd_iL ct_iL), sl_iL⟩)
    (cf_iL : PySem.W.codeIn K cd_iL "NotLot.__init__" = true)
    (kf_iL : PySem.W.keepIn K (.ref iL) = true)
    (if_iL : PySem.W.isFn K (.ref iL) = true)
    (fm_iR : PySem.W.findIn K (.ref xR) "__init__" = some (some (.ref iR)))
    (lf_iR : K.lookup iR = some ⟨oc_iR, od_iR, .func (PySem.W.fnOf "__init__" "NotRound.__init__" (defArgs sXR) (defBody sXR) (defScope sXR) .none kV_iR dc_iR pm_iR an_iR cd_iR ct_iR), sl_iR⟩)
    (cf_iR : PySem.W.codeIn K cd_iR "NotRound.__init__" = true)
    (kf_iR : PySem.W.keepIn K (.ref iR) = true)
    (if_iR : PySem.W.isFn K (.ref iR) = true)
    (fm_iO : PySem.W.findIn K (.ref xO) "__init__" = some (some (.ref iO)))
    (lf_iO : K.lookup iO = some ⟨oc_iO, od_iO, .func (PySem.W.fnOf "__init__" "OtherLevels.__init__" (defArgs sXO) (defBody sXO) (defScope sXO) .none kV_iO dc_iO pm_iO an_iO cd_iO ct_iO), sl_iO⟩)
    (cf_iO : PySem.W.codeIn K cd_iO "OtherLevels.__init__" = true)
    (kf_iO : PySem.W.keepIn K (.ref iO) = true)
    (if_iO : PySem.W.isFn K (.ref iO) = true)
    (fm_iT : PySem.W.findIn K (.ref xT) "__init__" = some (some (.ref iT)))
    (lf_iT : K.lookup iT = some ⟨oc_iT, od_iT, .func (PySem.W.fnOf "__init__" "TooFar.__init__" (defArgs sXT) (defBody sXT) (defScope sXT) .none kV_iT dc_iT pm_iT an_iT cd_iT ct_iT), sl_iT⟩)
    (cf_iT : PySem.W.codeIn K cd_iT "TooFar.__init__" = true)
    (kf_iT : PySem.W.keepIn K (.ref iT) = true)
    (if_iT : PySem.W.isFn K (.ref iT) = true)
    (fm_iI : PySem.W.findIn K (.ref xI) "__init__" = some (some (.ref iI)))
    (lf_iI : K.lookup iI = some ⟨oc_iI, od_iI, .func (PySem.W.fnOf "__init__" "InvalidRounds.__init__" (defArgs sXI) (defBody sXI) (defScope sXI) .none kV_iI dc_iI pm_iI an_iI cd_iI ct_iI), sl_iI⟩)
    (cf_iI : PySem.W.codeIn K cd_iI "InvalidRounds.__init__" = true)
    (kf_iI : PySem.W.keepIn K (.ref iI) = true)
    (if_iI : PySem.W.isFn K (.ref iI) = true)
    (fm_hIn : PySem.W.findIn K (.ref L') "__init__" = some (some (.ref hIn)))
    (lf_hIn : K.lookup hIn = some ⟨oc_hIn, od_hIn, .func (PySem.W.fnOf "__init__" "Lot.__init__" (defArgs sLotInit) (defBody sLotInit) (defScope sLotInit) .none kV_hIn dc_hIn pm_hIn an_hIn cd_hIn ct_hIn), sl_hIn⟩)
    (cf_hIn : PySem.W.codeIn K cd_hIn "Lot.__init__" = true)
    (kf_hIn : PySem.W.keepIn K (.ref hIn) = true)
    (if_hIn : PySem.W.isFn K (.ref hIn) = true)
    (pa_gLv : PySem.W.findIn K (.ref C) "levels" = some (some (.ref p_gLv)))
    (pr_gLv : PySem.W.recIn K p_gLv "property" = some (.ref gLv :: rest_gLv))
    (pg_gLv : PySem.W.specialIn K (.ref p_gLv) "__get__" = some (some (.builtin "property.__get__")))
    (pt_gLv : PySem.W.takesIn K (.ref p_gLv) = some true)
    (lf_gLv : K.lookup gLv = some ⟨oc_gLv, od_gLv, .func (PySem.W.fnOf "levels" "Round.levels" (defArgs sLevels) (defBody sLevels) (defScope sLevels) .none kV_gLv dc_gLv pm_gLv an_gLv cd_gLv ct_gLv), sl_gLv⟩)
    (cf_gLv : PySem.W.codeIn K cd_gLv "Round.levels" = true)
    (kf_gLv : PySem.W.keepIn K (.ref gLv) = true)
    (pa_gLa : PySem.W.findIn K (.ref C) "lamps" = some (some (.ref p_gLa)))
    (pr_gLa : PySem.W.recIn K p_gLa "property" = some (.ref gLa :: rest_gLa))
    (pg_gLa : PySem.W.specialIn K (.ref p_gLa) "__get__" = some (some (.builtin "property.__get__")))
    (pt_gLa : PySem.W.takesIn K (.ref p_gLa) = some true)
    (lf_gLa : K.lookup gLa = some ⟨oc_gLa, od_gLa, .func (PySem.W.fnOf "lamps" "Round.lamps" (defArgs sLampsP) (defBody sLampsP) (defScope sLampsP) .none kV_gLa dc_gLa pm_gLa an_gLa cd_gLa ct_gLa), sl_gLa⟩)
    (cf_gLa : PySem.W.codeIn K cd_gLa "Round.lamps" = true)
    (kf_gLa : PySem.W.keepIn K (.ref gLa) = true)
    (pa_gEn : PySem.W.findIn K (.ref C) "end" = some (some (.ref p_gEn)))
    (pr_gEn : PySem.W.recIn K p_gEn "property" = some (.ref gEn :: rest_gEn))
    (pg_gEn : PySem.W.specialIn K (.ref p_gEn) "__get__" = some (some (.builtin "property.__get__")))
    (pt_gEn : PySem.W.takesIn K (.ref p_gEn) = some true)
    (lf_gEn : K.lookup gEn = some ⟨oc_gEn, od_gEn, .func (PySem.W.fnOf "end" "Round.end" (defArgs sEnd) (defBody sEnd) (defScope sEnd) .none kV_gEn dc_gEn pm_gEn an_gEn cd_gEn ct_gEn), sl_gEn⟩)
    (cf_gEn : PySem.W.codeIn K cd_gEn "Round.end" = true)
    (kf_gEn : PySem.W.keepIn K (.ref gEn) = true)
    (pa_gTx : PySem.W.findIn K (.ref C) "text" = some (some (.ref p_gTx)))
    (pr_gTx : PySem.W.recIn K p_gTx "property" = some (.ref gTx :: rest_gTx))
    (pg_gTx : PySem.W.specialIn K (.ref p_gTx) "__get__" = some (some (.builtin "property.__get__")))
    (pt_gTx : PySem.W.takesIn K (.ref p_gTx) = some true)
    (lf_gTx : K.lookup gTx = some ⟨oc_gTx, od_gTx, .func (PySem.W.fnOf "text" "Round.text" (defArgs sText) (defBody sText) (defScope sText) .none kV_gTx dc_gTx pm_gTx an_gTx cd_gTx ct_gTx), sl_gTx⟩)
    (cf_gTx : PySem.W.codeIn K cd_gTx "Round.text" = true)
    (kf_gTx : PySem.W.keepIn K (.ref gTx) = true)
    (ca_gRd : PySem.W.findCls K (.ref C) (.type "type") "read" = some (.get (.builtin "classmethod.__get__") (.ref p_gRd) .none (.ref C)))
    (cr_gRd : PySem.W.recIn K p_gRd "classmethod" = some (.ref gRd :: rest_gRd))
    (cf2_gRd : PySem.W.fnIn K gRd = true)
    (crd_gRd : PySem.W.readsIn K C (.type "type") = true)
    (cga_gRd : PySem.W.specialIn K (.ref C) "__getattribute__" = some (some (.builtin "type.__getattribute__")))
    (lf_gRd : K.lookup gRd = some ⟨oc_gRd, od_gRd, .func (PySem.W.fnOf "read" "Round.read" (defArgs sRead) (defBody sRead) (defScope sRead) .none kV_gRd dc_gRd pm_gRd an_gRd cd_gRd ct_gRd), sl_gRd⟩)
    (cf_gRd : PySem.W.codeIn K cd_gRd "Round.read" = true)
    (kf_gRd : PySem.W.keepIn K (.ref gRd) = true)
    (ca_hRe : PySem.W.findCls K (.ref L') (.type "type") "read" = some (.get (.builtin "classmethod.__get__") (.ref p_hRe) .none (.ref L')))
    (cr_hRe : PySem.W.recIn K p_hRe "classmethod" = some (.ref hRe :: rest_hRe))
    (cf2_hRe : PySem.W.fnIn K hRe = true)
    (crd_hRe : PySem.W.readsIn K L' (.type "type") = true)
    (cga_hRe : PySem.W.specialIn K (.ref L') "__getattribute__" = some (some (.builtin "type.__getattribute__")))
    (lf_hRe : K.lookup hRe = some ⟨oc_hRe, od_hRe, .func (PySem.W.fnOf "read" "Lot.read" (defArgs sLotRead) (defBody sLotRead) (defScope sLotRead) .none kV_hRe dc_hRe pm_hRe an_hRe cd_hRe ct_hRe), sl_hRe⟩)
    (cf_hRe : PySem.W.codeIn K cd_hRe "Lot.read" = true)
    (kf_hRe : PySem.W.keepIn K (.ref hRe) = true)
    (nL : PySem.W.nsIn K mainGlobals "LEVELS" = some (some (.ref aL)))
    (lL : K.lookup aL = some ⟨.type "tuple", odL, .seq #[.int 2 tL0, .int 3 tL1, .int 5 tL2, .int 7 tL3] nL0, slL⟩)
    (nM : PySem.W.nsIn K mainGlobals "MOST_LAMPS" = some (some (.int 400 tM)))
    (ntR : PySem.W.nsIn K mainGlobals "MOST_ROUNDS" = some (some (.int 4 tR)))
    (ntP : PySem.W.nsIn K mainGlobals "MOST_PLACE" = some (some (.int 24 tP)))
    (ntE : PySem.W.nsIn K mainGlobals "MOST_END" = some (some (.int 8 tE)))
    (ntN : PySem.W.nsIn K mainGlobals "MOST_NEAR" = some (some (.int 40 tN)))
    (all : (noneB K && (clsB K C && (eqB K C && (clsLB K L' && (eqB K L' && (ecB K xN 0 && (ecB K xL 0 && (ecB K xR 0 && (ecB K xO 2 && (ecB K xT 2 && (ecB K xI 0 && (initB K xN iN "given" && (initB K xL iL "given" && (initB K xR iR "given" && (initB K xO iO "given" && (initB K xT iT "given" && (initB K xI iI "index" && (kdgB K cA cB cC xN xL xR xO xT xN true false false true false false false false && (kdgB K cA cB cC xN xL xR xO xT xL true false false false true false false false && (kdgB K cA cB cC xN xL xR xO xT xR true false false false false true false false && (kdgB K cA cB cC xN xL xR xO xT xO false false true false false false true false && (kdgB K cA cB cC xN xL xR xO xT xT false false true false false false false true && (ex1B K cA cB cC xN && (ex1B K cA cB cC xL && (ex1B K cA cB cC xR && (ex1B K cA cB cC xO && (ex1B K cA cB cC xT && (ex1B K cA cB cC xI && (noKdB K C && (noKdB K L' && (metaB K && (codeB K cd_fAk && (codeB K cd_fAL && (codeB K cd_fSe && (codeB K cd_fFr && (codeB K cd_fRg && (uB [(tabA K cd_fAk, qA), (tabA K cd_fAL, qB), (tabA K cd_fSe, qC), (tabA K cd_fFr, qD), (tabA K cd_fRg, qR)] (tabA K cd_fAk) qA && (uB [(tabA K cd_fAk, qA), (tabA K cd_fAL, qB), (tabA K cd_fSe, qC), (tabA K cd_fFr, qD), (tabA K cd_fRg, qR)] (tabA K cd_fAL) qB && (uB [(tabA K cd_fAk, qA), (tabA K cd_fAL, qB), (tabA K cd_fSe, qC), (tabA K cd_fFr, qD), (tabA K cd_fRg, qR)] (tabA K cd_fSe) qC && (uB [(tabA K cd_fAk, qA), (tabA K cd_fAL, qB), (tabA K cd_fSe, qC), (tabA K cd_fFr, qD), (tabA K cd_fRg, qR)] (tabA K cd_fFr) qD && (uB [(tabA K cd_fAk, qA), (tabA K cd_fAL, qB), (tabA K cd_fSe, qC), (tabA K cd_fFr, qD), (tabA K cd_fRg, qR)] (tabA K cd_fRg) qR))))))))))))))))))))))))))))))))))))))))) = true) :
    ∃ (fd : FuncData) (cs : List (Addr × Addr)) (sp : Sp), (∀ p ∈ cs, TabOf K mg ["_law_rounds_asked", "_law_lots_asked", "_law_seconds", "_law_far_right", "_law_right"] p) ∧ (∀ (s : Shared) (u : Value), BindsTo s fd ⟨[u], []⟩ [("_law_script", u)]) ∧ (∀ (H : Hp) (a : Addr) (ns : List Int), ns.length ≤ 63 → (∀ z ∈ ns, Builtin.Int.intBits z ≤ 1048576) → (∀ p ∈ cs, H p.2 = some (.tbl #[])) → SqL K H a (ns.map V.int) → sp [.ref a] H (fun v _ => v = .bl true) E0) ∧
      ∀ base : Heap, K.In base → base.Ns mainGlobals mg → (∀ p ∈ cs, TabB base mg p.1 p.2) → FnG P w K mg base 14 fa fd ["_law_script"] sp := by
  have e := hfa.symm.trans (PySem.W.mg_of X G nf_fLaw)
  cases e
  rw [Bool.and_eq_true, Bool.and_eq_true, Bool.and_eq_true, Bool.and_eq_true, Bool.and_eq_true, Bool.and_eq_true, Bool.and_eq_true, Bool.and_eq_true, Bool.and_eq_true, Bool.and_eq_true, Bool.and_eq_true, Bool.and_eq_true, Bool.and_eq_true, Bool.and_eq_true, Bool.and_eq_true, Bool.and_eq_true, Bool.and_eq_true, Bool.and_eq_true, Bool.and_eq_true, Bool.and_eq_true, Bool.and_eq_true, Bool.and_eq_true, Bool.and_eq_true, Bool.and_eq_true, Bool.and_eq_true, Bool.and_eq_true, Bool.and_eq_true, Bool.and_eq_true, Bool.and_eq_true, Bool.and_eq_true, Bool.and_eq_true, Bool.and_eq_true, Bool.and_eq_true, Bool.and_eq_true, Bool.and_eq_true, Bool.and_eq_true, Bool.and_eq_true, Bool.and_eq_true, Bool.and_eq_true, Bool.and_eq_true] at all
  obtain ⟨hnone, hcls, heq, hclsL, heqL, eN, eL, eR, eO, eT, eI, jN, jL, jR, jO, jT, jI, kdN, kdL, kdR, kdO, kdT, exN, exL, exR, exO, exT, exI, hnk, hnkL, hmeta, cb_fAk, cb_fAL, cb_fSe, cb_fFr, cb_fRg, uq_fAk, uq_fAL, uq_fSe, uq_fFr, uq_fRg⟩ := all
  obtain ⟨hne, hmro, S⟩ := eqB_ok heq
  obtain ⟨hneL, hmroL, SL⟩ := eqB_ok heqL
  obtain ⟨R, hmakes, hkeep⟩ := clsB_ok hcls
  obtain ⟨RL, lmakes, lkeep⟩ := clsLB_ok hclsL
  obtain ⟨xmN, yN⟩ := ex1B_ok exN
  obtain ⟨xmL, yL⟩ := ex1B_ok exL
  obtain ⟨xmR, yR⟩ := ex1B_ok exR
  obtain ⟨xmO, yO⟩ := ex1B_ok exO
  obtain ⟨xmT, yT⟩ := ex1B_ok exT
  obtain ⟨xmI, yI⟩ := ex1B_ok exI
  have none := fun {n : Str} hn => PySem.W.mg_none_of X G (none_of hnone (n := n) hn)
  have F_fRI := fun_mk (st := sReadInt) lf_fRI cf_fRI kf_fRI
  have b_fRI := F_fRI.binds (ps := ["word"]) fun _ _ _ _ _ _ us hl => match us, hl with | [_], _ => rfl
  have m_fRI := PySem.W.mg_of X G nf_fRI
  have F_fRL := fun_mk (st := sReadLamp) lf_fRL cf_fRL kf_fRL
  have b_fRL := F_fRL.binds (ps := ["word"]) fun _ _ _ _ _ _ us hl => match us, hl with | [_], _ => rfl
  have m_fRL := PySem.W.mg_of X G nf_fRL
  have F_fRS := fun_mk (st := sReadLamps) lf_fRS cf_fRS kf_fRS
  have b_fRS := F_fRS.binds (ps := ["words"]) fun _ _ _ _ _ _ us hl => match us, hl with | [_], _ => rfl
  have m_fRS := PySem.W.mg_of X G nf_fRS
  have F_fRP := fun_mk (st := sReadParts) lf_fRP cf_fRP kf_fRP
  have b_fRP := F_fRP.binds (ps := ["text"]) fun _ _ _ _ _ _ us hl => match us, hl with | [_], _ => rfl
  have m_fRP := PySem.W.mg_of X G nf_fRP
  have F_fII := fun_mk (st := sIsInt) lf_fII cf_fII kf_fII
  have b_fII := F_fII.binds (ps := ["value"]) fun _ _ _ _ _ _ us hl => match us, hl with | [_], _ => rfl
  have m_fII := PySem.W.mg_of X G nf_fII
  have F_fIL := fun_mk (st := sIsLevels) lf_fIL cf_fIL kf_fIL
  have b_fIL := F_fIL.binds (ps := ["value"]) fun _ _ _ _ _ _ us hl => match us, hl with | [_], _ => rfl
  have m_fIL := PySem.W.mg_of X G nf_fIL
  have F_fIM := fun_mk (st := sIsLamp) lf_fIM cf_fIM kf_fIM
  have b_fIM := F_fIM.binds (ps := ["levels", "value"]) fun _ _ _ _ _ _ us hl => match us, hl with | [_, _], _ => rfl
  have m_fIM := PySem.W.mg_of X G nf_fIM
  have F_fWL := fun_mk (st := sWrong) lf_fWL cf_fWL kf_fWL
  have b_fWL := F_fWL.binds (ps := ["levels", "lamps"]) fun _ _ _ _ _ _ us hl => match us, hl with | [_, _], _ => rfl
  have m_fWL := PySem.W.mg_of X G nf_fWL
  have F_fRT := fun_mk (st := sRoundText) lf_fRT cf_fRT kf_fRT
  have b_fRT := F_fRT.binds (ps := ["levels", "lamps", "end"]) fun _ _ _ _ _ _ us hl => match us, hl with | [_, _, _], _ => rfl
  have m_fRT := PySem.W.mg_of X G nf_fRT
  have F_fIs := fun_mk (st := sIsSmall) lf_fIs cf_fIs kf_fIs
  have b_fIs := F_fIs.binds (ps := ["trip"]) fun _ _ _ _ _ _ us hl => match us, hl with | [_], _ => rfl
  have m_fIs := PySem.W.mg_of X G nf_fIs
  have F_fWr := fun_mk (st := sWrongR) lf_fWr cf_fWr kf_fWr
  have b_fWr := F_fWr.binds (ps := ["rounds"]) fun _ _ _ _ _ _ us hl => match us, hl with | [_], _ => rfl
  have m_fWr := PySem.W.mg_of X G nf_fWr
  have F_fCN := fun_mk (st := sCkN) lf_fCN cf_fCN kf_fCN
  have b_fCN := F_fCN.binds (ps := ["value"]) fun _ _ _ _ _ _ us hl => match us, hl with | [_], _ => rfl
  have m_fCN := PySem.W.mg_of X G nf_fCN
  have F_fCR := fun_mk (st := sCkR) lf_fCR cf_fCR kf_fCR
  have b_fCR := F_fCR.binds (ps := ["value"]) fun _ _ _ _ _ _ us hl => match us, hl with | [_], _ => rfl
  have m_fCR := PySem.W.mg_of X G nf_fCR
  have F_fCS := fun_mk (st := sCkRs) lf_fCS cf_fCS kf_fCS
  have b_fCS := F_fCS.binds (ps := ["trip", "second"]) fun _ _ _ _ _ _ us hl => match us, hl with | [_, _], _ => rfl
  have m_fCS := PySem.W.mg_of X G nf_fCS
  have F_fSz := fun_mk (st := sSize) lf_fSz cf_fSz kf_fSz
  have b_fSz := F_fSz.binds (ps := ["trip"]) fun _ _ _ _ _ _ us hl => match us, hl with | [_], _ => rfl
  have m_fSz := PySem.W.mg_of X G nf_fSz
  have F_fIN := fun_mk (st := sIsNear) lf_fIN cf_fIN kf_fIN
  have b_fIN := F_fIN.binds (ps := ["trip"]) fun _ _ _ _ _ _ us hl => match us, hl with | [_], _ => rfl
  have m_fIN := PySem.W.mg_of X G nf_fIN
  have F_fCk := fun_mk (st := sCkNear) lf_fCk cf_fCk kf_fCk
  have b_fCk := F_fCk.binds (ps := ["trip"]) fun _ _ _ _ _ _ us hl => match us, hl with | [_], _ => rfl
  have m_fCk := PySem.W.mg_of X G nf_fCk
  have F_fCl := fun_mk (st := sCkL) lf_fCl cf_fCl kf_fCl
  have b_fCl := F_fCl.binds (ps := ["value"]) fun _ _ _ _ _ _ us hl => match us, hl with | [_], _ => rfl
  have m_fCl := PySem.W.mg_of X G nf_fCl
  have F_fIa := fun_mk (st := sIsAl) lf_fIa cf_fIa kf_fIa
  have b_fIa := F_fIa.binds (ps := ["trip", "second"]) fun _ _ _ _ _ _ us hl => match us, hl with | [_, _], _ => rfl
  have m_fIa := PySem.W.mg_of X G nf_fIa
  have F_fAl := fun_mk (st := sAl) lf_fAl cf_fAl kf_fAl
  have b_fAl := F_fAl.binds (ps := ["trip", "second"]) fun _ _ _ _ _ _ us hl => match us, hl with | [_, _], _ => rfl
  have m_fAl := PySem.W.mg_of X G nf_fAl
  have F_fCo := fun_mk (st := sCom) lf_fCo cf_fCo kf_fCo
  have b_fCo := F_fCo.binds (ps := ["trip", "second"]) fun _ _ _ _ _ _ us hl => match us, hl with | [_, _], _ => rfl
  have m_fCo := PySem.W.mg_of X G nf_fCo
  have F_fRo := fun_mk (st := sRt) lf_fRo cf_fRo kf_fRo
  have b_fRo := F_fRo.binds (ps := ["trip", "times"]) fun _ _ _ _ _ _ us hl => match us, hl with | [_, _], _ => rfl
  have m_fRo := PySem.W.mg_of X G nf_fRo
  have F_fKa := fun_mk (st := sCAl) lf_fKa cf_fKa kf_fKa
  have b_fKa := F_fKa.binds (ps := ["trip", "second"]) fun _ _ _ _ _ _ us hl => match us, hl with | [_, _], _ => rfl
  have m_fKa := PySem.W.mg_of X G nf_fKa
  have F_fKr := fun_mk (st := sCRt) lf_fKr cf_fKr kf_fKr
  have b_fKr := F_fKr.binds (ps := ["trip", "times"]) fun _ _ _ _ _ _ us hl => match us, hl with | [_, _], _ => rfl
  have m_fKr := PySem.W.mg_of X G nf_fKr
  have F_fLw := fun_mk (st := sLw) lf_fLw cf_fLw kf_fLw
  have b_fLw := F_fLw.binds (ps := ["trip"]) fun _ _ _ _ _ _ us hl => match us, hl with | [_], _ => rfl
  have m_fLw := PySem.W.mg_of X G nf_fLw
  have F_fKs := fun_mk (st := sCSt) lf_fKs cf_fKs kf_fKs
  have b_fKs := F_fKs.binds (ps := ["trip"]) fun _ _ _ _ _ _ us hl => match us, hl with | [_], _ => rfl
  have m_fKs := PySem.W.mg_of X G nf_fKs
  have F_fFm := fun_mk (st := sFm) lf_fFm cf_fFm kf_fFm
  have b_fFm := F_fFm.binds (ps := ["lot"]) fun _ _ _ _ _ _ us hl => match us, hl with | [_], _ => rfl
  have m_fFm := PySem.W.mg_of X G nf_fFm
  have F_fCs := fun_mk (st := sCo) lf_fCs cf_fCs kf_fCs
  have b_fCs := F_fCs.binds (ps := ["lot"]) fun _ _ _ _ _ _ us hl => match us, hl with | [_], _ => rfl
  have m_fCs := PySem.W.mg_of X G nf_fCs
  have F_fNo := fun_mk (st := sCkNO) lf_fNo cf_fNo kf_fNo
  have b_fNo := F_fNo.binds (ps := ["lot", "trip"]) fun _ _ _ _ _ _ us hl => match us, hl with | [_, _], _ => rfl
  have m_fNo := PySem.W.mg_of X G nf_fNo
  have F_fMk := fun_mk (st := sMk) lf_fMk cf_fMk kf_fMk
  have b_fMk := F_fMk.binds (ps := ["lot", "trip"]) fun _ _ _ _ _ _ us hl => match us, hl with | [_, _], _ => rfl
  have m_fMk := PySem.W.mg_of X G nf_fMk
  have F_fPl := fun_mk (st := sPl) lf_fPl cf_fPl kf_fPl
  have b_fPl := F_fPl.binds (ps := ["lot", "trip"]) fun _ _ _ _ _ _ us hl => match us, hl with | [_, _], _ => rfl
  have m_fPl := PySem.W.mg_of X G nf_fPl
  have F_fDo := fun_mk (st := sDoi) lf_fDo cf_fDo kf_fDo
  have b_fDo := F_fDo.binds (ps := ["lot", "plan"]) fun _ _ _ _ _ _ us hl => match us, hl with | [_, _], _ => rfl
  have m_fDo := PySem.W.mg_of X G nf_fDo
  have F_fLl := fun_mk (st := sCkLs) lf_fLl cf_fLl kf_fLl
  have b_fLl := F_fLl.binds (ps := ["lot", "other"]) fun _ _ _ _ _ _ us hl => match us, hl with | [_, _], _ => rfl
  have m_fLl := PySem.W.mg_of X G nf_fLl
  have F_fSa := fun_mk (st := sSa) lf_fSa cf_fSa kf_fSa
  have b_fSa := F_fSa.binds (ps := ["lot", "other"]) fun _ _ _ _ _ _ us hl => match us, hl with | [_, _], _ => rfl
  have m_fSa := PySem.W.mg_of X G nf_fSa
  have F_fWi := fun_mk (st := sWi) lf_fWi cf_fWi kf_fWi
  have b_fWi := F_fWi.binds (ps := ["lot", "other"]) fun _ _ _ _ _ _ us hl => match us, hl with | [_, _], _ => rfl
  have m_fWi := PySem.W.mg_of X G nf_fWi
  have F_fNe := fun_mk (st := sNe) lf_fNe cf_fNe kf_fNe
  have b_fNe := F_fNe.binds (ps := ["lot"]) fun _ _ _ _ _ _ us hl => match us, hl with | [_], _ => rfl
  have m_fNe := PySem.W.mg_of X G nf_fNe
  have F_fHo := fun_mk (st := sHo) lf_fHo cf_fHo kf_fHo
  have b_fHo := F_fHo.binds (ps := ["lot", "wish"]) fun _ _ _ _ _ _ us hl => match us, hl with | [_, _], _ => rfl
  have m_fHo := PySem.W.mg_of X G nf_fHo
  have F_fMe := fun_mk (st := sMe) lf_fMe cf_fMe kf_fMe
  have b_fMe := F_fMe.binds (ps := ["lot", "wishes", "changes"]) fun _ _ _ _ _ _ us hl => match us, hl with | [_, _, _], _ => rfl
  have m_fMe := PySem.W.mg_of X G nf_fMe
  have F_fKm := fun_mk (st := sCMa) lf_fKm cf_fKm kf_fKm
  have b_fKm := F_fKm.binds (ps := ["lot", "trip"]) fun _ _ _ _ _ _ us hl => match us, hl with | [_, _], _ => rfl
  have m_fKm := PySem.W.mg_of X G nf_fKm
  have F_fKe := fun_mk (st := sCSa) lf_fKe cf_fKe kf_fKe
  have b_fKe := F_fKe.binds (ps := ["lot", "other"]) fun _ _ _ _ _ _ us hl => match us, hl with | [_, _], _ => rfl
  have m_fKe := PySem.W.mg_of X G nf_fKe
  have F_fBe := fun_mk (st := sBegun) lf_fBe cf_fBe kf_fBe
  have b_fBe := F_fBe.binds (ps := ["_law_script", "_law_turn"]) fun _ _ _ _ _ _ us hl => match us, hl with | [_, _], _ => rfl
  have m_fBe := PySem.W.mg_of X G nf_fBe
  have F_fCa := fun_mk (st := sCast) lf_fCa cf_fCa kf_fCa
  have b_fCa := F_fCa.binds (ps := ["_law_pail", "_law_many"]) fun _ _ _ _ _ _ us hl => match us, hl with | [_, _], _ => rfl
  have m_fCa := PySem.W.mg_of X G nf_fCa
  have F_fAn := fun_mk (st := sAny) lf_fAn cf_fAn kf_fAn
  have b_fAn := F_fAn.binds (ps := ["_law_pail", "_law_some"]) fun _ _ _ _ _ _ us hl => match us, hl with | [_, _], _ => rfl
  have m_fAn := PySem.W.mg_of X G nf_fAn
  have F_fVa := fun_mk (st := sVast) lf_fVa cf_fVa kf_fVa
  have b_fVa := F_fVa.binds (ps := ["_law_pail", "_law_many"]) fun _ _ _ _ _ _ us hl => match us, hl with | [_, _], _ => rfl
  have m_fVa := PySem.W.mg_of X G nf_fVa
  have F_fSh := fun_mk (st := sSheet) lf_fSh cf_fSh kf_fSh
  have b_fSh := F_fSh.binds (ps := ["_law_parts"]) fun _ _ _ _ _ _ us hl => match us, hl with | [_], _ => rfl
  have m_fSh := PySem.W.mg_of X G nf_fSh
  have F_fOf := fun_mk (st := sOf) lf_fOf cf_fOf kf_fOf
  have b_fOf := F_fOf.binds (ps := ["_law_parts"]) fun _ _ _ _ _ _ us hl => match us, hl with | [_], _ => rfl
  have m_fOf := PySem.W.mg_of X G nf_fOf
  have F_fTg := fun_mk (st := sThing) lf_fTg cf_fTg kf_fTg
  have b_fTg := F_fTg.binds (ps := ["_law_pail"]) fun _ _ _ _ _ _ us hl => match us, hl with | [_], _ => rfl
  have m_fTg := PySem.W.mg_of X G nf_fTg
  have F_fTi := fun_mk (st := sTidy) lf_fTi cf_fTi kf_fTi
  have b_fTi := F_fTi.binds (ps := ["_law_p", "_law_chart"]) fun _ _ _ _ _ _ us hl => match us, hl with | [_, _], _ => rfl
  have m_fTi := PySem.W.mg_of X G nf_fTi
  have F_fSl := fun_mk (st := sSmall) lf_fSl cf_fSl kf_fSl
  have b_fSl := F_fSl.binds (ps := ["_law_pail", "_law_p", "_law_wide"]) fun _ _ _ _ _ _ us hl => match us, hl with | [_, _, _], _ => rfl
  have m_fSl := PySem.W.mg_of X G nf_fSl
  have F_fCw := fun_mk (st := sCrowd) lf_fCw cf_fCw kf_fCw
  have b_fCw := F_fCw.binds (ps := ["_law_pail"]) fun _ _ _ _ _ _ us hl => match us, hl with | [_], _ => rfl
  have m_fCw := PySem.W.mg_of X G nf_fCw
  have F_fLs := fun_mk (st := sLSheet) lf_fLs cf_fLs kf_fLs
  have b_fLs := F_fLs.binds (ps := ["_law_crowd_here"]) fun _ _ _ _ _ _ us hl => match us, hl with | [_], _ => rfl
  have m_fLs := PySem.W.mg_of X G nf_fLs
  have F_fLo := fun_mk (st := sLotOf) lf_fLo cf_fLo kf_fLo
  have b_fLo := F_fLo.binds (ps := ["_law_crowd_here"]) fun _ _ _ _ _ _ us hl => match us, hl with | [_], _ => rfl
  have m_fLo := PySem.W.mg_of X G nf_fLo
  have F_fBu := fun_mk (st := sLotBuilt) lf_fBu cf_fBu kf_fBu
  have b_fBu := F_fBu.binds (ps := ["_law_pail", "_law_crowd_here"]) fun _ _ _ _ _ _ us hl => match us, hl with | [_, _], _ => rfl
  have m_fBu := PySem.W.mg_of X G nf_fBu
  have F_fSo := fun_mk (st := sSort) lf_fSo cf_fSo kf_fSo
  have b_fSo := F_fSo.binds (ps := ["_law_e"]) fun _ _ _ _ _ _ us hl => match us, hl with | [_], _ => rfl
  have m_fSo := PySem.W.mg_of X G nf_fSo
  have F_fAw := fun_mk (st := sAns) lf_fAw cf_fAw kf_fAw
  have b_fAw := F_fAw.binds (ps := ["_law_call_here"]) fun _ _ _ _ _ _ us hl => match us, hl with | [_], _ => rfl
  have m_fAw := PySem.W.mg_of X G nf_fAw
  have F_fAk := fun_mk (st := sAsk) lf_fAk cf_fAk kf_fAk
  have b_fAk := F_fAk.binds (ps := ["_law_bad", "_law_odd"]) fun _ _ _ _ _ _ us hl => match us, hl with | [_, _], _ => rfl
  have m_fAk := PySem.W.mg_of X G nf_fAk
  have F_fAL := fun_mk (st := sAskL) lf_fAL cf_fAL kf_fAL
  have b_fAL := F_fAL.binds (ps := ["_law_bad", "_law_odd"]) fun _ _ _ _ _ _ us hl => match us, hl with | [_, _], _ => rfl
  have m_fAL := PySem.W.mg_of X G nf_fAL
  have F_fSe := fun_mk (st := sSec) lf_fSe cf_fSe kf_fSe
  have b_fSe := F_fSe.binds (ps := ["_law_mine", "_law_near", "_law_bad"]) fun _ _ _ _ _ _ us hl => match us, hl with | [_, _, _], _ => rfl
  have m_fSe := PySem.W.mg_of X G nf_fSe
  have F_fFr := fun_mk (st := sFar) lf_fFr cf_fFr kf_fFr
  have b_fFr := F_fFr.binds (ps := ["_law_pail", "_law_mine", "_law_near"]) fun _ _ _ _ _ _ us hl => match us, hl with | [_, _, _], _ => rfl
  have m_fFr := PySem.W.mg_of X G nf_fFr
  have F_fRg := fun_mk (st := sRight) lf_fRg cf_fRg kf_fRg
  have b_fRg := F_fRg.binds (ps := ["_law_pail"]) fun _ _ _ _ _ _ us hl => match us, hl with | [_], _ => rfl
  have m_fRg := PySem.W.mg_of X G nf_fRg
  have F_fLaw := fun_mk (st := sLaw) lf_fLaw cf_fLaw kf_fLaw
  have F_gIn := fun_mk (st := sInit) lf_gIn cf_gIn kf_gIn
  have b_gIn := F_gIn.binds (ps := ["self", "levels", "lamps", "end"]) fun _ _ _ _ _ _ us hl => match us, hl with | [_, _, _, _], _ => rfl
  have F_gEq := fun_mk (st := sEqR) lf_gEq cf_gEq kf_gEq
  have b_gEq := F_gEq.binds (ps := ["self", "other"]) fun _ _ _ _ _ _ us hl => match us, hl with | [_, _], _ => rfl
  have F_iN := fun_mk (st := sXN) lf_iN cf_iN kf_iN
  have b_iN := F_iN.binds (ps := ["self", "given"]) fun _ _ _ _ _ _ us hl => match us, hl with | [_, _], _ => rfl
  have F_iL := fun_mk (st := sXL) lf_iL cf_iL kf_iL
  have b_iL := F_iL.binds (ps := ["self", "given"]) fun _ _ _ _ _ _ us hl => match us, hl with | [_, _], _ => rfl
  have F_iR := fun_mk (st := sXR) lf_iR cf_iR kf_iR
  have b_iR := F_iR.binds (ps := ["self", "given"]) fun _ _ _ _ _ _ us hl => match us, hl with | [_, _], _ => rfl
  have F_iO := fun_mk (st := sXO) lf_iO cf_iO kf_iO
  have b_iO := F_iO.binds (ps := ["self", "given"]) fun _ _ _ _ _ _ us hl => match us, hl with | [_, _], _ => rfl
  have F_iT := fun_mk (st := sXT) lf_iT cf_iT kf_iT
  have b_iT := F_iT.binds (ps := ["self", "given"]) fun _ _ _ _ _ _ us hl => match us, hl with | [_, _], _ => rfl
  have F_iI := fun_mk (st := sXI) lf_iI cf_iI kf_iI
  have b_iI := F_iI.binds (ps := ["self", "index"]) fun _ _ _ _ _ _ us hl => match us, hl with | [_, _], _ => rfl
  have F_hIn := fun_mk (st := sLotInit) lf_hIn cf_hIn kf_hIn
  have b_hIn := F_hIn.binds (ps := ["self", "rounds"]) fun _ _ _ _ _ _ us hl => match us, hl with | [_, _], _ => rfl
  have F_gLv := fun_mk (st := sLevels) lf_gLv cf_gLv kf_gLv
  have b_gLv := F_gLv.binds (ps := ["self"]) fun _ _ _ _ _ _ us hl => match us, hl with | [_], _ => rfl
  have F_gLa := fun_mk (st := sLampsP) lf_gLa cf_gLa kf_gLa
  have b_gLa := F_gLa.binds (ps := ["self"]) fun _ _ _ _ _ _ us hl => match us, hl with | [_], _ => rfl
  have F_gEn := fun_mk (st := sEnd) lf_gEn cf_gEn kf_gEn
  have b_gEn := F_gEn.binds (ps := ["self"]) fun _ _ _ _ _ _ us hl => match us, hl with | [_], _ => rfl
  have F_gTx := fun_mk (st := sText) lf_gTx cf_gTx kf_gTx
  have b_gTx := F_gTx.binds (ps := ["self"]) fun _ _ _ _ _ _ us hl => match us, hl with | [_], _ => rfl
  have F_gRd := fun_mk (st := sRead) lf_gRd cf_gRd kf_gRd
  have b_gRd := F_gRd.binds (ps := ["cls", "text"]) fun _ _ _ _ _ _ us hl => match us, hl with | [_, _], _ => rfl
  have F_hRe := fun_mk (st := sLotRead) lf_hRe cf_hRe kf_hRe
  have b_hRe := F_hRe.binds (ps := ["cls", "text"]) fun _ _ _ _ _ _ us hl => match us, hl with | [_, _], _ => rfl
  have mR := PySem.W.mg_of X G nC
  have mLv := PySem.W.mg_of X G nL
  have mML := PySem.W.mg_of X G nM
  have four : ∀ H, SqT K H aL [.int 2, .int 3, .int 5, .int 7] := fun H => .inr ⟨_, _, _, lL, rfl, rfl, (by show 4 ≤ sizeLine; decide), .cons ⟨_, rfl⟩ (.cons ⟨_, rfl⟩ (.cons ⟨_, rfl⟩ (.cons ⟨_, rfl⟩ .nil)))⟩
  have mL := PySem.W.mg_of X G nLo
  have m_cA := PySem.W.mg_of X G n_cA
  have m_cB := PySem.W.mg_of X G n_cB
  have m_cC := PySem.W.mg_of X G n_cC
  have m_xN := PySem.W.mg_of X G n_xN
  have m_xL := PySem.W.mg_of X G n_xL
  have m_xR := PySem.W.mg_of X G n_xR
  have m_xO := PySem.W.mg_of X G n_xO
  have m_xT := PySem.W.mg_of X G n_xT
  have m_xI := PySem.W.mg_of X G n_xI
  have mtR := PySem.W.mg_of X G ntR
  have mtP := PySem.W.mg_of X G ntP
  have mtE := PySem.W.mg_of X G ntE
  have mtN := PySem.W.mg_of X G ntN
  refine ⟨PySem.W.fnOf "law" "law" (defArgs sLaw) (defBody sLaw) (defScope sLaw) .none kV_fLaw dc_fLaw pm_fLaw an_fLaw cd_fLaw ct_fLaw, [(codeA cd_fAk, tabA K cd_fAk), (codeA cd_fAL, tabA K cd_fAL), (codeA cd_fSe, tabA K cd_fSe), (codeA cd_fFr, tabA K cd_fFr), (codeA cd_fRg, tabA K cd_fRg)], spLaw K [(tabA K cd_fAk, qA), (tabA K cd_fAL, qB), (tabA K cd_fSe, qC), (tabA K cd_fFr, qD), (tabA K cd_fRg, qR)], ?_, fun s u => .of_eq rfl, ?_, fun base _ _ tb => ?_⟩
  · intro p hp
    simp only [List.mem_cons, List.not_mem_nil, or_false] at hp
    rcases hp with rfl | rfl | rfl | rfl | rfl
    · exact ⟨"_law_rounds_asked", by decide, _, _, _, _, PySem.W.mg_of X G nf_fAk, lf_fAk, rfl, rfl, cb_fAk, rfl⟩
    · exact ⟨"_law_lots_asked", by decide, _, _, _, _, PySem.W.mg_of X G nf_fAL, lf_fAL, rfl, rfl, cb_fAL, rfl⟩
    · exact ⟨"_law_seconds", by decide, _, _, _, _, PySem.W.mg_of X G nf_fSe, lf_fSe, rfl, rfl, cb_fSe, rfl⟩
    · exact ⟨"_law_far_right", by decide, _, _, _, _, PySem.W.mg_of X G nf_fFr, lf_fFr, rfl, rfl, cb_fFr, rfl⟩
    · exact ⟨"_law_right", by decide, _, _, _, _, PySem.W.mg_of X G nf_fRg, lf_fRg, rfl, rfl, cb_fRg, rfl⟩
  · intro H a ns h1 h2 h3 hS
    refine ⟨a, ns, rfl, hS, h1, h2, fun x hx => ?_, fun _ => rfl⟩
    simp only [List.mem_cons, List.not_mem_nil, or_false] at hx
    rcases hx with rfl | rfl | rfl | rfl | rfl
    · exact TabS.nil (h3 (codeA cd_fAk, tabA K cd_fAk) (by simp))
    · exact TabS.nil (h3 (codeA cd_fAL, tabA K cd_fAL) (by simp))
    · exact TabS.nil (h3 (codeA cd_fSe, tabA K cd_fSe) (by simp))
    · exact TabS.nil (h3 (codeA cd_fFr, tabA K cd_fFr) (by simp))
    · exact TabS.nil (h3 (codeA cd_fRg, tabA K cd_fRg) (by simp))
  have tb_fAk : TabB base mg (codeA cd_fAk) (tabA K cd_fAk) := tb (codeA cd_fAk, tabA K cd_fAk) (by simp)
  have ca_fAk : cd_fAk = .ref (codeA cd_fAk) := (codeB_ok cb_fAk).1
  have tb_fAL : TabB base mg (codeA cd_fAL) (tabA K cd_fAL) := tb (codeA cd_fAL, tabA K cd_fAL) (by simp)
  have ca_fAL : cd_fAL = .ref (codeA cd_fAL) := (codeB_ok cb_fAL).1
  have tb_fSe : TabB base mg (codeA cd_fSe) (tabA K cd_fSe) := tb (codeA cd_fSe, tabA K cd_fSe) (by simp)
  have ca_fSe : cd_fSe = .ref (codeA cd_fSe) := (codeB_ok cb_fSe).1
  have tb_fFr : TabB base mg (codeA cd_fFr) (tabA K cd_fFr) := tb (codeA cd_fFr, tabA K cd_fFr) (by simp)
  have ca_fFr : cd_fFr = .ref (codeA cd_fFr) := (codeB_ok cb_fFr).1
  have tb_fRg : TabB base mg (codeA cd_fRg) (tabA K cd_fRg) := tb (codeA cd_fRg, tabA K cd_fRg) (by simp)
  have ca_fRg : cd_fRg = .ref (codeA cd_fRg) := (codeB_ok cb_fRg).1
  have d_fII : Dr P w K mg base spIsInt "is_integer" ["value"] 1 := ⟨⟨fII, _, ok_isInt F_fII (none (n := "isinstance") (by decide +kernel)) (none (n := "int") (by decide +kernel)) (none (n := "bool") (by decide +kernel)), b_fII, m_fII, kf_fII⟩⟩
  have d_fIL : Dr P w K mg base spIsLevels "is_levels" ["value"] 2 := ⟨⟨fIL, _, ok_isLevels F_fIL d_fII mLv four, b_fIL, m_fIL, kf_fIL⟩⟩
  have d_fIM : Dr P w K mg base spIsLamp "is_lamp" ["levels", "value"] 2 := ⟨⟨fIM, _, ok_isLamp F_fIM d_fII (none (n := "isinstance") (by decide +kernel)) (none (n := "tuple") (by decide +kernel)) (none (n := "len") (by decide +kernel)), b_fIM, m_fIM, kf_fIM⟩⟩
  have d_fWL : Dr P w K mg base (spWrong K) "wrong_lamp" ["levels", "lamps"] 3 := ⟨⟨fWL, _, ok_wrong F_fWL d_fIM (none (n := "enumerate") (by decide +kernel)), b_fWL, m_fWL, kf_fWL⟩⟩
  have d_fRI : Dr P w K mg base spReadInt "read_integer" ["word"] 1 := ⟨⟨fRI, _, ok_readInt F_fRI (none (n := "int") (by decide +kernel)) (none (n := "str") (by decide +kernel)), b_fRI, m_fRI, kf_fRI⟩⟩
  have d_fRL : Dr P w K mg base spReadLamp "read_lamp" ["word"] 2 := ⟨⟨fRL, _, ok_readLamp F_fRL d_fRI, b_fRL, m_fRL, kf_fRL⟩⟩
  have d_fRS : Dr P w K mg base spReadLamps "read_lamps" ["words"] 3 := ⟨⟨fRS, _, ok_readLamps F_fRS d_fRL (none (n := "len") (by decide +kernel)) (none (n := "tuple") (by decide +kernel)), b_fRS, m_fRS, kf_fRS⟩⟩
  have d_fRP : Dr P w K mg base spReadParts "read_parts" ["text"] 4 := ⟨⟨fRP, _, ok_readParts F_fRP d_fRI d_fRS (none (n := "len") (by decide +kernel)), b_fRP, m_fRP, kf_fRP⟩⟩
  have gI : FnOk P w K mg base CX0 4 gIn _ ["self", "levels", "lamps", "end"] (spInitR K C) := ok_initR F_gIn R d_fII d_fIL d_fWL mML (none (n := "isinstance") (by decide +kernel)) (none (n := "tuple") (by decide +kernel)) (none (n := "len") (by decide +kernel))
  have M : MkR P w K mg base C := ⟨⟨gIn, _, ⟨hmakes, fm_gIn, if_gIn, hkeep⟩, gI, b_gIn, fun s x u1 u2 u3 => .of_eq rfl⟩⟩
  have Rd : RdR P w K mg base C := ⟨⟨.type "type", p_gRd, gRd, _, ⟨crd_gRd, cga_gRd⟩, ⟨ca_gRd, ⟨_, cr_gRd⟩, cf2_gRd⟩, ok_read F_gRd M d_fRP (none (n := "isinstance") (by decide +kernel)) (none (n := "str") (by decide +kernel)), b_gRd⟩⟩
  have Z : Ask3 P w K mg base C := ⟨⟨⟨p_gLv, gLv, _, ⟨pa_gLv, pg_gLv, pt_gLv, ⟨_, pr_gLv⟩⟩, ok_levels F_gLv R, b_gLv⟩⟩, ⟨⟨p_gLa, gLa, _, ⟨pa_gLa, pg_gLa, pt_gLa, ⟨_, pr_gLa⟩⟩, ok_lamps F_gLa R, b_gLa⟩⟩, ⟨⟨p_gEn, gEn, _, ⟨pa_gEn, pg_gEn, pt_gEn, ⟨_, pr_gEn⟩⟩, ok_end F_gEn R, b_gEn⟩⟩⟩
  have ZN : XC P w K mg xN "InvalidNumber" "given" := xc_mk eN jN m_xN (fun base => ok_init F_iN scXN rfl (by decide +kernel) (by decide +kernel) (by decide) (by decide)) (fun s v u _ => .of_eq rfl) (fun s v u _ => .of_eq rfl)
  have DN := kdgB_ok (by obtain ⟨B, n, i, t, T, _⟩ := ecB_ok eN; exact ⟨B, n, i, t, T⟩) kdN
  have ZL : XC P w K mg xL "NotLot" "given" := xc_mk eL jL m_xL (fun base => ok_init F_iL scXL rfl (by decide +kernel) (by decide +kernel) (by decide) (by decide)) (fun s v u _ => .of_eq rfl) (fun s v u _ => .of_eq rfl)
  have DL := kdgB_ok (by obtain ⟨B, n, i, t, T, _⟩ := ecB_ok eL; exact ⟨B, n, i, t, T⟩) kdL
  have ZR : XC P w K mg xR "NotRound" "given" := xc_mk eR jR m_xR (fun base => ok_init F_iR scXR rfl (by decide +kernel) (by decide +kernel) (by decide) (by decide)) (fun s v u _ => .of_eq rfl) (fun s v u _ => .of_eq rfl)
  have DR := kdgB_ok (by obtain ⟨B, n, i, t, T, _⟩ := ecB_ok eR; exact ⟨B, n, i, t, T⟩) kdR
  have ZO : XC P w K mg xO "OtherLevels" "given" := xc_mk eO jO m_xO (fun base => ok_init F_iO scXO rfl (by decide +kernel) (by decide +kernel) (by decide) (by decide)) (fun s v u _ => .of_eq rfl) (fun s v u _ => .of_eq rfl)
  have DO := kdgB_ok (by obtain ⟨B, n, i, t, T, _⟩ := ecB_ok eO; exact ⟨B, n, i, t, T⟩) kdO
  have ZT : XC P w K mg xT "TooFar" "given" := xc_mk eT jT m_xT (fun base => ok_init F_iT scXT rfl (by decide +kernel) (by decide +kernel) (by decide) (by decide)) (fun s v u _ => .of_eq rfl) (fun s v u _ => .of_eq rfl)
  have DT := kdgB_ok (by obtain ⟨B, n, i, t, T, _⟩ := ecB_ok eT; exact ⟨B, n, i, t, T⟩) kdT
  have ZI : XC P w K mg xI "InvalidRounds" "index" := xc_mk eI jI m_xI (fun base => ok_init F_iI scXI rfl (by decide +kernel) (by decide +kernel) (by decide) (by decide)) (fun s v u _ => .of_eq rfl) (fun s v u _ => .of_eq rfl)
  have NK := noKdB_ok hnk
  have NL := noKdB_ok hnkL
  have d_fRT : Dr P w K mg base (spRoundText K) "round_text" ["levels", "lamps", "end"] 1 := ⟨⟨fRT, _, ok_roundText F_fRT, b_fRT, m_fRT, kf_fRT⟩⟩
  have Tx : PrR P w K mg base C "text" (spText K C) 2 := ⟨⟨p_gTx, gTx, _, ⟨pa_gTx, pg_gTx, pt_gTx, ⟨_, pr_gTx⟩⟩, ok_text F_gTx R d_fRT, b_gTx⟩⟩
  have d_fIs : Dr P w K mg base (spIsSmall K C) "is_small" ["trip"] 3 := ⟨⟨fIs, _, ok_isSmall F_fIs R Z (none (n := "abs") (by decide +kernel)) (none (n := "max") (by decide +kernel)) mtP mtE, b_fIs, m_fIs, kf_fIs⟩⟩
  have d_fWr : Dr P w K mg base (spWrongR K C) "wrong_round" ["rounds"] 4 := ⟨⟨fWr, _, ok_wrongR F_fWr R S NK Z d_fIs (none (n := "enumerate") (by decide +kernel)) (none (n := "isinstance") (by decide +kernel)) mR mtR, b_fWr, m_fWr, kf_fWr⟩⟩
  have hIn_ := ok_lotInit F_hIn R RL Z Tx d_fWr ZI yI (none (n := "isinstance") (by decide +kernel)) (none (n := "tuple") (by decide +kernel)) (none (n := "len") (by decide +kernel))
  have ML : MkL P w K mg base C L' xI := ⟨⟨hIn, _, ⟨lmakes, fm_hIn, if_hIn, lkeep⟩, hIn_, b_hIn, fun s x u => .of_eq rfl⟩⟩
  have e_fII : Dr P w K mg base (spIsIntA K) "is_integer" ["value"] 1 := ⟨⟨fII, _, ok_isIntA F_fII (none (n := "isinstance") (by decide +kernel)) (none (n := "int") (by decide +kernel)) (none (n := "bool") (by decide +kernel)), b_fII, m_fII, kf_fII⟩⟩
  have x_fCN : DrX P w K mg base (spCkNX K xN) "check_number" ["value"] 3 := ⟨⟨fCN, _, ok_ckNX F_fCN e_fII ZN yN, b_fCN, m_fCN, kf_fCN⟩⟩
  have x_fCR : DrX P w K mg base (spCkRA K C xR) "check_round" ["value"] 3 := ⟨⟨fCR, _, ok_ckRA F_fCR R S NK mR (none (n := "isinstance") (by decide +kernel)) ZR yR, b_fCR, m_fCR, kf_fCR⟩⟩
  have x_fCS : DrX P w K mg base (spCkRsA K C xR xO) "check_rounds" ["trip", "second"] 4 := ⟨⟨fCS, _, ok_ckRsA F_fCS R Z x_fCR ZO yO, b_fCS, m_fCS, kf_fCS⟩⟩
  have d_fSz : Dr P w K mg base (spSize K C) "size_of" ["trip"] 3 := ⟨⟨fSz, _, ok_size F_fSz R Z (none (n := "abs") (by decide +kernel)) (none (n := "max") (by decide +kernel)), b_fSz, m_fSz, kf_fSz⟩⟩
  have d_fIN : Dr P w K mg base (spIsNear K C) "is_near" ["trip"] 4 := ⟨⟨fIN, _, ok_isNear F_fIN d_fSz mtN, b_fIN, m_fIN, kf_fIN⟩⟩
  have x_fCk : DrX P w K mg base (spCkNear K C xT) "check_near" ["trip"] 5 := ⟨⟨fCk, _, ok_ckNear F_fCk d_fIN d_fSz ZT yT, b_fCk, m_fCk, kf_fCk⟩⟩
  have x_fCl : DrX P w K mg base (spCkLA K C L' xL) "check_lot" ["value"] 3 := ⟨⟨fCl, _, ok_ckL F_fCl RL SL NL mL (none (n := "isinstance") (by decide +kernel)) ZL yL, b_fCl, m_fCl, kf_fCl⟩⟩
  have g_fIa : FnOk P w K mg base (L2.CX P w) 5 fIa _ ["trip", "second"] (spRsE K C xR xO) := ok_isAl F_fIa x_fCS
  have x_fIa : DrX P w K mg base (spRsE K C xR xO) "is_alike" ["trip", "second"] 5 := ⟨⟨fIa, _, g_fIa, b_fIa, m_fIa, kf_fIa⟩⟩
  have g_fCo : FnOk P w K mg base (L2.CX P w) 5 fCo _ ["trip", "second"] (spRsE K C xR xO) := ok_com F_fCo x_fCS
  have x_fCo : DrX P w K mg base (spRsE K C xR xO) "commute" ["trip", "second"] 5 := ⟨⟨fCo, _, g_fCo, b_fCo, m_fCo, kf_fCo⟩⟩
  have g_fAl : FnOk P w K mg base (L2.CX P w) 6 fAl _ ["trip", "second"] (spAlE K C xR xO xT) := ok_al F_fAl x_fCS x_fCk
  have x_fAl : DrX P w K mg base (spAlE K C xR xO xT) "alike" ["trip", "second"] 6 := ⟨⟨fAl, _, g_fAl, b_fAl, m_fAl, kf_fAl⟩⟩
  have g_fRo : FnOk P w K mg base (L2.CX P w) 4 fRo _ ["trip", "times"] (spRtE K C xR xN) := ok_rt F_fRo x_fCR x_fCN ZN yN
  have x_fRo : DrX P w K mg base (spRtE K C xR xN) "root" ["trip", "times"] 4 := ⟨⟨fRo, _, g_fRo, b_fRo, m_fRo, kf_fRo⟩⟩
  have g_fKa : FnOk P w K mg base (L2.CX P w) 7 fKa _ ["trip", "second"] (spAlE K C xR xO xT) := ok_cAl F_fKa x_fAl
  have x_fKa : DrX P w K mg base (spAlE K C xR xO xT) "certify_alike" ["trip", "second"] 7 := ⟨⟨fKa, _, g_fKa, b_fKa, m_fKa, kf_fKa⟩⟩
  have g_fKr : FnOk P w K mg base (L2.CX P w) 5 fKr _ ["trip", "times"] (spRtE K C xR xN) := ok_cRt F_fKr x_fRo
  have x_fKr : DrX P w K mg base (spRtE K C xR xN) "certify_root" ["trip", "times"] 5 := ⟨⟨fKr, _, g_fKr, b_fKr, m_fKr, kf_fKr⟩⟩
  have g_fLw : FnOk P w K mg base (L2.CX P w) 4 fLw _ ["trip"] (sp1E K xR) := ok_lw F_fLw x_fCR
  have x_fLw : DrX P w K mg base (sp1E K xR) "least_walk" ["trip"] 4 := ⟨⟨fLw, _, g_fLw, b_fLw, m_fLw, kf_fLw⟩⟩
  have g_fKs : FnOk P w K mg base (L2.CX P w) 5 fKs _ ["trip"] (sp1E K xR) := ok_cSt F_fKs x_fLw
  have x_fKs : DrX P w K mg base (sp1E K xR) "certify_steps" ["trip"] 5 := ⟨⟨fKs, _, g_fKs, b_fKs, m_fKs, kf_fKs⟩⟩
  have g_fFm : FnOk P w K mg base (L2.CX P w) 4 fFm _ ["lot"] (sp1E K xL) := ok_fm F_fFm x_fCl
  have x_fFm : DrX P w K mg base (sp1E K xL) "form" ["lot"] 4 := ⟨⟨fFm, _, g_fFm, b_fFm, m_fFm, kf_fFm⟩⟩
  have g_fCs : FnOk P w K mg base (L2.CX P w) 4 fCs _ ["lot"] (sp1E K xL) := ok_co F_fCs x_fCl
  have x_fCs : DrX P w K mg base (sp1E K xL) "cosets" ["lot"] 4 := ⟨⟨fCs, _, g_fCs, b_fCs, m_fCs, kf_fCs⟩⟩
  have g_fNe : FnOk P w K mg base (L2.CX P w) 4 fNe _ ["lot"] (sp1E K xL) := ok_ne F_fNe x_fCl
  have x_fNe : DrX P w K mg base (sp1E K xL) "needless" ["lot"] 4 := ⟨⟨fNe, _, g_fNe, b_fNe, m_fNe, kf_fNe⟩⟩
  have g_fDo : FnOk P w K mg base (L2.CX P w) 4 fDo _ ["lot", "plan"] (sp2E K xL) := ok_doi F_fDo x_fCl
  have x_fDo : DrX P w K mg base (sp2E K xL) "doing" ["lot", "plan"] 4 := ⟨⟨fDo, _, g_fDo, b_fDo, m_fDo, kf_fDo⟩⟩
  have g_fHo : FnOk P w K mg base (L2.CX P w) 4 fHo _ ["lot", "wish"] (sp2E K xL) := ok_ho F_fHo x_fCl
  have x_fHo : DrX P w K mg base (sp2E K xL) "holds" ["lot", "wish"] 4 := ⟨⟨fHo, _, g_fHo, b_fHo, m_fHo, kf_fHo⟩⟩
  have g_fMe : FnOk P w K mg base (L2.CX P w) 4 fMe _ ["lot", "wishes", "changes"] (sp3E K xL) := ok_me F_fMe x_fCl
  have x_fMe : DrX P w K mg base (sp3E K xL) "mends" ["lot", "wishes", "changes"] 4 := ⟨⟨fMe, _, g_fMe, b_fMe, m_fMe, kf_fMe⟩⟩
  have g_fLl : FnOk P w K mg base (L2.CX P w) 4 fLl _ ["lot", "other"] (spLsE K C L' xL) := ok_ckLs F_fLl x_fCl
  have x_fLl : DrX P w K mg base (spLsE K C L' xL) "check_lots" ["lot", "other"] 4 := ⟨⟨fLl, _, g_fLl, b_fLl, m_fLl, kf_fLl⟩⟩
  have g_fSa : FnOk P w K mg base (L2.CX P w) 5 fSa _ ["lot", "other"] (spLsE K C L' xL) := ok_sa F_fSa x_fLl
  have x_fSa : DrX P w K mg base (spLsE K C L' xL) "same" ["lot", "other"] 5 := ⟨⟨fSa, _, g_fSa, b_fSa, m_fSa, kf_fSa⟩⟩
  have g_fWi : FnOk P w K mg base (L2.CX P w) 5 fWi _ ["lot", "other"] (spLsE K C L' xL) := ok_wi F_fWi x_fLl
  have x_fWi : DrX P w K mg base (spLsE K C L' xL) "within" ["lot", "other"] 5 := ⟨⟨fWi, _, g_fWi, b_fWi, m_fWi, kf_fWi⟩⟩
  have g_fKe : FnOk P w K mg base (L2.CX P w) 6 fKe _ ["lot", "other"] (spLsE K C L' xL) := ok_cSa F_fKe x_fSa
  have x_fKe : DrX P w K mg base (spLsE K C L' xL) "certify_same" ["lot", "other"] 6 := ⟨⟨fKe, _, g_fKe, b_fKe, m_fKe, kf_fKe⟩⟩
  have g_fNo : FnOk P w K mg base (L2.CX P w) 6 fNo _ ["lot", "trip"] (spLrE K C L' xL xR xT) := ok_ckNO F_fNo x_fCl x_fCR x_fCk
  have x_fNo : DrX P w K mg base (spLrE K C L' xL xR xT) "check_near_of" ["lot", "trip"] 6 := ⟨⟨fNo, _, g_fNo, b_fNo, m_fNo, kf_fNo⟩⟩
  have g_fMk : FnOk P w K mg base (L2.CX P w) 7 fMk _ ["lot", "trip"] (spLrE K C L' xL xR xT) := ok_mk F_fMk x_fNo
  have x_fMk : DrX P w K mg base (spLrE K C L' xL xR xT) "makes" ["lot", "trip"] 7 := ⟨⟨fMk, _, g_fMk, b_fMk, m_fMk, kf_fMk⟩⟩
  have g_fPl : FnOk P w K mg base (L2.CX P w) 7 fPl _ ["lot", "trip"] (spLrE K C L' xL xR xT) := ok_pl F_fPl x_fNo
  have x_fPl : DrX P w K mg base (spLrE K C L' xL xR xT) "plan" ["lot", "trip"] 7 := ⟨⟨fPl, _, g_fPl, b_fPl, m_fPl, kf_fPl⟩⟩
  have g_fKm : FnOk P w K mg base (L2.CX P w) 8 fKm _ ["lot", "trip"] (spLrE K C L' xL xR xT) := ok_cMa F_fKm x_fMk
  have x_fKm : DrX P w K mg base (spLrE K C L' xL xR xT) "certify_made" ["lot", "trip"] 8 := ⟨⟨fKm, _, g_fKm, b_fKm, m_fKm, kf_fKm⟩⟩
  have k_fKr : DrKX P w K mg base (spRtE K C xR xN) "certify_root" ["trip", "times"] 5 0 ["trip", "times"] := ⟨⟨fKr, _, g_fKr, (fun s us ws l1 l2 => by obtain ⟨a, b, rfl⟩ := two_of' l2; cases List.length_eq_zero_iff.mp l1; exact .of_eq rfl), m_fKr, kf_fKr⟩⟩
  have k_fCs : DrKX P w K mg base (sp1E K xL) "cosets" ["lot"] 4 0 ["lot"] := ⟨⟨fCs, _, g_fCs, (fun s us ws l1 l2 => by obtain ⟨b, rfl⟩ := List.length_eq_one_iff.mp l2; cases List.length_eq_zero_iff.mp l1; exact .of_eq rfl), m_fCs, kf_fCs⟩⟩
  have k_fAl : DrKX P w K mg base (spAlE K C xR xO xT) "alike" ["trip", "second"] 6 1 ["second"] := ⟨⟨fAl, _, g_fAl, (fun s us ws l1 l2 => by obtain ⟨a, rfl⟩ := List.length_eq_one_iff.mp l1; obtain ⟨b, rfl⟩ := List.length_eq_one_iff.mp l2; exact .of_eq rfl), m_fAl, kf_fAl⟩⟩
  have k_fMk : DrKX P w K mg base (spLrE K C L' xL xR xT) "makes" ["lot", "trip"] 7 1 ["trip"] := ⟨⟨fMk, _, g_fMk, (fun s us ws l1 l2 => by obtain ⟨a, rfl⟩ := List.length_eq_one_iff.mp l1; obtain ⟨b, rfl⟩ := List.length_eq_one_iff.mp l2; exact .of_eq rfl), m_fMk, kf_fMk⟩⟩
  have wB : DrBX P w K mg base (spLsE K C L' xL) "within" ["lot", "other"] 5 := ⟨⟨fWi, _, g_fWi, fun s us hl => (by obtain ⟨a, b, rfl⟩ := two_of' hl; exact .of_eq rfl), m_fWi, kf_fWi⟩⟩
  have d_fCa : Dr P w K mg base spCast "_law_cast" ["_law_pail", "_law_many"] 1 := ⟨⟨fCa, _, ok_cast F_fCa (none (n := "int") (by decide +kernel)) (none (n := "divmod") (by decide +kernel)), b_fCa, m_fCa, kf_fCa⟩⟩
  have d_fBe : Dr P w K mg base (spBegun K) "_law_begun" ["_law_script", "_law_turn"] 1 := ⟨⟨fBe, _, ok_begun F_fBe (none (n := "int") (by decide +kernel)) (none (n := "len") (by decide +kernel)) (none (n := "abs") (by decide +kernel)), b_fBe, m_fBe, kf_fBe⟩⟩
  have gCa : FnOk P w K mg base CX0 1 fCa _ _ spCast := ok_cast F_fCa (none (n := "int") (by decide +kernel)) (none (n := "divmod") (by decide +kernel))
  have gAn : FnOk P w K mg base CX0 2 fAn _ _ spAny := ok_any F_fAn gCa b_fCa m_fCa kf_fCa (none (n := "len") (by decide +kernel))
  have d_fAn : Dr P w K mg base spAny "_law_any_of" ["_law_pail", "_law_some"] 2 := ⟨⟨fAn, _, gAn, b_fAn, m_fAn, kf_fAn⟩⟩
  have d_fTg : Dr P w K mg base (spThing K) "_law_thing" ["_law_pail"] 3 := ⟨⟨fTg, _, ok_thing F_fTg gAn b_fAn m_fAn kf_fAn, b_fTg, m_fTg, kf_fTg⟩⟩
  have d_fVa : Dr P w K mg base spVast "_law_vast" ["_law_pail", "_law_many"] 2 := ⟨⟨fVa, _, ok_vast F_fVa d_fCa (none (n := "int") (by decide +kernel)) (none (n := "range") (by decide +kernel)), b_fVa, m_fVa, kf_fVa⟩⟩
  have d_fSh : Dr P w K mg base (spSheet K) "_law_sheet" ["_law_parts"] 1 := ⟨⟨fSh, _, ok_sheet F_fSh (none (n := "str") (by decide +kernel)), b_fSh, m_fSh, kf_fSh⟩⟩
  have d_fOf : Dr P w K mg base (spOf K C) "_law_of" ["_law_parts"] 6 := ⟨⟨fOf, _, ok_of F_fOf M mR, b_fOf, m_fOf, kf_fOf⟩⟩
  have d_fTi : Dr P w K mg base (spTidy K) "_law_tidy" ["_law_p", "_law_chart"] 1 := ⟨⟨fTi, _, ok_tidy F_fTi (none (n := "tuple") (by decide +kernel)) (none (n := "sorted") (by decide +kernel)) (none (n := "list") (by decide +kernel)) (none (n := "int") (by decide +kernel)), b_fTi, m_fTi, kf_fTi⟩⟩
  have d_fSl : Dr P w K mg base (spSmall K) "_law_small" ["_law_pail", "_law_p", "_law_wide"] 3 := ⟨⟨fSl, _, ok_small F_fSl d_fAn d_fCa d_fTi (none (n := "range") (by decide +kernel)), b_fSl, m_fSl, kf_fSl⟩⟩
  have d_fCw : Dr P w K mg base (spCrowd K) "_law_crowd" ["_law_pail"] 4 := ⟨⟨fCw, _, ok_crowd F_fCw d_fAn d_fCa d_fSl (none (n := "range") (by decide +kernel)), b_fCw, m_fCw, kf_fCw⟩⟩
  have d_fLs : Dr P w K mg base (spLSheet K) "_law_lot_sheet" ["_law_crowd_here"] 2 := ⟨⟨fLs, _, ok_lotSheet F_fLs d_fSh, b_fLs, m_fLs, kf_fLs⟩⟩
  have Rl : RdL P w K mg base C L' := ⟨⟨.type "type", p_hRe, hRe, _, ⟨crd_hRe, cga_hRe⟩, ⟨ca_hRe, ⟨_, cr_hRe⟩, cf2_hRe⟩, ok_lotRead F_hRe ML Rd mR (none (n := "isinstance") (by decide +kernel)) (none (n := "str") (by decide +kernel)) (none (n := "tuple") (by decide +kernel)), b_hRe⟩⟩
  have d_fLo : Dr P w K mg base (spLotOf K C L') "_law_lot_of" ["_law_crowd_here"] 8 := ⟨⟨fLo, _, ok_lotOf F_fLo d_fOf ML mL (none (n := "tuple") (by decide +kernel)), b_fLo, m_fLo, kf_fLo⟩⟩
  have d_fBu : Dr P w K mg base (spLotBuilt K C L') "_law_lot_built" ["_law_pail", "_law_crowd_here"] 9 := ⟨⟨fBu, _, ok_lotBuilt F_fBu d_fCa d_fOf ML mL d_fLo d_fLs Rl (none (n := "tuple") (by decide +kernel)), b_fBu, m_fBu, kf_fBu⟩⟩
  have gSo : FnO P w K mg base 2 fSo _ ["_law_e"] (spSort K xN xL xR xO xT) := ok_sort F_fSo (metaB_ok hmeta) ⟨m_cA, m_cB, m_cC, m_xN, m_xL, m_xR, m_xO, m_xT, (none (n := "ValueError") (by decide +kernel)), (none (n := "LookupError") (by decide +kernel)), (none (n := "ArithmeticError") (by decide +kernel))⟩ DN DL DR DO DT (none (n := "isinstance") (by decide +kernel)) (none (n := "repr") (by decide +kernel)) (none (n := "len") (by decide +kernel))
  have Aw : AnsO P w K mg base cA cB cC (spSort K xN xL xR xO xT) 2 := ansO_mk ⟨⟨fSo, _, gSo, b_fSo, m_fSo, kf_fSo⟩⟩ m_cA m_cB m_cC F_fAw b_fAw m_fAw kf_fAw
  have gAk := ok_ask (T := [(tabA K cd_fAk, qA), (tabA K cd_fAL, qB), (tabA K cd_fSe, qC), (tabA K cd_fFr, qD), (tabA K cd_fRg, qR)]) F_fAk ca_fAk tb_fAk (by simp) (uB_ok uq_fAk) Aw x_fIa x_fAl x_fCo x_fRo x_fKa k_fKr x_fKs xmR
  have gAL := ok_askL (T := [(tabA K cd_fAk, qA), (tabA K cd_fAL, qB), (tabA K cd_fSe, qC), (tabA K cd_fFr, qD), (tabA K cd_fRg, qR)]) F_fAL ca_fAL tb_fAL (by simp) (uB_ok uq_fAL) Aw x_fFm k_fCs x_fMk x_fPl x_fDo x_fSa x_fWi x_fNe x_fHo x_fMe x_fKm x_fKe xmL
  have gSe := ok_sec (T := [(tabA K cd_fAk, qA), (tabA K cd_fAL, qB), (tabA K cd_fSe, qC), (tabA K cd_fFr, qD), (tabA K cd_fRg, qR)]) F_fSe ca_fSe tb_fSe (by simp) (uB_ok uq_fSe) Aw x_fIa k_fAl x_fCo x_fKa k_fMk x_fPl x_fKm xmR
  have gFr := ok_far (T := [(tabA K cd_fAk, qA), (tabA K cd_fAL, qB), (tabA K cd_fSe, qC), (tabA K cd_fFr, qD), (tabA K cd_fRg, qR)]) F_fFr ca_fFr tb_fFr (by simp) (uB_ok uq_fFr) Aw R Z d_fAn d_fVa M mR x_fAl x_fKa x_fMk x_fPl x_fKm x_fIa x_fCo xmT xmO (none (n := "str") (by decide +kernel))
  have gRg := ok_right (T := [(tabA K cd_fAk, qA), (tabA K cd_fAL, qB), (tabA K cd_fSe, qC), (tabA K cd_fFr, qD), (tabA K cd_fRg, qR)]) F_fRg ca_fRg tb_fRg (by simp) (uB_ok uq_fRg) Aw d_fCw d_fBu d_fOf d_fTg gAk b_fAk m_fAk kf_fAk gAL b_fAL m_fAL kf_fAL gSe b_fSe m_fSe kf_fSe gFr b_fFr m_fFr kf_fFr x_fSa x_fKe x_fRo x_fKr wB xmL xmN (none (n := "range") (by decide +kernel)) (none (n := "repr") (by decide +kernel))
  exact ok_law F_fLaw gRg b_fRg m_fRg kf_fRg d_fBe (none (n := "range") (by decide +kernel)) (none (n := "len") (by decide +kernel)) (none (n := "all") (by decide +kernel)) (none (n := "max") (by decide +kernel)) (none (n := "min") (by decide +kernel))
open PySem.W in
theorem walk {l : PySem.W.OpenLaw} {q : Program} {loose : List Str} {XP : (Str → Option Value) → Heap → Prop} {YP : World → Heap → Prop} {d : DefRec} {K : Params → PySem.W.Frag} (hn : l.most = some 63) (hdf : d.params.defaults = []) (hrec : ∀ x ∈ (["_law_rounds_asked", "_law_lots_asked", "_law_seconds", "_law_far_right", "_law_right"] : List Str), ((recsOf q).any fun e => e.name == x) = true) (hY : ∀ (w : World) (h : Heap), YP w h → (K w.params).In h)
    (F : ∀ (w : World) (mg : Str → Option Value) (fa : Addr) (h : Heap), (K w.params).In h → h.Ns mainGlobals mg → mg d.name = some (.ref fa) → ∃ (fd : FuncData) (cs : List (Addr × Addr)) (sp : Sp), (∀ p ∈ cs, TabOf (K w.params) mg ["_law_rounds_asked", "_law_lots_asked", "_law_seconds", "_law_far_right", "_law_right"] p) ∧ (∀ (s : Shared) (u : Value), BindsTo s fd ⟨[u], []⟩ [("_law_script", u)]) ∧
      (∀ (H : Hp) (a : Addr) (ns : List Int), ns.length ≤ 63 → (∀ z ∈ ns, Builtin.Int.intBits z ≤ 1048576) → (∀ p ∈ cs, H p.2 = some (.tbl #[])) → SqL (K w.params) H a (ns.map V.int) → sp [.ref a] H (fun v _ => v = .bl true) E0) ∧
        ∀ base : Heap, (K w.params).In base → base.Ns mainGlobals mg → (∀ p ∈ cs, TabB base mg p.1 p.2) → FnG l.prog w (K w.params) mg base 14 fa fd ["_law_script"] sp) : PySem.W.WalkO q loose XP YP l.row.toRowW d [] (fun f vs => PySem.call f vs) :=
  walk_ofGT (n := 63) (k := 14) (x := "_law_script") ["_law_rounds_asked", "_law_lots_asked", "_law_seconds", "_law_far_right", "_law_right"] hn (by decide) hdf ⟨rfl, by decide, by decide⟩ hrec hY F
end Lamp
set_option Elab.async false
open PySem PySem.W PyProof.Rows
set_option maxRecDepth 100000 in
set_option maxHeartbeats 0 in
theorem PySem.Challenge.cw_lamprounds_k20_doors_of_functions_holds : PySem.Challenge.rw_lamprounds_k20_doors_of_functions.Holds := by
  w_on; o_law; k_head; (case hw => w_witness2)
  k_fill
  refine Lamp.walk (l := PySem.Challenge.rw_lamprounds_k20_doors_of_functions) rfl rfl ?hrec (fun w h Y => PySem.W.km_in_of Y) ?F
  (case hrec => decide +kernel)
  case F =>
    intro w mg fa h KX G hmg
    refine' Lamp.all_mk KX G hmg ?nC ?nLo ?n_cA ?n_cB ?n_cC ?n_xN ?n_xL ?n_xR ?n_xO ?n_xT ?n_xI ?nf_fRI ?lf_fRI ?cf_fRI ?kf_fRI ?nf_fRL ?lf_fRL ?cf_fRL ?kf_fRL ?nf_fRS ?lf_fRS ?cf_fRS ?kf_fRS ?nf_fRP ?lf_fRP ?cf_fRP ?kf_fRP ?nf_fII ?lf_fII ?cf_fII ?kf_fII ?nf_fIL ?lf_fIL ?cf_fIL ?kf_fIL ?nf_fIM ?lf_fIM ?cf_fIM ?kf_fIM ?nf_fWL ?lf_fWL ?cf_fWL ?kf_fWL ?nf_fRT ?lf_fRT ?cf_fRT ?kf_fRT ?nf_fIs ?lf_fIs ?cf_fIs ?kf_fIs ?nf_fWr ?lf_fWr ?cf_fWr ?kf_fWr ?nf_fCN ?lf_fCN ?cf_fCN ?kf_fCN ?nf_fCR ?lf_fCR ?cf_fCR ?kf_fCR ?nf_fCS ?lf_fCS ?cf_fCS ?kf_fCS ?nf_fSz ?lf_fSz ?cf_fSz ?kf_fSz ?nf_fIN ?lf_fIN ?cf_fIN ?kf_fIN ?nf_fCk ?lf_fCk ?cf_fCk ?kf_fCk ?nf_fCl ?lf_fCl ?cf_fCl ?kf_fCl ?nf_fIa ?lf_fIa ?cf_fIa ?kf_fIa ?nf_fAl ?lf_fAl ?cf_fAl ?kf_fAl ?nf_fCo ?lf_fCo ?cf_fCo ?kf_fCo ?nf_fRo ?lf_fRo ?cf_fRo ?kf_fRo ?nf_fKa ?lf_fKa ?cf_fKa ?kf_fKa ?nf_fKr ?lf_fKr ?cf_fKr ?kf_fKr ?nf_fLw ?lf_fLw ?cf_fLw ?kf_fLw ?nf_fKs ?lf_fKs ?cf_fKs ?kf_fKs ?nf_fFm ?lf_fFm ?cf_fFm ?kf_fFm ?nf_fCs ?lf_fCs ?cf_fCs ?kf_fCs ?nf_fNo ?lf_fNo ?cf_fNo ?kf_fNo ?nf_fMk ?lf_fMk ?cf_fMk ?kf_fMk ?nf_fPl ?lf_fPl ?cf_fPl ?kf_fPl ?nf_fDo ?lf_fDo ?cf_fDo ?kf_fDo ?nf_fLl ?lf_fLl ?cf_fLl ?kf_fLl ?nf_fSa ?lf_fSa ?cf_fSa ?kf_fSa ?nf_fWi ?lf_fWi ?cf_fWi ?kf_fWi ?nf_fNe ?lf_fNe ?cf_fNe ?kf_fNe ?nf_fHo ?lf_fHo ?cf_fHo ?kf_fHo ?nf_fMe ?lf_fMe ?cf_fMe ?kf_fMe ?nf_fKm ?lf_fKm ?cf_fKm ?kf_fKm ?nf_fKe ?lf_fKe ?cf_fKe ?kf_fKe ?nf_fBe ?lf_fBe ?cf_fBe ?kf_fBe ?nf_fCa ?lf_fCa ?cf_fCa ?kf_fCa ?nf_fAn ?lf_fAn ?cf_fAn ?kf_fAn ?nf_fVa ?lf_fVa ?cf_fVa ?kf_fVa ?nf_fSh ?lf_fSh ?cf_fSh ?kf_fSh ?nf_fOf ?lf_fOf ?cf_fOf ?kf_fOf ?nf_fTg ?lf_fTg ?cf_fTg ?kf_fTg ?nf_fTi ?lf_fTi ?cf_fTi ?kf_fTi ?nf_fSl ?lf_fSl ?cf_fSl ?kf_fSl ?nf_fCw ?lf_fCw ?cf_fCw ?kf_fCw ?nf_fLs ?lf_fLs ?cf_fLs ?kf_fLs ?nf_fLo ?lf_fLo ?cf_fLo ?kf_fLo ?nf_fBu ?lf_fBu ?cf_fBu ?kf_fBu ?nf_fSo ?lf_fSo ?cf_fSo ?kf_fSo ?nf_fAw ?lf_fAw ?cf_fAw ?kf_fAw ?nf_fAk ?lf_fAk ?cf_fAk ?kf_fAk ?nf_fAL ?lf_fAL ?cf_fAL ?kf_fAL ?nf_fSe ?lf_fSe ?cf_fSe ?kf_fSe ?nf_fFr ?lf_fFr ?cf_fFr ?kf_fFr ?nf_fRg ?lf_fRg ?cf_fRg ?kf_fRg ?nf_fLaw ?lf_fLaw ?cf_fLaw ?kf_fLaw ?fm_gIn ?lf_gIn ?cf_gIn ?kf_gIn ?if_gIn ?fm_gEq ?lf_gEq ?cf_gEq ?kf_gEq ?if_gEq ?fm_iN ?lf_iN ?cf_iN ?kf_iN ?if_iN ?fm_iL ?lf_iL ?cf_iL ?kf_iL ?if_iL ?fm_iR ?lf_iR ?cf_iR ?kf_iR ?if_iR ?fm_iO ?lf_iO ?cf_iO ?kf_iO ?if_iO ?fm_iT ?lf_iT ?cf_iT ?kf_iT ?if_iT ?fm_iI ?lf_iI ?cf_iI ?kf_iI ?if_iI ?fm_hIn ?lf_hIn ?cf_hIn ?kf_hIn ?if_hIn ?pa_gLv ?pr_gLv ?pg_gLv ?pt_gLv ?lf_gLv ?cf_gLv ?kf_gLv ?pa_gLa ?pr_gLa ?pg_gLa ?pt_gLa ?lf_gLa ?cf_gLa ?kf_gLa ?pa_gEn ?pr_gEn ?pg_gEn ?pt_gEn ?lf_gEn ?cf_gEn ?kf_gEn ?pa_gTx ?pr_gTx ?pg_gTx ?pt_gTx ?lf_gTx ?cf_gTx ?kf_gTx ?ca_gRd ?cr_gRd ?cf2_gRd ?crd_gRd ?cga_gRd ?lf_gRd ?cf_gRd ?kf_gRd ?ca_hRe ?cr_hRe ?cf2_hRe ?crd_hRe ?cga_hRe ?lf_hRe ?cf_hRe ?kf_hRe ?nL ?lL ?nM ?ntR ?ntP ?ntE ?ntN ?all
    (case nC => k_is)
    (case nLo => k_is)
    (case n_cA => k_is)
    (case n_cB => k_is)
    (case n_cC => k_is)
    (case n_xN => k_is)
    (case n_xL => k_is)
    (case n_xR => k_is)
    (case n_xO => k_is)
    (case n_xT => k_is)
    (case n_xI => k_is)
    (case nf_fRI => k_is)
    (case lf_fRI => k_is)
    (case cf_fRI => k_is)
    (case kf_fRI => k_is)
    (case nf_fRL => k_is)
    (case lf_fRL => k_is)
    (case cf_fRL => k_is)
    (case kf_fRL => k_is)
    (case nf_fRS => k_is)
    (case lf_fRS => k_is)
    (case cf_fRS => k_is)
    (case kf_fRS => k_is)
    (case nf_fRP => k_is)
    (case lf_fRP => k_is)
    (case cf_fRP => k_is)
    (case kf_fRP => k_is)
    (case nf_fII => k_is)
    (case lf_fII => k_is)
    (case cf_fII => k_is)
    (case kf_fII => k_is)
    (case nf_fIL => k_is)
    (case lf_fIL => k_is)
    (case cf_fIL => k_is)
    (case kf_fIL => k_is)
    (case nf_fIM => k_is)
    (case lf_fIM => k_is)
    (case cf_fIM => k_is)
    (case kf_fIM => k_is)
    (case nf_fWL => k_is)
    (case lf_fWL => k_is)
    (case cf_fWL => k_is)
    (case kf_fWL => k_is)
    (case nf_fRT => k_is)
    (case lf_fRT => k_is)
    (case cf_fRT => k_is)
    (case kf_fRT => k_is)
    (case nf_fIs => k_is)
    (case lf_fIs => k_is)
    (case cf_fIs => k_is)
    (case kf_fIs => k_is)
    (case nf_fWr => k_is)
    (case lf_fWr => k_is)
    (case cf_fWr => k_is)
    (case kf_fWr => k_is)
    (case nf_fCN => k_is)
    (case lf_fCN => k_is)
    (case cf_fCN => k_is)
    (case kf_fCN => k_is)
    (case nf_fCR => k_is)
    (case lf_fCR => k_is)
    (case cf_fCR => k_is)
    (case kf_fCR => k_is)
    (case nf_fCS => k_is)
    (case lf_fCS => k_is)
    (case cf_fCS => k_is)
    (case kf_fCS => k_is)
    (case nf_fSz => k_is)
    (case lf_fSz => k_is)
    (case cf_fSz => k_is)
    (case kf_fSz => k_is)
    (case nf_fIN => k_is)
    (case lf_fIN => k_is)
    (case cf_fIN => k_is)
    (case kf_fIN => k_is)
    (case nf_fCk => k_is)
    (case lf_fCk => k_is)
    (case cf_fCk => k_is)
    (case kf_fCk => k_is)
    (case nf_fCl => k_is)
    (case lf_fCl => k_is)
    (case cf_fCl => k_is)
    (case kf_fCl => k_is)
    (case nf_fIa => k_is)
    (case lf_fIa => k_is)
    (case cf_fIa => k_is)
    (case kf_fIa => k_is)
    (case nf_fAl => k_is)
    (case lf_fAl => k_is)
    (case cf_fAl => k_is)
    (case kf_fAl => k_is)
    (case nf_fCo => k_is)
    (case lf_fCo => k_is)
    (case cf_fCo => k_is)
    (case kf_fCo => k_is)
    (case nf_fRo => k_is)
    (case lf_fRo => k_is)
    (case cf_fRo => k_is)
    (case kf_fRo => k_is)
    (case nf_fKa => k_is)
    (case lf_fKa => k_is)
    (case cf_fKa => k_is)
    (case kf_fKa => k_is)
    (case nf_fKr => k_is)
    (case lf_fKr => k_is)
    (case cf_fKr => k_is)
    (case kf_fKr => k_is)
    (case nf_fLw => k_is)
    (case lf_fLw => k_is)
    (case cf_fLw => k_is)
    (case kf_fLw => k_is)
    (case nf_fKs => k_is)
    (case lf_fKs => k_is)
    (case cf_fKs => k_is)
    (case kf_fKs => k_is)
    (case nf_fFm => k_is)
    (case lf_fFm => k_is)
    (case cf_fFm => k_is)
    (case kf_fFm => k_is)
    (case nf_fCs => k_is)
    (case lf_fCs => k_is)
    (case cf_fCs => k_is)
    (case kf_fCs => k_is)
    (case nf_fNo => k_is)
    (case lf_fNo => k_is)
    (case cf_fNo => k_is)
    (case kf_fNo => k_is)
    (case nf_fMk => k_is)
    (case lf_fMk => k_is)
    (case cf_fMk => k_is)
    (case kf_fMk => k_is)
    (case nf_fPl => k_is)
    (case lf_fPl => k_is)
    (case cf_fPl => k_is)
    (case kf_fPl => k_is)
    (case nf_fDo => k_is)
    (case lf_fDo => k_is)
    (case cf_fDo => k_is)
    (case kf_fDo => k_is)
    (case nf_fLl => k_is)
    (case lf_fLl => k_is)
    (case cf_fLl => k_is)
    (case kf_fLl => k_is)
    (case nf_fSa => k_is)
    (case lf_fSa => k_is)
    (case cf_fSa => k_is)
    (case kf_fSa => k_is)
    (case nf_fWi => k_is)
    (case lf_fWi => k_is)
    (case cf_fWi => k_is)
    (case kf_fWi => k_is)
    (case nf_fNe => k_is)
    (case lf_fNe => k_is)
    (case cf_fNe => k_is)
    (case kf_fNe => k_is)
    (case nf_fHo => k_is)
    (case lf_fHo => k_is)
    (case cf_fHo => k_is)
    (case kf_fHo => k_is)
    (case nf_fMe => k_is)
    (case lf_fMe => k_is)
    (case cf_fMe => k_is)
    (case kf_fMe => k_is)
    (case nf_fKm => k_is)
    (case lf_fKm => k_is)
    (case cf_fKm => k_is)
    (case kf_fKm => k_is)
    (case nf_fKe => k_is)
    (case lf_fKe => k_is)
    (case cf_fKe => k_is)
    (case kf_fKe => k_is)
    (case nf_fBe => k_is)
    (case lf_fBe => k_is)
    (case cf_fBe => k_is)
    (case kf_fBe => k_is)
    (case nf_fCa => k_is)
    (case lf_fCa => k_is)
    (case cf_fCa => k_is)
    (case kf_fCa => k_is)
    (case nf_fAn => k_is)
    (case lf_fAn => k_is)
    (case cf_fAn => k_is)
    (case kf_fAn => k_is)
    (case nf_fVa => k_is)
    (case lf_fVa => k_is)
    (case cf_fVa => k_is)
    (case kf_fVa => k_is)
    (case nf_fSh => k_is)
    (case lf_fSh => k_is)
    (case cf_fSh => k_is)
    (case kf_fSh => k_is)
    (case nf_fOf => k_is)
    (case lf_fOf => k_is)
    (case cf_fOf => k_is)
    (case kf_fOf => k_is)
    (case nf_fTg => k_is)
    (case lf_fTg => k_is)
    (case cf_fTg => k_is)
    (case kf_fTg => k_is)
    (case nf_fTi => k_is)
    (case lf_fTi => k_is)
    (case cf_fTi => k_is)
    (case kf_fTi => k_is)
    (case nf_fSl => k_is)
    (case lf_fSl => k_is)
    (case cf_fSl => k_is)
    (case kf_fSl => k_is)
    (case nf_fCw => k_is)
    (case lf_fCw => k_is)
    (case cf_fCw => k_is)
    (case kf_fCw => k_is)
    (case nf_fLs => k_is)
    (case lf_fLs => k_is)
    (case cf_fLs => k_is)
    (case kf_fLs => k_is)
    (case nf_fLo => k_is)
    (case lf_fLo => k_is)
    (case cf_fLo => k_is)
    (case kf_fLo => k_is)
    (case nf_fBu => k_is)
    (case lf_fBu => k_is)
    (case cf_fBu => k_is)
    (case kf_fBu => k_is)
    (case nf_fSo => k_is)
    (case lf_fSo => k_is)
    (case cf_fSo => k_is)
    (case kf_fSo => k_is)
    (case nf_fAw => k_is)
    (case lf_fAw => k_is)
    (case cf_fAw => k_is)
    (case kf_fAw => k_is)
    (case nf_fAk => k_is)
    (case lf_fAk => k_is)
    (case cf_fAk => k_is)
    (case kf_fAk => k_is)
    (case nf_fAL => k_is)
    (case lf_fAL => k_is)
    (case cf_fAL => k_is)
    (case kf_fAL => k_is)
    (case nf_fSe => k_is)
    (case lf_fSe => k_is)
    (case cf_fSe => k_is)
    (case kf_fSe => k_is)
    (case nf_fFr => k_is)
    (case lf_fFr => k_is)
    (case cf_fFr => k_is)
    (case kf_fFr => k_is)
    (case nf_fRg => k_is)
    (case lf_fRg => k_is)
    (case cf_fRg => k_is)
    (case kf_fRg => k_is)
    (case nf_fLaw => k_is)
    (case lf_fLaw => k_is)
    (case cf_fLaw => k_is)
    (case kf_fLaw => k_is)
    (case fm_gIn => k_is)
    (case lf_gIn => k_is)
    (case cf_gIn => k_is)
    (case kf_gIn => k_is)
    (case if_gIn => k_is)
    (case fm_gEq => k_is)
    (case lf_gEq => k_is)
    (case cf_gEq => k_is)
    (case kf_gEq => k_is)
    (case if_gEq => k_is)
    (case fm_iN => k_is)
    (case lf_iN => k_is)
    (case cf_iN => k_is)
    (case kf_iN => k_is)
    (case if_iN => k_is)
    (case fm_iL => k_is)
    (case lf_iL => k_is)
    (case cf_iL => k_is)
    (case kf_iL => k_is)
    (case if_iL => k_is)
    (case fm_iR => k_is)
    (case lf_iR => k_is)
    (case cf_iR => k_is)
    (case kf_iR => k_is)
    (case if_iR => k_is)
    (case fm_iO => k_is)
    (case lf_iO => k_is)
    (case cf_iO => k_is)
    (case kf_iO => k_is)
    (case if_iO => k_is)
    (case fm_iT => k_is)
    (case lf_iT => k_is)
    (case cf_iT => k_is)
    (case kf_iT => k_is)
    (case if_iT => k_is)
    (case fm_iI => k_is)
    (case lf_iI => k_is)
    (case cf_iI => k_is)
    (case kf_iI => k_is)
    (case if_iI => k_is)
    (case fm_hIn => k_is)
    (case lf_hIn => k_is)
    (case cf_hIn => k_is)
    (case kf_hIn => k_is)
    (case if_hIn => k_is)
    (case pa_gLv => k_is)
    (case pr_gLv => k_is)
    (case pg_gLv => k_is)
    (case pt_gLv => k_is)
    (case lf_gLv => k_is)
    (case cf_gLv => k_is)
    (case kf_gLv => k_is)
    (case pa_gLa => k_is)
    (case pr_gLa => k_is)
    (case pg_gLa => k_is)
    (case pt_gLa => k_is)
    (case lf_gLa => k_is)
    (case cf_gLa => k_is)
    (case kf_gLa => k_is)
    (case pa_gEn => k_is)
    (case pr_gEn => k_is)
    (case pg_gEn => k_is)
    (case pt_gEn => k_is)
    (case lf_gEn => k_is)
    (case cf_gEn => k_is)
    (case kf_gEn => k_is)
    (case pa_gTx => k_is)
    (case pr_gTx => k_is)
    (case pg_gTx => k_is)
    (case pt_gTx => k_is)
    (case lf_gTx => k_is)
    (case cf_gTx => k_is)
    (case kf_gTx => k_is)
    (case ca_gRd => k_is)
    (case cr_gRd => k_is)
    (case cf2_gRd => k_is)
    (case crd_gRd => k_is)
    (case cga_gRd => k_is)
    (case lf_gRd => k_is)
    (case cf_gRd => k_is)
    (case kf_gRd => k_is)
    (case ca_hRe => k_is)
    (case cr_hRe => k_is)
    (case cf2_hRe => k_is)
    (case crd_hRe => k_is)
    (case cga_hRe => k_is)
    (case lf_hRe => k_is)
    (case cf_hRe => k_is)
    (case kf_hRe => k_is)
    (case nL => k_is)
    (case lL => k_is)
    (case nM => k_is)
    (case ntR => k_is)
    (case ntP => k_is)
    (case ntE => k_is)
    (case ntN => k_is)
    (case all => kernel_rfl)
