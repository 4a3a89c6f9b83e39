import PyProof.Rows.All
import Wide.All
import OpenK.AllK
import Wide.FinOn
import HandS.ForMost
import HandS.Wide
import HandS.WideBits
import HandS.EndBits
import HandS.Steps
import HandS.ExcInit
import KE.KExcLine
import KE.KExcIs
import HandS.ExcOwn
import HandS.ExcValue
import HandS.IsInst
import HandS.ExcField
import HandS.List
import HandS.More
import HandS.Dict
import HandS.Keys
import HandS.Call
import KE.KDictPairs
import HandS.Conv
import HandS.SortInts
import KE.GoesMore
import HandS.TupAny
import HandS.Text
import HandS.StrMore
import HandS.FStr
import KE.IntTextLaws
import HandS.Deep
import KE.KCallOwn
import HandS.Property
import HandS.ClsMeth
import HandS.MakeKwOnly
import HandS.RaiseMore
import HandS.NoneIn
import HandS.Comp
import HandS.OwnEq
import HandS.HotCalls
import KE.DataFind
import HandS.Lambda
import HandS.WordsExc
import HandS.Style
import HandS.EndOwn
import PyProof.ExcBaseAll.LookupError
import PyProof.ExcBaseAll.ArithmeticError
import PyProof.ExcBaseAll.ValueError
import PySem.Challenge.RW_lamprounds_k55_whole_streets_led
set_option Elab.async false
set_option linter.all false
set_option maxRecDepth 100000
namespace Lamp
open PySem PySem.Spec PyProof.Rows L2
/-! A def's promise where it is known that no repr is under way. -/
structure FnG (P : Program) (w : World) (K : PySem.W.Frag) (mg : Str → Option Value) (base : Heap) (k : Nat) (f : Addr) (fd : FuncData) (ps : List Str) (sp : Sp) : Prop where
  many : ∀ vs H Q E, sp vs H Q E → vs.length = ps.length
  goes : ∀ (A : Around) (out : List Env) (s : Shared) (H : Hp) (ar : Args) (us : List Value) (vs : List V) (Q : VK) (E : XK), A.guards = some [] → Room k A → Env0 P w K mg base A out s H →
    BindsTo s fd ar (ps.zip us) → Vals vs us → sp vs H Q E → codeAny (model P w) A (.call (.ref f) ar) (CR CX0 out P w H s Q E) s
section
variable {P : Program} {w : World} {K : PySem.W.Frag} {mg : Str → Option Value} {base : Heap}
theorem FnG.of {k : Nat} {f : Addr} {fd : FuncData} {ps : List Str} {sp : Sp} (F : FnOk P w K mg base CX0 k f fd ps sp) : FnG P w K mg base k f fd ps sp :=
  ⟨F.len, fun A out s H ar us vs Q E _ hr he hb hv hs => F.run A out s H ar us vs Q E hr he hb hv hs⟩
theorem FnG.up {j k : Nat} {f : Addr} {fd : FuncData} {ps : List Str} {sp : Sp} (F : FnG P w K mg base j f fd ps sp) (h : j ≤ k) : FnG P w K mg base k f fd ps sp :=
  ⟨F.many, fun A out s H ar us vs Q E hg hr he hb hv hs => F.goes A out s H ar us vs Q E hg (hr.mono h) he hb hv hs⟩
/-- the rule for a def, by its body -/
theorem okG {x qual : Str} {st : Stmt} {f : Addr} {fd : FuncData} {N ps : List Str} {k : Nat} {sp : Sp} (F : Fun K x qual st f fd) (S : FnScope N ps (defScope st)) (len : ∀ vs H Q E, sp vs H Q E → vs.length = ps.length)
    (hbody : ∀ (cdv : Value) (A : Around) (outer : List Env) (s : Shared) (H : Hp) (vs : List V) (Q : VK) (E : XK), A.guards = some [] → Room k (A.deeper (envOfC qual (defScope st) s.heap.objs.size f cdv)) → sp vs H Q E →
      ∃ t, PSs (cxOf CX0 P w K mg base N qual (defScope st) f cdv A outer s H E).nox (defBody st) t ∧ t { nx := fun _ H' => Q .non H', rt := Q } (start N vs) H) : FnG P w K mg base (k + 1) f fd ps sp := by
  obtain ⟨oc, od, kV, doc, pm, an, cdv, ct, osl, efd, hlk, hcode⟩ := F.ex
  subst efd
  refine ⟨len, fun A out s H ar us vs Q E hgd hroom hst hbind hvals hs => ?_⟩
  have hcount := len _ _ _ _ hs
  have inK : K.In s.heap := hst.mod.kin.keeps fun b o e => (hst.bs b o e).1
  have noLim : s.heap.NoLimit := hst.mod.nolimit.keeps fun b o e => (hst.bs b o e).1
  refine codeAny_call_function hroom.depth (inK _ _ hlk) rfl S.co S.gen rfl (PySem.W.codeRec_of inK hcode) (hbind _ _ _ _ ?_)
  refine wpAny_newFunctionEnv_cells S.kind (fun y hy => ?_) fun env eenv s1 xin => ?_
  · obtain ⟨nm, val⟩ := y
    cases S.par nm (List.of_mem_zip hy).1 with
    | inl isLocal => exact .inl isLocal
    | inr isCell => exact .inr ⟨isCell, PySem.W.cellsFrom_some _ _ _ (.inl isCell)⟩
  subst eenv
  refine ⟨noLim.keeps xin.toInCall.keep, codeAny_func ?_⟩
  obtain ⟨t, ht0, hq⟩ := hbody cdv A out s H vs Q E hgd (hroom.deeper _) hs
  have ht := ht0.nox
  have inv0 : Inv (cxOf CX0 P w K mg base N qual (defScope st) f cdv A out s H E) [] (start N vs) H s1 := inv_start S hroom.hd hst hcount hvals xin
  have fin : ∀ {σ' : L2.St} {H' : Hp} {v : V} {u : Value} {s' : Shared}, Inv (cxOf CX0 P w K mg base N qual (defScope st) f cdv A out s H E) [] σ' H' s' → RelV v u → Q v H' → CE out P w H s Q u s' := fun J rv q => ⟨_, _, J.os, J.bare, J.base, J.hok, rv, q⟩
  refine wpAny_mono (ht.run [] s1 (start N vs) H _ inv0 hq) (fun flow s' told => ?_) fun e s' told => told
  match flow, told with
  | .ret u, ⟨v, σ', H', J, rv, q⟩ => exact fin J rv q
  | .next, ⟨σ', H', J, q⟩ => exact fin (v := V.non) (u := Value.none) J rfl q
  | .brk, ⟨_, _, _, q⟩ => exact False.elim q
  | .cont, ⟨_, _, _, q⟩ => exact False.elim q
end
section
variable {X : Cx} {k : Nat} {f : Addr} {fd : FuncData} {ps : List Str} {sp : Sp} {dvs : List V} {ds : List Value} {x : Str} {p pos : Pos} {e : Expr} {es : List Expr} {t : TA}
theorem runG {pins : List (Addr × Obj)} {σ : L2.St} {H : Hp} {s : Shared} {Q : VK} {us : List Value} {vs : List V} (F : FnG X.prog X.w X.K X.mg X.base k f fd ps sp) (hgd : X.A.guards = some []) (hr : Room k X.A) (hb : Binds X.K fd ps [])
    (I : Inv X pins σ H s) (r : Vals vs us) (h : sp vs H Q E0) : wpAny (model X.prog X.w) X.A (call (.ref f) us) (EP X pins σ Q) X.xe s := by
  have hl : (us ++ []).length = ps.length := by rw [List.append_nil, ← r.length]; exact F.many _ _ _ _ h
  have hbb := hb s us I.kIn hl
  rw [List.append_nil] at hbb
  refine wpAny_call (codeAny_mono (F.goes X.A X.stack s H ⟨us, []⟩ us vs Q E0 hgd hr I.env0 hbb r h) fun res s' told => ?_)
  match res, told with
  | .error _, told => exact False.elim told
  | .ok (.ret u), told => exact I.after told
  | .ok .next, told => exact False.elim told
  | .ok .brk, told => exact False.elim told
  | .ok .cont, told => exact False.elim told
/-- f(e, ..) -/
def tCallG (sp : Sp) (t : TA) : TE := fun σ H Q => t σ H fun vs H1 => sp vs H1 Q E0
theorem pe_callG (F : FnG X.prog X.w X.K X.mg X.base k f fd ps sp) (hgd : X.A.guards = some []) (hr : Room k X.A) (hg : Gl X x) (hm : X.mg x = some (.ref f)) (hk : PySem.W.keepIn X.K (.ref f) = true) (hb : Binds X.K fd ps [])
    (ha : PA X (e :: es) t) (hdb : (x == ("__debug__" : Str)) = false := by decide) (he : starEach (e :: es) X.env = (false, eval e X.env) :: starEach es X.env := by rfl) (hpl : (backTo pos (starEach es X.env)).any (·.1) = false := by rfl) :
    PE X (.Call (.Name x p) (e :: es) [] pos) (tCallG sp t) :=
  ⟨fun pins s σ H Q I h => wpAny_Call_Name_kw (ld_glob I hg hm (PySem.W.callWith_K (h₀ := X.base) I.ok.mod.kin hk (thn (ha.run pos pins s σ H _ I h) fun us s1 ⟨vs, H1, I1, r, q⟩ =>
    ⟨I1.kIn, runG F hgd hr hb I1 r q⟩) he hpl) hdb)⟩
end
/-! the law's own call, from its promise -/
theorem law_goes {P : Program} {w : World} {K : PySem.W.Frag} {mg mb : Str → Option Value} {k : Nat} {fa a : Addr} {fd : FuncData} {x : Str} {sp : Sp} {sh : Shared} {vs : List Value} {ns : List Int} {H : Hp}
    (inK : K.In sh.heap) (nsG : sh.heap.Ns mainGlobals mg) (nsB : sh.heap.Ns builtinsNs mb) (bltn : ∀ x : Str, x ≠ "__name__" → mb x = bootBuiltins x) (noLim : sh.heap.NoLimit) (noGen : sh.gens = #[])
    (there : sh.heap.get? a = some { cls := .type "list", data := .seq vs.toArray }) (room : Room k callerA)
    (F : ∀ base : Heap, K.In base → base.Ns mainGlobals mg → FnG P w K mg base k fa fd [x] sp) (hbind : ∀ (s : Shared) (u : Value), BindsTo s fd ⟨[u], []⟩ [(x, u)])
    (asked : sp [.ref a] H (fun v _ => v = .bl true) E0) (only : Only H) (hok : HOk P w H sh.heap) (alone : ∀ b u, H b = some u → b = a ∧ K.lookup a = none) :
    codeAny (model P w) callerA (.call (.ref fa) ⟨[.ref a], []⟩) (fun r s' => r = .ok (.ret (.bool true)) ∧ OldK sh.heap s'.heap ∧ s'.os = sh.os ∧ AllBare s'.gens) sh := by
  have untold : ∀ {b : Addr} {o : Obj}, sh.heap.get? b = some o → (b = a → o.cls ≠ .type "list") → H b = none := fun {b o} e ne => by
    cases q : H b with
    | none => rfl
    | some u =>
      have eb := (alone b u q).1
      subst eb
      rw [there] at e
      cases e
      exact absurd rfl (ne rfl)
  have nsKeep : ∀ {b : Addr} {m : Str → Option Value}, sh.heap.Ns b m → (hidT sh.heap H).Ns b m := fun {b m} told => by
    obtain ⟨o, es, ep, e, d, r⟩ := told
    refine ⟨o, es, ep, hidT_get e ?_, d, r⟩
    cases q : H b with
    | none => rfl
    | some u =>
      have eb := (alone b u q).1
      subst eb
      rw [there] at e
      cases e
      exact Data.noConfusion d
  have inK' : K.In (hidT sh.heap H) := fun b o e => hidT_get (inK b o e) (by
    cases q : H b with
    | none => rfl
    | some u =>
      obtain ⟨eb, none⟩ := alone b u q
      rw [eb, none] at e
      cases e)
  obtain ⟨mc, lim1, lim2⟩ := noLim
  have start0 : Env0 P w K mg (hidT sh.heap H) callerA [] sh H :=
    { frames := rfl, mod := ⟨inK', nsKeep nsG, ⟨mb, nsKeep nsB, bltn⟩, ⟨mc, nsKeep lim1, lim2⟩⟩, bs := fun b o e => of_hidT e, bsz := Nat.le_of_eq (hidT_size _ _), funs := trivial, frf := (fun b hb => nomatch hb), hok := hok, bare := .of_eq noGen }
  refine codeAny_mono ((F _ inK' (nsKeep nsG)).goes callerA [] sh H ⟨[.ref a], []⟩ [.ref a] [.ref a] _ _ rfl room start0 (hbind sh (.ref a)) (.cons rfl .nil) asked) fun res s' told => ?_
  match res, told with
  | .error _, told => exact False.elim told
  | .ok .next, told => exact False.elim told
  | .ok .brk, told => exact False.elim told
  | .ok .cont, told => exact False.elim told
  | .ok (.ret u), ⟨v, H', os, bare, un, hok', rv, ev⟩ =>
    have ev' : v = .bl true := ev
    subst ev'
    have eu : u = Value.bool true := rv
    subst eu
    refine ⟨rfl, OldK.of_keep fun b o e => ?_, os, bare⟩
    rcases only b with none | ⟨ob, xs, froz⟩
    · exact un.keep b o e none (fun z => nomatch z) (fun z => nomatch z)
    · have old := (hok b _ froz).1
      have new := (hok' b _ (un.frzs b ob _ froz)).1
      rw [e] at old
      cases old
      exact new
theorem law_goes2 {P : Program} {w : World} {K : PySem.W.Frag} {mg mb : Str → Option Value} {k : Nat} {fa a : Addr} {fd : FuncData} {x : Str} {sp : Sp} {sh : Shared} {vs : List Value} {ns : List Int}
    (inK : K.In sh.heap) (nsG : sh.heap.Ns mainGlobals mg) (nsB : sh.heap.Ns builtinsNs mb) (bltn : ∀ x : Str, x ≠ "__name__" → mb x = bootBuiltins x) (noLim : sh.heap.NoLimit) (noGen : sh.gens = #[])
    (there : sh.heap.get? a = some { cls := .type "list", data := .seq vs.toArray }) (areInts : IntsAre vs ns) (short : ns.length ≤ sizeLine) (room : Room k callerA)
    (F : ∀ base : Heap, K.In base → base.Ns mainGlobals mg → FnG P w K mg base k fa fd [x] sp) (hbind : ∀ (s : Shared) (u : Value), BindsTo s fd ⟨[u], []⟩ [(x, u)])
    (asked : ∀ H : Hp, Only H → SqL K H a (ns.map V.int) → sp [.ref a] H (fun v _ => v = .bl true) E0) :
    codeAny (model P w) callerA (.call (.ref fa) ⟨[.ref a], []⟩) (fun r s' => r = .ok (.ret (.bool true)) ∧ OldK sh.heap s'.heap ∧ s'.os = sh.os ∧ AllBare s'.gens) sh := by
  have vals := vals_ints areInts
  have same := areInts.length
  cases look : K.lookup a with
  | some o =>
    have e := inK a o look
    rw [there] at e
    cases e
    have on : Only fun _ => none := fun _ => .inl rfl
    exact law_goes (ns := ns) inK nsG nsB bltn noLim noGen there room F hbind (asked _ on (.inr ⟨_, vs.toArray, _, look, rfl, rfl, rfl, by rw [List.size_toArray, same]; exact short, vals⟩)) on (fun b u z => nomatch z) (fun b u z => nomatch z)
  | none =>
    let held : HO := .frz { cls := .type "list", data := .seq vs.toArray } (.lst (ns.map V.int))
    have at_ : ∀ b, b = a → (fun c => if c = a then some held else none : Hp) b = some held := fun b e => if_pos e
    have off : ∀ b, b ≠ a → (fun c => if c = a then some held else none : Hp) b = none := fun b e => if_neg e
    have on : Only fun c => if c = a then some held else none := fun b => by
      by_cases eb : b = a
      · exact .inr ⟨_, _, at_ b eb⟩
      · exact .inl (off b eb)
    refine law_goes (ns := ns) inK nsG nsB bltn noLim noGen there room F hbind (asked _ on (.inl (.inr ⟨_, at_ a rfl⟩))) on (fun b u z => ?_) (fun b u z => ?_)
    · by_cases eb : b = a
      · subst eb
        have z2 := (at_ b rfl).symm.trans z
        cases z2
        exact ⟨there, by rw [List.length_map]; exact short, vs, _, vals, there⟩
      · have z2 := (off b eb).symm.trans z
        cases z2
    · by_cases eb : b = a
      · exact ⟨eb, look⟩
      · have z2 := (off b eb).symm.trans z
        cases z2
open PySem.W in
theorem walk_ofG {l : PySem.W.OpenLaw} {n k : Nat} {q : Program} {loose : List Str} {XP : (Str → Option Value) → Heap → Prop} {YP : World → Heap → Prop} {d : DefRec} {K : Params → PySem.W.Frag} {sp : World → Sp} {x : Str}
    (hn : l.most = some n) (hn2 : n ≤ sizeLine) (hdf : d.params.defaults = []) (hr : Room k callerA) (hY : ∀ (w : World) (h : Heap), YP w h → (K w.params).In h)
    (F : ∀ (w : World) (mg : Str → Option Value) (fa : Addr) (h : Heap), (K w.params).In h → h.Ns mainGlobals mg → mg d.name = some (.ref fa) → ∃ fd : FuncData, (∀ (s : Shared) (u : Value), BindsTo s fd ⟨[u], []⟩ [(x, u)]) ∧
        ∀ base : Heap, (K w.params).In base → base.Ns mainGlobals mg → FnG l.prog w (K w.params) mg base k fa fd [x] (sp w))
    (hsp : ∀ (w : World) (H : Hp) (a : Addr) (ns : List Int), ns.length ≤ n → (∀ z ∈ ns, Builtin.Int.intBits z ≤ 1048576) → Only H → SqL (K w.params) H a (ns.map V.int) → sp w [.ref a] H (fun v _ => v = .bl true) E0) :
    PySem.W.WalkO q loose XP YP l.row.toRowW d [] (fun f vs => PySem.call f vs) :=
  Att.attach_callB hn hdf fun w s₀ s₁ mg mb fa o pm cd doc a vs ns G Y ho hd hcd hmg hobj hints hlen hbits hg => by
    obtain ⟨fd, hb, hF⟩ := F w mg fa _ (hY w _ Y) G.T.g hmg
    exact law_goes2 (hY w _ Y) G.T.g G.T.b G.T.builtins G.T.nolimit hg hobj hints (Nat.le_trans hlen hn2) hr hF hb fun H hO hS => hsp w H a ns hlen hbits hO hS
end Lamp
set_option Elab.async false
set_option linter.all false
set_option maxRecDepth 100000
namespace Lamp
open PySem PySem.Spec PyProof.Rows L2
/-! repr of data -/
mutual
theorem dp_nodict {K : PySem.W.Frag} {H : Hp} : ∀ (d : PyData) (v : V), Dp K H v d → d.hasDict = false
  | .none, _, _ => by simp only [PyData.hasDict]
  | .bool _, _, _ => by simp only [PyData.hasDict]
  | .int _, _, _ => by simp only [PyData.hasDict]
  | .str _, _, _ => by simp only [PyData.hasDict]
  | .list ds, _, h => by
    cases h with
    | lst hs ha => simpa only [PyData.hasDict] using dpAll_nodict ds _ ha
  | .tuple ds, _, h => by
    cases h with
    | tup hs ha => simpa only [PyData.hasDict] using dpAll_nodict ds _ ha
  | .dict _, _, h => by cases h
theorem dpAll_nodict {K : PySem.W.Frag} {H : Hp} : ∀ (ds : List PyData) (vs : List V), DpAll K H vs ds → PyData.hasDictAll ds = false
  | [], _, _ => by simp only [PyData.hasDictAll]
  | d :: ds, _, h => by
    cases h with
    | cons h1 h2 => simp only [PyData.hasDictAll, dp_nodict d _ h1, dpAll_nodict ds _ h2, Bool.or_self]
end
/-- the data of a scalar -/
def scalD : V → Option PyData
  | .non => some .none
  | .bl b => some (.bool b)
  | .int i => some (.int i)
  | .str x => some (.str x)
  | _ => none
def keyD : Key → PyData
  | .inl i => .int i
  | .inr x => .str x
/-- a value that shows as data: data without dicts, or a dict of scalars -/
inductive Dq (K : PySem.W.Frag) (H : Hp) : V → PyData → Prop
  | plain {v : V} {d : PyData} : Dp K H v d → Dq K H v d
  | dict {a : Addr} {kvs : List (Key × V)} {es : List (PyData × PyData)} : H a = some (.dK kvs) → kvs.map (fun p => (keyD p.1, scalD p.2)) = es.map (fun p => (p.1, some p.2)) → Dq K H (.ref a) (.dict es)
theorem scal_reads {h : Heap} {v : V} {u : Value} {d : PyData} (e : scalD v = some d) (r : RelV v u) : Reads h u d [] := by
  cases v with
  | non => cases e; cases r; exact .none
  | bl b => cases e; cases r; exact .bool b
  | int i => cases e; obtain ⟨t, rfl⟩ := r; exact .int i t
  | str x => cases e; obtain ⟨t, rfl⟩ := r; exact .str x t
  | byt _ => cases e
  | flt _ => cases e
  | ref _ => cases e
  | ty _ => cases e
theorem key_reads {h : Heap} {k : Key} {u : Value} (e : keyIs k u = true) : Reads h u (keyD k) [] := by
  rcases keyIs_shape e with ⟨i, t, rfl, rfl⟩ | ⟨x, t, rfl, rfl⟩
  · exact .int i t
  · exact .str x t
theorem entries_read {P : Program} {w : World} {h : Heap} : ∀ {ents : List DictEntry} {vs : List (Key × Value)} {kvs : List (Key × V)} {es : List (PyData × PyData)}, Pairs (mixKind P w) ents vs → KV kvs vs →
    kvs.map (fun p => (keyD p.1, scalD p.2)) = es.map (fun p => (p.1, some p.2)) → ReadsAll h (ents.map (·.key)) (es.map (·.1)) [] ∧ ReadsAll h (ents.map (·.val)) (es.map (·.2)) [] := by
  intro ents vs kvs es hp
  induction hp generalizing kvs es with
  | nil =>
    intro hk e
    cases hk
    cases es with
    | nil => exact ⟨.nil, .nil⟩
    | cons _ _ => cases e
  | @cons en kv ents vs hkey hval _ ih =>
    intro hk e
    cases hk with
    | @cons p _ kvs' _ hpq hrest =>
      obtain ⟨ek, ev⟩ := hpq
      cases es with
      | nil => cases e
      | cons q es' =>
        simp only [List.map_cons, List.cons.injEq, Prod.mk.injEq] at e
        obtain ⟨⟨e1, e2⟩, e3⟩ := e
        obtain ⟨r1, r2⟩ := ih hrest e3
        have hkey' : keyIs p.1 en.key = true := by rw [ek]; exact hkey
        have k1 : Reads h en.key q.1 [] := by rw [← e1]; exact key_reads hkey'
        have k2 : Reads h en.val q.2 [] := scal_reads e2 (by rw [hval]; exact ev)
        exact ⟨by simpa using ReadsAll.cons k1 r1, by simpa using ReadsAll.cons k2 r2⟩
theorem dq_reads {X : Cx} {pins : List (Addr × Obj)} {σ : L2.St} {H : Hp} {s : Shared} (I : Inv X pins σ H s) {v : V} {u : Value} {d : PyData} (h : Dq X.K H v d) (r : RelV v u) :
    ∃ as, Reads s.heap u d as ∧ (d.hasDict = true → sysModules ∉ as) := by
  cases h with
  | plain h =>
    obtain ⟨as, q⟩ := Dp.reads I d v u h r
    exact ⟨as, q, fun z => by rw [dp_nodict d v h] at z; cases z⟩
  | @dict a kvs es ha he =>
    have eu : u = Value.ref a := r
    subst eu
    obtain ⟨_, low, vs, hk, o, ents, ep, h1, h2, h3, _, h5, _⟩ := (show ObjOk X.prog X.w H s.heap a (.dK kvs) from I.hok a _ ha)
    obtain ⟨q1, q2⟩ := entries_read (h := s.heap) h5 hk he
    refine ⟨_, Reads.dict h1 h2.1 h3 q1 q2, fun _ hm => ?_⟩
    simp at hm
    rw [← hm] at low
    simp at low
/-- repr(x) of data -/
def rReprD (K : PySem.W.Frag) : List V → Hp → VK → Prop := fun xs H Q => ∃ v d, xs = [v] ∧ Dq K H v d ∧ d.showable = true ∧ d.depth ≤ 60 ∧ d.shown.length ≤ sizeLine ∧ Q (.str d.shown) H
theorem call_reprD {X : Cx} (hgd : X.A.guards = some []) (hu : X.A.units + 64 < cLine) : CallR X (.builtin "repr") (rReprD X.K) := by
  intro pins s σ H xs us Q I r h
  obtain ⟨v, d, rfl, hd, hs, hdep, hlen, q⟩ := h
  obtain ⟨u, rfl, rv⟩ := vals1 r
  obtain ⟨as, hr, hsm⟩ := dq_reads I hd rv
  cases hr with
  | none => exact PySem.P.repr_of_none ⟨.str _, H, I.tok _, ⟨_, rfl⟩, q⟩
  | bool b => exact PySem.P.repr_of_bool ⟨.str _, H, I.tok _, ⟨_, rfl⟩, q⟩
  | int i t => exact PySem.P.repr_of_int (by simpa [PyData.showable] using hs) ⟨.str _, H, I.tok _, ⟨_, rfl⟩, q⟩
  | str x t => exact PySem.P.repr_of_str ⟨.str _, H, I.tok _, ⟨_, rfl⟩, q⟩ (by simpa [PyData.shown] using hlen)
  | list h1 h2 h3 h4 => exact repr_of_reads' (.list h1 h2 h3 h4) hs hsm hgd (by omega) (fun _ _ e => e) (fun h' u tk k => ⟨.str _, H, I.kept k, ⟨_, rfl⟩, q⟩) hlen
  | tuple h1 h2 h3 h4 => exact repr_of_reads' (.tuple h1 h2 h3 h4) hs hsm hgd (by omega) (fun _ _ e => e) (fun h' u tk k => ⟨.str _, H, I.kept k, ⟨_, rfl⟩, q⟩) hlen
  | dict h1 h2 h3 h4 h5 => exact repr_of_reads' (.dict h1 h2 h3 h4 h5) hs hsm hgd (by omega) (fun _ _ e => e) (fun h' u tk k => ⟨.str _, H, I.kept k, ⟨_, rfl⟩, q⟩) hlen
end Lamp
set_option Elab.async false
set_option linter.all false
set_option maxRecDepth 100000
set_option maxHeartbeats 4000000
namespace PySem
namespace LampX
open HandSPX Builtin Builtin.ObjectAttr
/-! an exception class of the program called, with keywords too -/
section
variable {prog : Program} {w : World} {M : Model} {A : Around} {E : Value → Shared → Prop} {R : Result → Shared → Prop} {h : Heap} {g : Array GenState} {d : Drawn} {t : Nat} {os : OsState}
variable {cn cq : Str} {C N : Addr} {bs bm tail : List Value} {hdct : Bool} {sn : List Str} {sub : List Value} {ab : Bool} {col : Option Bool} {dd : Option Addr} {k0 k1 k2 k3 k5 : Option Value} {B newId initId : String} {rest : List Value} {kw : List (Str × Value)}
theorem newChecked (F : ExcBaseFacts B newId initId tail) (hT : ∀ X : String, bm.contains (.type X) = tail.contains (.type X)) {Q : Unit → Shared → Prop}
    (hC : h.get? C = some (excClassObj cn cq C N bs bm hdct sn sub ab col dd k0 k1 k2 k3 k5 newId)) (hq : Q () ⟨h, g, d, t, os⟩) : wpAny M A (checkBuiltinCall newId ⟨.ref C :: rest, kw⟩) Q E ⟨h, g, d, t, os⟩ := by
  have below : (Value.ref C :: bm).contains (.type B) = true := by rw [List.contains_cons, hT, F.hasB, Bool.or_true]
  have plain := F.noStar
  simp only [checkBuiltinCall, F.newKind, F.newSplit, F.newRow]
  repeat (first | refine wpAny_loadPart_at hC ?_ | (refine wpAny_isSubtype_exc hC ?_; rw [below]) | refine wpAny_staticBase_exc hC ?_ | refine wpAny_madeBy_exc hC ?_ | simp only [bne_self_eq_false, Bool.false_eq_true, if_false] | wp_step)
  exact hq
theorem newMade (F : ExcBaseFacts B newId initId tail) (hT : ∀ X : String, bm.contains (.type X) = tail.contains (.type X))
    (hC : h.get? C = some (excClassObj cn cq C N bs bm hdct sn sub ab col dd k0 k1 k2 k3 k5 newId))
    (hq : R (.ok (.ret (.ref (h.objs.size + 1)))) ⟨(h.push (W.kdv_tup rest)).push (excO C h.objs.size), g, d, t, os⟩) (short : rest.length ≤ sizeLine) :
    codeAny (model prog w) A (.builtin newId ⟨.ref C :: rest, kw⟩) R ⟨h, g, d, t, os⟩ := by
  have stops := F.ends
  have isB : (Value.ref C :: bm).contains (.type B) = true := by rw [List.contains_cons, hT, F.hasB, Bool.or_true]
  have notA : (Value.ref C :: bm).contains (.type "AttributeError") = false := by rw [List.contains_cons, hT, F.noAttr] <;> rfl
  have notN : (Value.ref C :: bm).contains (.type "NameError") = false := by rw [List.contains_cons, hT, F.noName] <;> rfl
  refine codeAny_builtinAt F.entry ?_
  unfold Builtin.«BaseException.__new__»
  refine wpAt_bind ?_
  show wpAt _ _ _ (stack >>= _) _ _ _
  refine wpAt_bind (wpAt_stack fun p below => wpAt_of_wpAny ?_)
  wp_walk
  refine wpAt_of_wpAny ?_
  rw [F.owner]
  repeat (first | with_reducible refine wpAny_madeHere_exc F.canon hC ?_ | with_reducible refine wpAny_loadPart_at hC ?_ | (with_reducible refine wpAny_isSubtype_exc hC ?_; first | rw [isB] | rw [notA] | rw [notN]) | wp_step)
  show R _ _
  rw [Heap.size_push]
  exact hq
theorem typeCalled (F : ExcBaseFacts B newId initId tail) (hT : ∀ X : String, bm.contains (.type X) = tail.contains (.type X)) {fI : Addr} {Q : Fin → Shared → Prop}
    (hC : h.get? C = some (excClassObj cn cq C N bs bm hdct sn sub ab col dd k0 k1 k2 k3 k5 newId))
    (hi : W.Looks (model prog w) h (typeLookup (.ref C) "__init__") (some (.ref fI))) (hb : ∀ self, W.Looks (model prog w) h (bindSpecial (.ref fI) self) (.ref fI, [self])) (short : rest.length ≤ sizeLine)
    (hq : codeAny (model prog w) A (.call (.ref fI) ⟨.ref (h.objs.size + 1) :: rest, kw⟩)
      (fun r s' => match r with | .ok (.ret v) => v = .none ∧ Q (.done (.ret (.ref (h.objs.size + 1)))) s' | .ok _ => False | .error e => E e s') ⟨(h.push (W.kdv_tup rest)).push (excO C h.objs.size), g, d, t, os⟩) :
    wpAny (model prog w) A (Builtin.«type.__call__» ⟨.ref C :: rest, kw⟩) Q E ⟨h, g, d, t, os⟩ := by
  repeat (first | with_reducible refine wpAny_loadPart_at hC ?_ | with_reducible refine wpAny_madeBy_exc hC ?_ | wp_step)
  refine codeAny_call_builtin_code (Code.quiet_builtin _ F.quiet) (newChecked F hT hC ?_)
  refine newMade F hT hC ?_ short
  show wpAny _ _ _ _ _ _
  have stays : ∀ b o, h.get? b = some o → ((h.push (W.kdv_tup rest)).push (excO C h.objs.size)).get? b = some o := fun b o e => Heap.get?_push_of_some _ (Heap.get?_push_of_some _ e)
  have classThere := stays _ _ hC
  have newThere : ((h.push (W.kdv_tup rest)).push (excO C h.objs.size)).get? (h.objs.size + 1) = some (excO C h.objs.size) := by heap_get
  have ownClass : (Value.ref C :: bm).contains (.ref C) = true := by simp
  have initLook := hi.keeps stays
  have initBound := (hb (.ref (h.objs.size + 1))).keeps stays
  unfold isInstance
  repeat (first | with_reducible refine wpAny_loadPart_at newThere ?_ | (with_reducible refine wpAny_isSubtype_exc classThere ?_; rw [ownClass]) | wp_step)
  show wpAny _ _ (typeLookup (.ref C) _) _ _ _
  refine initLook.at ?_
  refine wpAny_holding (wpAny_bind (initBound.at ?_))
  refine wpAny_bind (wpAny_call (codeAny_mono hq fun r s' z => ?_))
  rcases r with e | (v | _ | _ | _) <;> first | exact z | exact z.elim | skip
  obtain ⟨rfl, z⟩ := z
  first
    | exact wpAny_pure (wpAny_pure z)
    | (wp_walk; exact z)
theorem typeCallChecked {Q : Unit → Shared → Prop} (hC : h.get? C = some (excClassObj cn cq C N bs bm hdct sn sub ab col dd k0 k1 k2 k3 k5 newId))
    (hq : Q () ⟨h, g, d, t, os⟩) : wpAny M A (checkBuiltinCall "type.__call__" ⟨.ref C :: rest, kw⟩) Q E ⟨h, g, d, t, os⟩ := by
  have isSub := tc_sub
  have isClass : (⟨h, g, d, t, os⟩ : Shared).TypeIs (.ref C) "type" := ⟨_, hC, rfl⟩
  simp only [checkBuiltinCall, tc_kind, tc_split]
  repeat (any_goals (first | assumption | with_reducible refine wpAny_loadPart_at hC ?_ | with_reducible refine wpAny_onRaise ?_ | with_reducible refine wpAny_map ?_ | wp_step))
/-- the class called -/
theorem excCalled (F : ExcBaseFacts B newId initId tail) (hT : ∀ X : String, bm.contains (.type X) = tail.contains (.type X)) {fI : Addr}
    (hC : h.get? C = some (excClassObj cn cq C N bs bm hdct sn sub ab col dd k0 k1 k2 k3 k5 newId))
    (hi : W.Looks (model prog w) h (typeLookup (.ref C) "__init__") (some (.ref fI))) (hb : ∀ self, W.Looks (model prog w) h (bindSpecial (.ref fI) self) (.ref fI, [self])) (short : rest.length ≤ sizeLine)
    (hq : codeAny (model prog w) (A.under (.builtin "type.__call__" ⟨.ref C :: rest, kw⟩)) (.call (.ref fI) ⟨.ref (h.objs.size + 1) :: rest, kw⟩) (W.InitBack (h.objs.size + 1) R) ⟨(h.push (W.kdv_tup rest)).push (excO C h.objs.size), g, d, t, os⟩) :
    codeAny (model prog w) A (.call (.ref C) ⟨rest, kw⟩) R ⟨h, g, d, t, os⟩ := by
  have look := tc_lookup
  have bound := tc_bind (.ref C)
  have isClass : (⟨h, g, d, t, os⟩ : Shared).TypeIs (.ref C) "type" := ⟨_, hC, rfl⟩
  refine codeAny_of_tree ?_
  show wpAny _ _ (callAny (.ref C) _) _ _ _
  repeat (any_goals (first | assumption | with_reducible refine wpAny_loadPart_at hC ?_ | wp_step))
  refine ⟨rfl, ?_⟩
  refine codeAny_call_builtin_at (Code.quiet_builtin _ (by decide +kernel)) entry_typeCall (typeCallChecked hC (typeCalled F hT hC hi hb short ?_))
  refine codeAny_mono hq fun r s' z => ?_
  rcases r with e | (v | _ | _ | _) <;> exact z
end
end LampX
end PySem
set_option Elab.async false
set_option linter.all false
set_option maxRecDepth 100000
set_option maxHeartbeats 4000000
namespace PySem
namespace LampX
open PySem.W Builtin.ObjectAttr
section
variable {prog : Program} {w : World} {A : Around} {s : Shared} {K : Frag} {C : Addr} {B : String} {tail : List Value}
/-- the first field of an exception: its dict is laid -/
theorem firstField {x t : Addr} {name : Str} {tk : Tok} {v : Value} {R : Result → Shared → Prop} (SF : StoreFacts B tail "object.__setattr__" "object") (inK : K.In s.heap) (there : s.heap.get? x = some (excObj C t none .none))
    (over : excOver K C tail = true) (taker : takerIn K C name = some none) (dict : hasDictIn K C = true)
    (hq : ∀ h' tk' dx, (∀ b o, b ≠ x → s.heap.get? b = some o → h'.get? b = some o) → s.heap.objs.size ≤ dx → dx ≠ x → h'.get? x = some (excObj C t (some dx) .none) →
      h'.Ns1 dx (fun y => if y = name then some v else none) → R (.ok (.ret .none)) { s with heap := h', toks := tk' }) :
    codeAny (model prog w) A (.call (.builtin "object.__setattr__") ⟨[.ref x, .str name tk, v], []⟩) R s := by
  have fresh : x ≠ s.heap.objs.size := Nat.ne_of_lt (Heap.lt_size there)
  refine osa_openX (od := none) SF inK ⟨there, rfl, rfl, trivial⟩ over taker fun b => ?_
  obtain ⟨cd, hcd, hdd⟩ := any_some dict
  refine wpAny_bind (wpAny_pure (wpAny_bind (instanceDict_exc there (looks_clsIn inK hcd) hdd ?_)))
  show wpAny _ _ (storeInDict s.heap.objs.size (.str name tk) name v) _ _ _
  have was : (s.heap.push (dictOf [] 0)).get? x = some (excObj C t none .none) := Heap.get?_push_of_some _ there
  refine HandSPX.store_in_new ⟨_, #[], _, (Heap.get?_update_ne _ _ _ _ fresh.symm).trans (Heap.get?_push_at rfl rfl), rfl, fun e he => absurd he (by simp), fun _ => rfl⟩ fun h' tk' named kept => ?_
  refine hq h' tk' s.heap.objs.size (fun b o hb ho => ?_) (Nat.le_refl _) fresh.symm ?_ named
  · exact (kept.2 b (Nat.ne_of_lt (Heap.lt_size ho))).trans ((Heap.get?_update_ne _ _ _ _ hb).trans (Heap.get?_push_of_some _ ho))
  · exact (kept.2 x fresh).trans (Heap.get?_update_self _ was rfl)
end
end LampX
end PySem
namespace Lamp
open PySem PySem.Spec PyProof.Rows L2
/-- what the written part says of an exception class of the program -/
structure EC (K : PySem.W.Frag) (C : Addr) (B newId initId : String) (tail : List Value) : Prop where
  F : ExcBaseFacts B newId initId tail
  S : StoreFacts B tail "object.__setattr__" "object"
  made : PySem.W.excInitIn K C tail newId = true
  over : PySem.W.excOver K C tail = true
  sa : PySem.W.findIn K (.ref C) "__setattr__" = some (some (.builtin "object.__setattr__"))
  ga : PySem.W.findIn K (.ref C) "__getattribute__" = some (some (.builtin "BaseException.__getattribute__"))
  gg : PySem.W.findIn K (.ref C) "__getattr__" = some none
  exC : PySem.W.subIn K (.ref C) (.type "BaseException") = some true
  hd : PySem.W.hasDictIn K C = true
  kp : PySem.W.keepIn K (.ref C) = true
  cls : PySem.W.findIn K (.ref C) "__class__" = some (some (.builtin "object.__class__"))
  obj : PySem.W.mroIn K C (.type "object") = some true
section
variable {X : Cx} {pins : List (Addr × Obj)} {σ : L2.St} {H : Hp} {s : Shared} {a C : Addr} {f : Str} {y : V} {u : Value} {Q : Unit → Shared → Prop} {E : Value → Shared → Prop} {A : Around} {B newId initId : String} {tail : List Value}
theorem store1 (T : EC X.K C B newId initId tail) (I : Inv X pins σ H s) (e : H a = some (exo a C none)) (ht : PySem.W.takerIn X.K C f = some none) (ry : RelV y u)
    (h : ∀ dx s', H dx = none → dx ≠ a → Inv X pins σ (upd (upd H dx (exd dx [(f, y)])) a (exo a C (some dx))) s' → Q () s') : wpAny (model X.prog X.w) A (setAttr (.ref a) f u) Q E s := by
  obtain ⟨t1, there⟩ := exo_at I.hok e
  refine PySem.W.set_plain I.kIn (ox := PySem.W.excObj C t1 none .none) (od := none) ⟨there, rfl, rfl, trivial⟩ T.sa ?_
  refine PySem.LampX.firstField (s := { s with toks := s.toks + 1 }) T.S I.kIn there T.over ht T.hd fun h' tk' dx kept new other now named => ?_
  have free : H dx = none := I.hok.fresh new
  have notNew : ∀ {b : Addr} {o : Obj}, s.heap.get? b = some o → b ≠ dx := fun {b o} q => Nat.ne_of_lt (Nat.lt_of_lt_of_le (Heap.lt_size q) new)
  have notA : ∀ {b : Addr}, H b = none → b ≠ a := fun {b} n z => by rw [z, e] at n; cases n
  have un : Un X.fs [] H (upd (upd H dx (exd dx [(f, y)])) a (exo a C (some dx))) s.heap h' :=
    ⟨fun b o q n _ _ => kept b o (notA n) q, fun b o q n _ _ => ⟨o.slots, kept b o (notA n) q⟩, fun b o q n _ => by rw [upd_ne (notA n), upd_ne (notNew q)]; exact n,
      fun b o q _ => by
        by_cases hb : b = a
        · subst hb; exact ⟨_, now⟩
        · exact ⟨o, kept b o hb q⟩,
      fun b xs q => by rw [upd_ne (at_ne e q exo_tup), upd_ne (ne_of_none q free)]; exact q,
      fun b o v q => by rw [upd_ne (at_ne e q exo_frz), upd_ne (ne_of_none q free)]; exact q,
      fun b ps q => ⟨#[], by rw [upd_ne (at_ne e q exo_tbl), upd_ne (ne_of_none q free), q]; simp⟩⟩
  refine h dx _ free other (I.un (t' := tk') un fun b o q => ?_)
  by_cases hb : b = a
  · subst hb
    rw [upd_same] at q
    cases q
    exact exo_ok now
  · rw [upd_ne hb] at q
    by_cases hbd : b = dx
    · subst hbd
      rw [upd_same] at q
      cases q
      exact exd_ok named (relO_put (fs := []) ry fun g => True.intro)
    · rw [upd_ne hbd] at q
      refine (I.hok b o q).stay (fun c v hc z => kept c v ?_ z) (fun c hc => ?_) fun c xs hc => ?_
      · rcases hc with rfl | hc
        · exact hb
        · exact at_ne e hc exo_own
      · rw [upd_ne (at_ne e hc exo_own), upd_ne (ne_of_none hc free)]; exact hc
      · rw [upd_ne (at_ne e hc exo_tup), upd_ne (ne_of_none hc free)]; exact hc
end
/-- self.f = e in an exception's __init__ -/
def tStore1 (K : PySem.W.Frag) (f : Str) (to te : TE) : TS := fun D σ H => te σ H fun y H1 => to σ H1 fun x H2 => ∃ (a C : Addr), x = .ref a ∧ (∃ (B newId initId : String) (tail : List Value), EC K C B newId initId tail) ∧ PySem.W.takerIn K C f = some none ∧
  H2 a = some (exo a C none) ∧ ∀ dx, H2 dx = none → dx ≠ a → D.nx σ (upd (upd H2 dx (exd dx [(f, y)])) a (exo a C (some dx)))
theorem ps_store1 {X : Cx} {o e : Expr} {to te : TE} {f : Str} {p pos : Pos} (ho : PE X o to) (he : PE X e te) (hs : swapsWith e (some (.Attribute o f p)) pos.line X.env = pure false := by rfl) : PS X (.Assign [.Attribute o f p] e pos) (tStore1 X.K f to te) := by
  refine ⟨fun pins s σ H D I h => plainObj_wpAny_Assign_Attribute (thn (he.run pins s σ H _ I h) fun v s1 ⟨y, H1, I1, r1, q1⟩ => thn (ho.run pins s1 σ H1 _ I1 q1) fun u s2 ⟨x, H2, I2, r2, told⟩ => ?_) hs⟩
  obtain ⟨a, C, ex, ⟨B, newId, initId, tail, T⟩, ht, ea, q⟩ := told
  subst ex
  have eu : u = Value.ref a := r2
  subst eu
  exact store1 T I2 ea ht r1 fun dx s' n ne J => ⟨σ, _, J, q dx n ne⟩
end Lamp
set_option Elab.async false
set_option linter.all false
set_option maxRecDepth 100000
set_option maxHeartbeats 4000000
namespace Lamp
open PySem PySem.Spec PyProof.Rows L2
/-- the promise of an __init__ that keeps its one argument under f -/
def spInit (K : PySem.W.Frag) (C : Addr) (f : Str) : Sp := fun vs H Q _ => ∃ (a : Addr) (y : V), vs = [.ref a, y] ∧ (∃ (B newId initId : String) (tail : List Value), EC K C B newId initId tail) ∧ PySem.W.takerIn K C f = some none ∧ H a = some (exo a C none) ∧
  ∀ dx, H dx = none → dx ≠ a → Q .non (upd (upd H dx (exd dx [(f, y)])) a (exo a C (some dx)))
section
variable {P : Program} {w : World} {K : PySem.W.Frag} {mg : Str → Option Value} {base : Heap}
theorem ok_init {fI C : Addr} {fd : FuncData} {st : Stmt} {qual f : Str} {p1 p2 p3 p4 : Pos} (F : Fun K "__init__" qual st fI fd) (S : FnScope ["self", f] ["self", f] (defScope st))
    (hb : defBody st = [.Assign [.Attribute (.Name "self" p1) f p2] (.Name f p3) p4]) (v0 : (defScope st).names.lookup ("self" : Str) = some NameKind.local) (v1 : (defScope st).names.lookup f = some NameKind.local)
    (d1 : (f == ("__debug__" : Str)) = false) (d2 : (f == ("__classdict__" : Str)) = false) : FnOk P w K mg base CX0 1 fI fd ["self", f] (spInit K C f) := by
  refine F.ok S (fun vs H Q E h => ?_) (fun cdv A outer s H vs Q E hr h => ?_)
  · obtain ⟨a, y, rfl, _⟩ := h
    rfl
  · obtain ⟨a, y, rfl, T, ht, ha, q⟩ := h
    rw [hb]
    refine ⟨_, pss_one (ps_store1 (pv 0 rfl (Or.inl v0)) (pv 1 rfl (Or.inl v1) d1 d2)), ?_⟩
    exact ⟨_, rfl, _, rfl, a, C, rfl, T, ht, ha, q⟩
end
/-- C(e), C(f=e): a new exception with the field f -/
def tMkE (C : Addr) (f : Str) (ta : TE) : TE := fun σ H Q => ta σ H fun y H1 => ∀ a dx, H1 a = none → H1 dx = none → dx ≠ a → Q (.ref a) (upd (upd (upd H1 a (exo a C none)) dx (exd dx [(f, y)])) a (exo a C (some dx)))
section
variable {X : Cx} {C fI : Addr} {fd : FuncData} {f x : Str} {B newId initId : String} {tail : List Value} {p pos kpos : Pos} {e : Expr} {ta : TE}
theorem run_mkE {pins : List (Addr × Obj)} {σ : L2.St} {H : Hp} {s : Shared} {Q : VK} {u : Value} {y : V} {us : List Value} {kw : List (Str × Value)} {k : Nat} (T : EC X.K C B newId initId tail) (iC : PySem.W.findIn X.K (.ref C) "__init__" = some (some (.ref fI))) (tI : PySem.W.typeIn X.K (.ref fI) = some (.type "function"))
    (ht : PySem.W.takerIn X.K C f = some none) (F1 : FnOk X.prog X.w X.K X.mg X.base CX0 k fI fd ["self", f] (spInit X.K C f)) (hr : Room (k + 1) X.A)
    (hb : ∀ (s : Shared) (v : Value), X.K.In s.heap → BindsTo s fd ⟨v :: us, kw⟩ [("self", v), (f, u)]) (I : Inv X pins σ H s) (r : RelV y u) (short : us.length ≤ sizeLine)
    (h : ∀ a dx, H a = none → H dx = none → dx ≠ a → Q (.ref a) (upd (upd (upd H a (exo a C none)) dx (exd dx [(f, y)])) a (exo a C (some dx)))) :
    wpAny (model X.prog X.w) X.A (call (.ref C) us kw) (EP X pins σ Q) X.xe s := by
  obtain ⟨nm, N, qn, bs, bm, hdct, sn, sub, ab, col, dd, k0, k1, k2, k3, k5, hC, hT⟩ := PySem.W.excInit_of I.kIn T.made
  obtain ⟨hp, g, dr, tk, os⟩ := s
  have above : hp.objs.size ≤ hp.objs.size + 1 := Nat.le_succ _
  have new : H (hp.objs.size + 1) = none := I.hok.fresh above
  have kept : ∀ b o, hp.get? b = some o → ((hp.push (PySem.W.kdv_tup us)).push (PySem.HandSPX.excO C hp.objs.size)).get? b = some o := fun b o e => Heap.get?_push_of_some _ (Heap.get?_push_of_some _ e)
  have there : ((hp.push (PySem.W.kdv_tup us)).push (PySem.HandSPX.excO C hp.objs.size)).get? (hp.objs.size + 1) = some (PySem.HandSPX.excO C hp.objs.size) := by heap_get
  have I2 : Inv X pins σ (upd H (hp.objs.size + 1) (exo (hp.objs.size + 1) C none)) ⟨(hp.push (PySem.W.kdv_tup us)).push (PySem.HandSPX.excO C hp.objs.size), g, dr, tk, os⟩ :=
    I.laid (t' := tk) (a := hp.objs.size + 1) (o := exo (hp.objs.size + 1) C none) (h' := (hp.push (PySem.W.kdv_tup us)).push (PySem.HandSPX.excO C hp.objs.size)) kept above (exo_ok there)
  have asked : spInit X.K C f [.ref (hp.objs.size + 1), y] (upd H (hp.objs.size + 1) (exo (hp.objs.size + 1) C none)) (fun v H2 => v = .non ∧ Q (.ref (hp.objs.size + 1)) H2) E0 :=
    ⟨_, y, rfl, ⟨B, newId, initId, tail, T⟩, ht, upd_same, fun dx hn ne => ⟨rfl, h _ dx new (by rw [upd_ne ne] at hn; exact hn) ne⟩⟩
  refine wpAny_call (PySem.LampX.excCalled T.F hT hC (PySem.W.looks_findIn I.kIn iC) (fun self => PySem.W.bind_fn I.kIn self tI) short
    (codeAny_mono (F1.run _ X.stack _ _ ⟨Value.ref (hp.objs.size + 1) :: us, kw⟩ [Value.ref (hp.objs.size + 1), u] _ _ E0 ?rm ?ev (hb _ _ I2.kIn) (.cons (show RelV (V.ref _) (Value.ref _) from rfl) (.cons r .nil)) asked) fun res s' told => ?_))
  case rm => exact hr.make C us kw
  case ev => exact I2.env0.make C us kw
  match res, told with
  | .error _, told => exact False.elim told
  | .ok .next, told => exact False.elim told
  | .ok .brk, told => exact False.elim told
  | .ok .cont, told => exact False.elim told
  | .ok (.ret v), told =>
    obtain ⟨z, H', I3, rv, ez, q3⟩ := I2.after told
    subst ez
    exact ⟨rv, ⟨V.ref (hp.objs.size + 1), H', I3, rfl, q3⟩⟩
theorem pe_mkE {k : Nat} (T : EC X.K C B newId initId tail) (iC : PySem.W.findIn X.K (.ref C) "__init__" = some (some (.ref fI))) (tI : PySem.W.typeIn X.K (.ref fI) = some (.type "function")) (ht : PySem.W.takerIn X.K C f = some none)
    (F1 : FnOk X.prog X.w X.K X.mg X.base CX0 k fI fd ["self", f] (spInit X.K C f)) (hr : Room (k + 1) X.A) (hb : ∀ (s : Shared) (v u : Value), X.K.In s.heap → BindsTo s fd ⟨[v, u], []⟩ [("self", v), (f, u)]) (hg : Gl X x) (hm : X.mg x = some (.ref C))
    (ha : PE X e ta) (hs : starEach [e] X.env = (false, eval e X.env) :: starEach [] X.env := by rfl) (hdb : (x == ("__debug__" : Str)) = false := by decide) : PE X (.Call (.Name x p) [e] [] pos) (tMkE C f ta) := by
  refine ⟨fun pins s σ H Q I h => wpAny_Call_Name_kw (ld_glob I hg hm (PySem.W.callWith_K (h₀ := X.base) I.ok.mod.kin T.kp ?_ hs (by rfl)) hdb)⟩
  rw [hs]
  show wpAny _ _ (spliced ((false, eval e X.env) :: backTo pos (starEach [] X.env))) _ _ s
  refine Calls.spliced_cons (thn (ha.run pins s σ H _ I h) fun u s1 ⟨y, H1, I1, r1, q1⟩ => Calls.spliced_nil ⟨I1.kIn, ?_⟩)
  exact run_mkE (us := [u]) (kw := []) T iC tI ht F1 hr (fun s v hk => hb s v u hk) I1 r1 (by show 1 ≤ sizeLine; decide) q1
/-- the same with keywords: their values, one -/
def tMkK (C : Addr) (f : Str) (tk : TA) : TE := fun σ H Q => tk σ H fun zs H1 => ∃ y, zs = [y] ∧ ∀ a dx, H1 a = none → H1 dx = none → dx ≠ a → Q (.ref a) (upd (upd (upd H1 a (exo a C none)) dx (exd dx [(f, y)])) a (exo a C (some dx)))
theorem pe_mkK {k : Nat} {kws : List Keyword} {tk : TA} (T : EC X.K C B newId initId tail) (iC : PySem.W.findIn X.K (.ref C) "__init__" = some (some (.ref fI))) (tI : PySem.W.typeIn X.K (.ref fI) = some (.type "function")) (ht : PySem.W.takerIn X.K C f = some none)
    (F1 : FnOk X.prog X.w X.K X.mg X.base CX0 k fI fd ["self", f] (spInit X.K C f)) (hr : Room (k + 1) X.A) (hb : ∀ (s : Shared) (v u : Value), X.K.In s.heap → BindsTo s fd ⟨[v], [(f, u)]⟩ [("self", v), (f, u)]) (hg : Gl X x) (hm : X.mg x = some (.ref C))
    (hkw : PK X kws tk) (hall : (backToKw pos (keywordEach kws X.env)).all (·.1.isSome) = true := by rfl) (hks : (backToKw pos (keywordEach kws X.env)).filterMap (·.1) = [f] := by rfl) (hdb : (x == ("__debug__" : Str)) = false := by decide)
    (hpl : ((backTo pos (starEach [] X.env)).any (·.1) || (backToKw pos (keywordEach kws X.env)).any (·.1.isNone)) = false := by rfl) : PE X (.Call (.Name x p) [] kws pos) (tMkK C f tk) := by
  refine ⟨fun pins s σ H Q I h => ?_⟩
  refine wpAny_Call_Name_kw (ld_glob I hg hm ?_ hdb)
  refine PySem.W.callWith_KW0 (h₀ := X.base) I.ok.mod.kin T.kp hall (thn (hkw.run pos pins s σ H _ I h) fun ws s2 told => ?_) hpl
  obtain ⟨zs, H2, I2, rz, y, ez, q2⟩ := told
  subst ez
  rw [hks]
  cases rz with
  | @cons _ u _ us r rest =>
    cases rest
    exact ⟨I2.kIn, run_mkE (us := []) (kw := [(f, u)]) T iC tI ht F1 hr (fun s v hk => hb s v u hk) I2 r (Nat.zero_le _) q2⟩
end
/-- C() where the program gives no __init__: a new exception -/
theorem pe_mk0 {X : Cx} {C : Addr} {x : Str} {B newId initId : String} {tail : List Value} {p pos : Pos} (F : ExcBaseFacts B newId initId tail) (q : PySem.W.excIn X.K C tail newId = true) (gC : X.mg x = some (.ref C)) (kC : PySem.W.keepIn X.K (.ref C) = true) (hg : Gl X x)
    (hdb : (x == ("__debug__" : Str)) = false := by decide) : PE X (.Call (.Name x p) [] [] pos) (fun _ H Q => ∀ a, H a = none → Q (.ref a) (upd H a (exo a C none))) := by
  refine ⟨fun pins s σ H Q I h => wpAny_Call_Name_kw (ld_glob I hg gC (PySem.W.callWith_K0 I.kIn kC ?_) hdb)⟩
  show wpAny _ _ (call (.ref C) []) _ _ _
  obtain ⟨bm, N, nm, qn, bs, hdct, sn, sub, ab, col, dd, k0, k1, k2, k3, k5, mN, hC, hN, hni, T⟩ := exc_obj I.kIn q
  obtain ⟨hp, g, dr, tk, os⟩ := s
  refine wpAny_call_exc_subT F T hC hN hni (fun h' a hm => ?_) (by show 0 ≤ sizeLine; exact Nat.zero_le _)
  have new : H a = none := I.hok.gone hm.new
  obtain ⟨t, there, _, _⟩ := hm.there
  exact ⟨.ref a, upd H a (exo a C none), I.laidN (t' := tk) hm.keeps hm.new new (exo_ok there), rfl, h a new⟩
end Lamp
set_option Elab.async false
set_option linter.all false
set_option maxRecDepth 100000
set_option maxHeartbeats 1000000
namespace Lamp
open PySem PySem.Spec PyProof.Rows L2
/-- an exception of the class at C stands at a -/
def XAt (H : Hp) (a C : Addr) : Prop := H a = some (exo a C none) ∨ ∃ dx fs, H a = some (exo a C (some dx)) ∧ H dx = some (exd dx fs)
/-- .. with its fields -/
def XFld (H : Hp) (a C : Addr) (f : Str) (y : V) : Prop := ∃ dx, H a = some (exo a C (some dx)) ∧ H dx = some (exd dx [(f, y)])
theorem XFld.at {H : Hp} {a C : Addr} {f : Str} {y : V} (h : XFld H a C f y) : XAt H a C := by
  obtain ⟨dx, h1, h2⟩ := h
  exact .inr ⟨dx, _, h1, h2⟩
theorem XFld.same {H H' : Hp} {a C : Addr} {f : Str} {y : V} (h : XFld H a C f y) (s : Same H H') : XFld H' a C f y := by
  obtain ⟨dx, h1, h2⟩ := h
  exact ⟨dx, s _ _ h1, s _ _ h2⟩
theorem XAt.same {H H' : Hp} {a C : Addr} (h : XAt H a C) (s : Same H H') : XAt H' a C := by
  rcases h with h | ⟨dx, fs, h1, h2⟩
  · exact .inl (s _ _ h)
  · exact .inr ⟨dx, fs, s _ _ h1, s _ _ h2⟩
theorem xat_inst {X : Cx} {pins : List (Addr × Obj)} {σ : L2.St} {H : Hp} {s : Shared} {a C : Addr} (I : Inv X pins σ H s) (h : XAt H a C) : ∃ ox od, PySem.W.InstAt s.heap a ox C od := by
  rcases h with h | ⟨dx, fs, h1, h2⟩
  · obtain ⟨t, there⟩ := exo_at I.hok h
    exact ⟨_, none, there, rfl, rfl, trivial⟩
  · obtain ⟨t, there⟩ := exo_at I.hok h1
    obtain ⟨mA, ⟨o, _, _, ho, _⟩, _⟩ := exd_at I.hok h2
    exact ⟨_, some o, there, rfl, rfl, ho⟩
/-- what is asked of object's own __class__ -/
structure ClsG (K : PySem.W.Frag) : Prop where
  get : PySem.W.specialIn K (.builtin "object.__class__") "__get__" = some (some (.builtin "getset_descriptor.__get__"))
  tak : PySem.W.takesIn K (.builtin "object.__class__") = some true
/-- isinstance(e, c), e an exception of the program -/
def rIsX (K : PySem.W.Frag) : List V → Hp → VK → Prop := fun xs H Q => ∃ (a C : Addr) (c : V) (u : Value) (b : Bool), xs = [.ref a, c] ∧ XAt H a C ∧ (∃ (B newId initId : String) (tail : List Value), EC K C B newId initId tail) ∧ ClsV c u ∧ PySem.W.kitOne K (.ref C) u = some b ∧ Q (.bl b) H
theorem call_isX {X : Cx} (G : ClsG X.K) : CallR X (.builtin "isinstance") (rIsX X.K) := by
  intro pins s σ H xs us Q I r h
  obtain ⟨a, C, c, cv, b, rfl, hx, ⟨B, newId, initId, tail, T⟩, hc, hk, q⟩ := h
  obtain ⟨u1, u2, rfl, r1, r2⟩ := vals2 r
  have e1 : u1 = Value.ref a := r1
  subst e1
  have e2 := hc.eq r2
  subst e2
  obtain ⟨ox, od, J⟩ := xat_inst I hx
  have isCls : (PySem.W.clsIn X.K C).isSome = true := by
    obtain ⟨cd, hcd, _⟩ := PySem.W.any_some T.hd
    rw [hcd]
    rfl
  exact PySem.W.kia_one (PySem.W.kitx_exc isCls T.ga T.gg T.exC T.cls G.get G.tak T.obj) I.kIn J hk (fun z => nomatch z) fun tk => ⟨.bl b, H, I.tok tk, rfl, q⟩
/-- e.f -/
def tXFld (K : PySem.W.Frag) (f : Str) (te : TE) : TE := fun σ H Q => te σ H fun x H1 => ∃ (a C : Addr) (y : V), x = .ref a ∧ XFld H1 a C f y ∧ (∃ (B newId initId : String) (tail : List Value), EC K C B newId initId tail) ∧ PySem.W.findIn K (.ref C) f = some none ∧ Q y H1
theorem pe_xfld {X : Cx} {e : Expr} {te : TE} {pos : Pos} {f : Str} (he : PE X e te) (hb : attributeBase e f X.env (eval e X.env) = eval e X.env := by rfl) : PE X (.Attribute e f pos) (tXFld X.K f te) := by
  refine ⟨fun pins s σ H Q I h => attr_of hb (thn (he.run pins s σ H _ I h) fun u s1 ⟨x, H1, I1, r1, told⟩ => ?_)⟩
  obtain ⟨a, C, y, ex, ⟨dx, h1, h2⟩, ⟨B, newId, initId, tail, T⟩, hno, q⟩ := told
  subst ex
  have eu : u = Value.ref a := r1
  subst eu
  obtain ⟨t, there⟩ := exo_at I1.hok h1
  obtain ⟨mA, named, rel⟩ := exd_at I1.hok h2
  obtain ⟨od, hod, look⟩ := lookIn_ns named
  have rf := rel f
  rw [lookup_put, if_pos rfl] at rf
  obtain ⟨v, hv, rv⟩ := RelO.some_of (v := y) (o := mA f) rf
  have J : PySem.W.InstAt s1.heap a _ C (some od) := ⟨there, rfl, rfl, hod⟩
  exact HandSPX.exc_get I1.kIn J T.ga T.gg T.exC (PySem.W.findObj_own T.hd hno rfl (by rw [look, hv])) (handed_of rv) ⟨y, H1, I1.tok _, rv, q⟩
end Lamp
set_option Elab.async false
set_option linter.all false
set_option maxRecDepth 100000
set_option maxHeartbeats 1000000
namespace Lamp
open PySem PySem.Spec PyProof.Rows L2
theorem same_of {q : Addr} {H : Hp} {o : HO} (h : H q = none) : Same H (upd H q o) := fun b u e => by rw [upd_ne (ne_of_none e h)]; exact e
theorem same_seqT {K : PySem.W.Frag} {H H' : Hp} {a : Addr} {xs : List V} (e : Same H H') (h : SqT K H a xs) : SqT K H' a xs := by
  rcases h with (h | ⟨o, h⟩) | h
  · exact .inl (.inl (e _ _ h))
  · exact .inl (.inr ⟨o, e _ _ h⟩)
  · exact .inr h
mutual
theorem dp_same {K : PySem.W.Frag} {H H' : Hp} (e : Same H H') : ∀ (d : PyData) (v : V), Dp K H v d → Dp K H' v d
  | .none, _, h => by cases h; exact .non
  | .bool _, _, h => by cases h; exact .bl _
  | .int _, _, h => by cases h; exact .int _
  | .str _, _, h => by cases h; exact .str _
  | .list ds, _, h => by
    cases h with
    | lst hs ha => exact .lst (e.seq hs) (dpAll_same e ds _ ha)
  | .tuple ds, _, h => by
    cases h with
    | tup hs ha => exact .tup (same_seqT e hs) (dpAll_same e ds _ ha)
  | .dict _, _, h => by cases h
theorem dpAll_same {K : PySem.W.Frag} {H H' : Hp} (e : Same H H') : ∀ (ds : List PyData) (vs : List V), DpAll K H vs ds → DpAll K H' vs ds
  | [], _, h => by cases h; exact .nil
  | d :: ds, _, h => by
    cases h with
    | cons h1 h2 => exact .cons (dp_same e d _ h1) (dpAll_same e ds _ h2)
end
theorem dq_same {K : PySem.W.Frag} {H H' : Hp} (e : Same H H') {d : PyData} {v : V} (h : Dq K H v d) : Dq K H' v d := by
  cases h with
  | plain h => exact .plain (dp_same e d v h)
  | dict h1 h2 => exact .dict (e _ _ h1) h2
theorem dpAll_len {K : PySem.W.Frag} {H : Hp} : ∀ {ds : List PyData} {vs : List V}, DpAll K H vs ds → vs.length = ds.length
  | [], _, h => by cases h; rfl
  | d :: ds, _, h => by
    cases h with
    | cons h1 h2 => rw [List.length_cons, List.length_cons, dpAll_len h2]
/-! the drawing list, and all else -/
/-- at p: the drawing list of a case -/
def Pail (H : Hp) (p : Addr) : Prop := ∃ x y z : Int, H p = some (.lst [.int x, .int y, .int z]) ∧ 0 ≤ x ∧ 0 ≤ y ∧ y < 2147483648
/-- all but p stands as it stood -/
def But (p : Addr) (H H' : Hp) : Prop := ∀ b o, b ≠ p → H b = some o → H' b = some o
theorem But.refl (p : Addr) (H : Hp) : But p H H := fun _ _ _ h => h
theorem But.trans {p : Addr} {H H1 H2 : Hp} (a : But p H H1) (b : But p H1 H2) : But p H H2 := fun c o n h => b c o n (a c o n h)
theorem But.of {p : Addr} {H H1 : Hp} (a : Same H H1) : But p H H1 := fun b o _ h => a b o h
theorem But.at {p : Addr} {H : Hp} {o : HO} : But p H (upd H p o) := fun b u n h => by rw [upd_ne n]; exact h
theorem But.new {p q : Addr} {H : Hp} {o : HO} (h : H q = none) : But p H (upd H q o) := fun b u _ e => by
  rw [upd_ne (ne_of_none e h)]
  exact e
theorem Pail.same {H H' : Hp} {p : Addr} (h : Pail H p) (s : Same H H') : Pail H' p := by
  obtain ⟨x, y, z, e, r⟩ := h
  exact ⟨x, y, z, s _ _ e, r⟩
theorem Pail.ne {H : Hp} {p q : Addr} (h : Pail H p) (e : H q = none) : q ≠ p := by
  obtain ⟨x, y, z, hp, _⟩ := h
  intro z
  rw [z, hp] at e
  cases e
theorem But.del {p : Addr} {H H' : Hp} (b : But p H H') : Same (delH H p) (delH H' p) := fun a o h => by
  by_cases e : a = p
  · rw [e, delH_same] at h; cases h
  · rw [delH_ne e] at h ⊢
    exact b a o e h
theorem del_sub {p : Addr} {H : Hp} : Same (delH H p) H := fun a o h => by
  by_cases e : a = p
  · rw [e, delH_same] at h; cases h
  · rw [delH_ne e] at h
    exact h
/-! data made, beside the drawing list at p -/
section
variable (K : PySem.W.Frag) (p : Addr)
def EvP (te : TE) (d : PyData) : Prop := ∀ (σ : L2.St) (H : Hp), Pail H p → ∀ Q : VK, (∀ v H', Same H H' → Dp K (delH H' p) v d → Q v H') → te σ H Q
def EvPs (ta : TA) (ds : List PyData) : Prop := ∀ (σ : L2.St) (H : Hp), Pail H p → ∀ Q : List V → Hp → Prop, (∀ vs H', Same H H' → DpAll K (delH H' p) vs ds → Q vs H') → ta σ H Q
def EvQ (te : TE) (d : PyData) : Prop := ∀ (σ : L2.St) (H : Hp), Pail H p → ∀ Q : VK, (∀ v H', Same H H' → Dq K (delH H' p) v d → Q v H') → te σ H Q
def EvQs (ta : TA) (ds : List PyData) : Prop := ∀ (σ : L2.St) (H : Hp), Pail H p → ∀ Q : List V → Hp → Prop, (∀ vs H', Same H H' → Paired (Dq K (delH H' p)) vs ds → Q vs H') → ta σ H Q
end
section
variable {K : PySem.W.Frag} {p : Addr} {te : TE} {ta : TA} {d : PyData} {ds : List PyData}
theorem evp_non : EvP K p (tC .non) .none := fun σ H _ Q q => q _ H (Same.refl H) .non
theorem evp_bl {b : Bool} : EvP K p (tC (.bl b)) (.bool b) := fun σ H _ Q q => q _ H (Same.refl H) (.bl b)
theorem evp_int {i : Int} : EvP K p (tC (.int i)) (.int i) := fun σ H _ Q q => q _ H (Same.refl H) (.int i)
theorem evp_str {x : Str} : EvP K p (tC (.str x)) (.str x) := fun σ H _ Q q => q _ H (Same.refl H) (.str x)
theorem evp_neg {i : Int} (h : EvP K p te (.int i)) : EvP K p (tUn (rU fun i => .int (-i)) te) (.int (-i)) := fun σ H hp Q q => h σ H hp _ fun v H' s hd => by
  cases hd
  exact ⟨i, rfl, q _ H' s (.int _)⟩
theorem evp_pow {i j : Int} (hc : CPow i j) : EvP K p (tOp (rI CPow fun i j => .int (i ^ j.toNat)) (tC (.int i)) (tC (.int j))) (.int (i ^ j.toNat)) := fun σ H hp Q q => ⟨i, j, rfl, rfl, hc, q _ H (Same.refl H) (.int _)⟩
theorem evps_nil : EvPs K p tNil [] := fun σ H _ Q q => q _ H (Same.refl H) .nil
theorem evps_cons (h1 : EvP K p te d) (h2 : EvPs K p ta ds) : EvPs K p (tCons te ta) (d :: ds) := fun σ H hp Q q => h1 σ H hp _ fun v H1 s1 d1 => h2 σ H1 (hp.same s1) _ fun vs H2 s2 d2 =>
  q _ H2 (s1.trans s2) (.cons (dp_same (But.of s2).del d v d1) d2)
theorem evp_tup (h : EvPs K p ta ds) (hl : ds.length ≤ 100) : EvP K p (tTup ta) (.tuple ds) := fun σ H hp Q q => h σ H hp _ fun vs H1 s1 d1 => by
  have hlen := dpAll_len d1
  refine ⟨Nat.le_of_lt (small1000 (by omega)), fun r hr => ?_⟩
  have ne := (hp.same s1).ne hr
  have s2 : Same H1 (upd H1 r (.tup vs)) := same_of hr
  exact q _ _ (s1.trans s2) (.tup (.inl (.inl (by rw [delH_ne ne, upd_same]))) (dpAll_same (But.of s2).del ds vs d1))
theorem evp_lst (h : EvPs K p ta ds) (hl : ds.length ≤ 100) : EvP K p (tLst ta) (.list ds) := fun σ H hp Q q => h σ H hp _ fun vs H1 s1 d1 => by
  have hlen := dpAll_len d1
  refine ⟨Nat.le_of_lt (small1000 (by omega)), fun r hr => ?_⟩
  have ne := (hp.same s1).ne hr
  have s2 : Same H1 (upd H1 r (.lst vs)) := same_of hr
  exact q _ _ (s1.trans s2) (.lst (.inl (.inl (by rw [delH_ne ne, upd_same]))) (dpAll_same (But.of s2).del ds vs d1))
theorem evq_of (h : EvP K p te d) : EvQ K p te d := fun σ H hp Q q => h σ H hp Q fun v H' s hd => q v H' s (.plain hd)
theorem evq_d0 : EvQ K p tDNewK (.dict []) := fun σ H hp Q q r hr => q _ _ (same_of hr) (.dict (kvs := []) (by rw [delH_ne (hp.ne hr), upd_same]) rfl)
theorem evq_d1 {k : Str} {i : Int} : EvQ K p (tDisp [(tC (.str k), tC (.int i))]) (.dict [(.str k, .int i)]) := fun σ H hp Q q r hr => by
  refine ⟨upd_same, [(Sum.inr k, V.int i)], rfl, (by show 1 ≤ 15; decide), q _ _ (fun b o e => ?_) (.dict (kvs := [(Sum.inr k, V.int i)]) ?_ rfl)⟩
  · rw [upd_ne (ne_of_none e hr), upd_ne (ne_of_none e hr)]; exact e
  · rw [delH_ne (hp.ne hr), upd_same]
    rfl
theorem evqs_nil : EvQs K p tNil [] := fun σ H _ Q q => q _ H (Same.refl H) .nil
theorem paired_same {H H' : Hp} (e : Same H H') {vs : List V} {ds : List PyData} (h : Paired (Dq K H) vs ds) : Paired (Dq K H') vs ds := L2.Paired.mapP h fun _ _ x => dq_same e x
theorem evqs_cons (h1 : EvQ K p te d) (h2 : EvQs K p ta ds) : EvQs K p (tCons te ta) (d :: ds) := fun σ H hp Q q => h1 σ H hp _ fun v H1 s1 d1 => h2 σ H1 (hp.same s1) _ fun vs H2 s2 d2 =>
  q _ H2 (s1.trans s2) (.cons (dq_same (But.of s2).del d1) d2)
theorem paired_app {α β : Type} {R : α → β → Prop} : ∀ {xs ys : List α} {us ws : List β}, Paired R xs us → Paired R ys ws → Paired R (xs ++ ys) (us ++ ws)
  | _, _, _, _, .nil, s => s
  | _, _, _, _, .cons r t, s => .cons r (paired_app t s)
theorem paired_mem {α β : Type} {R : α → β → Prop} : ∀ {xs : List α} {us : List β} {x : α}, Paired R xs us → x ∈ xs → ∃ u, u ∈ us ∧ R x u
  | _, _, _, .nil, h => by cases h
  | _, _, _, .cons r t, h => by
    rcases List.mem_cons.mp h with e | e
    · subst e; exact ⟨_, List.mem_cons_self .., r⟩
    · obtain ⟨u, h1, h2⟩ := paired_mem t e
      exact ⟨u, List.mem_cons_of_mem _ h1, h2⟩
end
/-- what repr shows of it fits -/
def okD (d : PyData) : Bool := d.showable && decide (d.depth ≤ 60) && decide (d.shown.length ≤ sizeLine)
theorem okD_of {d : PyData} (h : okD d = true) : d.showable = true ∧ d.depth ≤ 60 ∧ d.shown.length ≤ sizeLine := by
  unfold okD at h
  simp only [Bool.and_eq_true, decide_eq_true_eq] at h
  exact ⟨h.1.1, h.1.2, h.2⟩
end Lamp
set_option Elab.async false
set_option linter.all false
set_option maxRecDepth 100000
set_option maxHeartbeats 1000000
namespace Lamp
open PySem PySem.Spec PyProof.Rows L2
/-! division by any number but 0; tuples laid by tuple(..) that have no dict of their own; dict(..) of a tuple of pairs; defs called by keywords alone, in the opposite order -/
theorem rd_same {H H' : Hp} {a : Addr} {u : HO} (h : Rd H a u) (e : Same H H') : Rd H' a u := by
  rcases h with h | ⟨o, h⟩
  · exact .inl (e _ _ h)
  · exact .inr ⟨o, e _ _ h⟩
def CDivG (_ j : Int) : Prop := j ≠ 0 ∧ j.natAbs.log2 < 9000
def Bare (H : Hp) (t : Addr) (xs : List V) : Prop := ∃ o : Obj, H t = some (.frz o (.tup xs)) ∧ o.dict = none
theorem Bare.rd {H : Hp} {t : Addr} {xs : List V} (h : Bare H t xs) : Rd H t (.tup xs) := by
  obtain ⟨o, e, _⟩ := h
  exact .inr ⟨o, e⟩
theorem Bare.same {H H' : Hp} {t : Addr} {xs : List V} (h : Bare H t xs) (e : Same H H') : Bare H' t xs := by
  obtain ⟨o, h, d⟩ := h
  exact ⟨o, e _ _ h, d⟩
def rTupB (K : PySem.W.Frag) : List V → Hp → VK → Prop := fun xs H Q => ∃ p ys, xs = [.ref p] ∧ SqL K H p ys ∧ ∀ (l : Addr) (o : Obj), H l = none → o.dict = none → Q (.ref l) (upd H l (.frz o (.tup ys)))
/-- dict(..) of a bare tuple of pairs -/
def rDictT (K : PySem.W.Frag) : List V → Hp → VK → Prop := fun xs H Q => ∃ (a : Addr) (ps : List Addr) (kvs : List (Key × V)), xs = [.ref a] ∧ Bare H a (ps.map V.ref) ∧ Paired (fun p kv => SqT K H p [kV kv.1, kv.2]) ps kvs ∧
  ∀ p, H p = none → Q (.ref p) (upd H p (.dK (mergeK [] kvs)))
section
variable {X : Cx}
theorem op_fdivG : OpR X (binaryOp .FloorDiv) (rI CDivG fun i j => .int (i.fdiv j)) := opI fun i j _ _ _ _ _ hc q => floordiv_int hc.1 q (.inl (PyProof.noPylong_of_log2 hc.2))
theorem call_tupB : CallR X (.type "tuple") (rTupB X.K) := by
  intro pins s σ H xs us Q I r h
  obtain ⟨p, ys, rfl, hq, q⟩ := h
  obtain ⟨u, rfl, rx⟩ := vals1 r
  cases rx
  obtain ⟨its, r', pl, hz⟩ := I.list hq
  have hlen := r'.length
  refine call_tuple_list pl.isList (fun h' kp => ?_) (by simp only [List.size_toArray] <;> omega)
  have I1 : Inv X pins σ H { s with heap := h' } := I.kept (t' := s.toks) kp
  obtain ⟨o, eo⟩ : ∃ o : Obj, o = { cls := .type "tuple", data := .seq its.toArray } := ⟨_, rfl⟩
  have I2 : Inv X pins σ (upd H h'.objs.size (.frz o (.tup ys))) { s with heap := h'.push { cls := .type "tuple", data := .seq its.toArray } } :=
    I1.laid (t' := s.toks) (fun b o e => Heap.get?_push_of_some _ e) (Nat.le_refl _) (show ObjOk X.prog X.w _ _ _ (.frz o (.tup ys)) from ⟨by rw [eo]; exact Heap.get?_push_size _ rfl, hz, its, r', IsTup.new _ _⟩)
  exact ⟨.ref h'.objs.size, _, I2, rfl, q _ o (I1.hok.fresh (Nat.le_refl _)) (by rw [eo])⟩
theorem call_dictT (hcalm : X.calm = true) : CallR X (.type "dict") (rDictT X.K) := by
  intro pins s σ H xs us Q I r h
  obtain ⟨a, ps, kvs, rfl, ⟨o, ho, hd⟩, hp, q⟩ := h
  obtain ⟨u, rfl, rx⟩ := vals1 r
  cases rx
  obtain ⟨hget, hz, its, rv, o2, ho2, hc2, n2, hdat2⟩ := (show ObjOk X.prog X.w H s.heap a (.frz o (.tup (ps.map V.ref))) from I.hok a _ ho)
  rw [hget] at ho2
  cases ho2
  have ei := refs_at rv
  subst ei
  rw [List.length_map] at hz
  obtain ⟨prs, rel, hl, hpr⟩ := pairs_of I hp
  obtain ⟨vs, hvs⟩ : ∃ vs : List (Value × Value), vs.length = prs.length ∧ ∀ (j : Nat) (k v : Value), vs[j]? = some (k, v) → ∃ q : Key × Value, prs[j]? = some q ∧ q.2 = v ∧ keyIs q.1 k = true ∧ ∃ b, ps[j]? = some b ∧ IsTup s.heap b #[k, v] := by
    have all : ∀ j : Nat, ∃ kv : Value × Value, j < prs.length → ∃ q : Key × Value, prs[j]? = some q ∧ q.2 = kv.2 ∧ keyIs q.1 kv.1 = true ∧ ∃ b, ps[j]? = some b ∧ IsTup s.heap b #[kv.1, kv.2] := fun j => by
      by_cases hj : j < prs.length
      · obtain ⟨b, u, e1, e2, e3⟩ := hpr j prs[j] (List.getElem?_eq_getElem hj)
        exact ⟨(u, prs[j].2), fun _ => ⟨prs[j], List.getElem?_eq_getElem hj, rfl, e3, b, e1, e2⟩⟩
      · exact ⟨(.none, .none), fun z => absurd z hj⟩
    refine ⟨(List.range prs.length).map fun j => (all j).choose, by rw [List.length_map, List.length_range], fun j k v e => ?_⟩
    rw [List.getElem?_map] at e
    by_cases hj : j < prs.length
    · rw [List.getElem?_range hj] at e
      have e' : (all j).choose = (k, v) := Option.some.inj e
      have z := (all j).choose_spec hj
      rw [e'] at z
      exact z
    · rw [List.getElem?_eq_none (by rw [List.length_range]; omega)] at e
      cases e
  obtain ⟨hvl, hva⟩ := hvs
  refine PySem.call_dict_pairs (knd := mixKind X.prog X.w) (kvs := prs) (PairArg.tuple a (ps.map Value.ref).toArray (fun j => ps.getD j 0) vs) (I.ok.hd hcalm) ⟨⟨o, n2, hget, hc2, hd, hdat2⟩, by simp [hvl, hl], fun j k v e => ?_⟩ ⟨hvl.symm, fun j k v e => ?_⟩ (by rw [hvl, hl]; exact hz) fun h' tk hd' k => ?_
  · obtain ⟨q, e1, e2, e3, b, eb, et⟩ := hva j k v e
    have eg : ps.getD j 0 = b := by rw [List.getD_eq_getElem?_getD, eb]; rfl
    refine ⟨?_, .inl ?_⟩
    · show (ps.map Value.ref).toArray[j]? = some (Value.ref (ps.getD j 0))
      rw [eg, List.getElem?_toArray, List.getElem?_map, eb]
      rfl
    · show s.heap.IsTuple (ps.getD j 0) #[k, v]
      rw [eg]
      exact et
  · obtain ⟨q, e1, e2, e3, b, eb, et⟩ := hva j k v e
    exact ⟨q.1, by rw [e1, ← e2], e3⟩
  · have hm : (s.heap.objs.size == sysModules) = false := beq_eq_false_iff_ne.mpr (Nat.ne_of_gt I.big)
    have hlen : (mergeK [] kvs).length ≤ sizeLine := by
      refine Nat.le_trans (length_mergeK kvs []) ?_
      rw [List.length_nil, Nat.zero_add, rel.length, hl]
      exact hz
    exact ⟨.ref s.heap.objs.size, upd H s.heap.objs.size (.dK (mergeK [] kvs)), I.laid (t' := tk) (fun b o e => k b o (by simp) e) (Nat.le_refl _) (show ObjOk X.prog X.w _ _ _ (.dK (mergeK [] kvs)) from ⟨hlen, hm, merged [] prs, KV.merge rel .nil, hd'⟩), rfl, q _ (I.hok.fresh (Nat.le_refl _))⟩
end
theorem vals_rev : ∀ {vs : List V} {us : List Value}, Vals vs us → Vals vs.reverse us.reverse
  | _, _, .nil => .nil
  | _, _, .cons r t => by
    rw [List.reverse_cons, List.reverse_cons]
    exact (vals_rev t).append (.cons r .nil)
/-- what is known of a def that is called by keywords alone, in the opposite order -/
structure DrB (P : Program) (w : World) (K : PySem.W.Frag) (mg : Str → Option Value) (base : Heap) (sp : Sp) (x : Str) (ps : List Str) (k : Nat) : Prop where
  ex : ∃ (f : Addr) (fd : FuncData), FnOk P w K mg base CX0 k f fd ps sp ∧ (∀ (s : Shared) (us : List Value), us.length = ps.length → BindsTo s fd ⟨[], ps.reverse.zip us⟩ (ps.zip us.reverse)) ∧ mg x = some (.ref f) ∧ PySem.W.keepIn K (.ref f) = true
def tCallB (sp : Sp) (tk : TA) : TE := fun σ H Q => tk σ H fun zs H1 => sp zs.reverse H1 Q E0
section
variable {X : Cx} {sp : Sp} {x : Str} {ps : List Str} {k j : Nat} {tk : TA} {p pos : Pos} {kws : List Keyword}
theorem pe_drB (Z : DrB X.prog X.w X.K X.mg X.base sp x ps k) (hk : k ≤ j) (hr : Room j X.A) (hg : Gl X x) (hkw : PK X kws tk)
    (hall : (backToKw pos (keywordEach kws X.env)).all (·.1.isSome) = true := by rfl) (hks : (backToKw pos (keywordEach kws X.env)).filterMap (·.1) = ps.reverse := by rfl) (hdb : (x == ("__debug__" : Str)) = false := by decide)
    (hpl : ((backTo pos (starEach [] X.env)).any (·.1) || (backToKw pos (keywordEach kws X.env)).any (·.1.isNone)) = false := by rfl) : PE X (.Call (.Name x p) [] kws pos) (tCallB sp tk) := by
  obtain ⟨f, fd, F, b, m, kp⟩ := Z.ex
  refine ⟨fun pins s σ H Q I h => ?_⟩
  refine wpAny_Call_Name_kw (ld_glob I hg m ?_ hdb)
  refine PySem.W.callWith_KW0 (h₀ := X.base) I.ok.mod.kin kp hall ?_ hpl
  refine thn (hkw.run pos pins s σ H _ I h) fun ws s2 ⟨zs, H2, I2, rz, q⟩ => ⟨I2.kIn, ?_⟩
  rw [hks]
  have r2 := vals_rev rz
  have hl : ws.reverse.length = ps.length := by rw [← r2.length]; exact F.len _ _ _ _ q
  refine wpAny_call (codeAny_mono (F.run X.A X.stack s2 H2 ⟨[], ps.reverse.zip ws⟩ ws.reverse zs.reverse Q E0 (hr.mono hk) I2.env0 (b s2 ws (by rw [← hl, List.length_reverse])) r2 q) fun res s' told => ?_)
  match res, told with
  | .error _, told => exact False.elim told
  | .ok (.ret u), told => exact I2.after told
  | .ok .next, told => exact False.elim told
  | .ok .brk, told => exact False.elim told
  | .ok .cont, told => exact False.elim told
end
end Lamp
set_option Elab.async false
set_option linter.all false
set_option maxRecDepth 100000
namespace Lamp
open PySem PySem.Spec PyProof.Rows L2
def top (i : Nat) : Stmt := PySem.Challenge.pw_lamprounds_k55_whole_streets_led.main.body.getD i (.Pass ⟨0, 0, 0, 0⟩)
abbrev sBegun : Stmt := top 41
abbrev sCast : Stmt := top 42
abbrev sAny : Stmt := top 43
def spBegun (K : PySem.W.Frag) : Sp := fun vs H Q _ => ∃ (a : Addr) (ns : List Int) (t : Int), vs = [.ref a, .int t] ∧ SqL K H a (ns.map V.int) ∧ ns.length ≤ 63 ∧ (∀ z ∈ ns, Builtin.Int.intBits z ≤ 1048576) ∧ 0 ≤ t ∧ t ≤ 100 ∧
  ∀ H' p, Same H H' → H p = none → Pail H' p → Q (.ref p) H'
def spCast : Sp := fun vs H Q _ => ∃ (p : Addr) (m : Int), vs = [.ref p, .int m] ∧ 0 < m ∧ m < 1073741824 ∧ Pail H p ∧ ∀ (r : Int) H', 0 ≤ r → r < m → Pail H' p → But p H H' → Q (.int r) H'
theorem ints_at {ns : List Int} {i : Nat} {y : V} (h : (ns.map V.int)[i]? = some y) : ∃ z, ns[i]? = some z ∧ y = .int z := by
  rw [List.getElem?_map] at h
  cases e : ns[i]? with
  | none => rw [e] at h; cases h
  | some z => rw [e] at h; exact ⟨z, rfl, (Option.some.inj h).symm⟩
theorem cut_ints (ns : List Int) (lo hi : Option Int) : ∃ ms : List Int, cutV (ns.map V.int) lo hi = ms.map V.int := by
  unfold cutV
  exact ⟨_, by rw [← List.map_drop, ← List.map_take]⟩
/-! reading a term without allocation -/
section
variable {σ : L2.St} {H : Hp} {K : PySem.W.Frag} {ta tb : TE} {i j : Int} {x y z : V}
theorem lv_I0 {g : Int → Int → V} : ∀ Q : VK, Q (g i j) H → rI0 g (.int i) (.int j) H Q := fun _ q => ⟨i, j, rfl, rfl, q⟩
theorem lv_I {C : Int → Int → Prop} {g : Int → Int → V} (h : C i j) : ∀ Q : VK, Q (g i j) H → rI C g (.int i) (.int j) H Q := fun _ q => ⟨i, j, rfl, rfl, h, q⟩
theorem lv_ix {p : Addr} {xs : List V} (h : H p = some (.lst xs)) (e : atI xs i = some z) : ∀ Q : VK, Q z H → rIxL K (.ref p) (.int i) H Q := fun _ q => ⟨p, xs, i, z, rfl, rfl, SqL.of h, e, q⟩
theorem lv_int (h : Val ta σ H (.int i)) : Val (tCB (fun xs H Q => (∃ i, xs = [.int i] ∧ Q (.int i) H) ∨ ∃ k, xs = [.bl k] ∧ Q (.int (if k then 1 else 0)) H) (tCons ta tNil)) σ H (.int i) := fun Q q => h _ (Or.inl ⟨i, rfl, q⟩)
theorem lv_ixS {p : Addr} {xs : List V} (h : SqL K H p xs) (e : atI xs i = some z) : ∀ Q : VK, Q z H → rIxL K (.ref p) (.int i) H Q := fun _ q => ⟨p, xs, i, z, rfl, rfl, h, e, q⟩
theorem lv_if {t : TT} {b : Bool} (h : Ans t σ H b) (h1 : b = true → Val ta σ H x) (h2 : b = false → Val tb σ H x) : Val (tIf t ta tb) σ H x := by
  intro Q q
  refine h _ ?_
  cases b with
  | true => exact h1 rfl Q q
  | false => exact h2 rfl Q q
theorem lv_len {p : Addr} {ys : List V} (h : Val ta σ H (.ref p)) (hs : SqL K H p ys) : Val (tCB (fun xs H Q => ∃ p ys, xs = [.ref p] ∧ (SqL K H p ys ∨ SqT K H p ys) ∧ Q (.int ys.length) H) (tCons ta tNil)) σ H (.int ys.length) :=
  fun Q q => h _ ⟨p, ys, rfl, .inl hs, q⟩
theorem lv_abs (h : Val ta σ H (.int i)) : Val (tCB (fun xs H Q => ∃ i, xs = [.int i] ∧ Q (.int (if i < 0 then -i else i)) H) (tCons ta tNil)) σ H (.int (if i < 0 then -i else i)) := fun Q q => h _ ⟨i, rfl, q⟩
theorem lv_lst3 {tc : TE} {D : Ends} (h1 : Val ta σ H x) (h2 : Val tb σ H y) (h3 : Val tc σ H z) (q : ∀ p, H p = none → D.rt (.ref p) (upd H p (.lst [x, y, z]))) : tRet (tLst (tCons ta (tCons tb (tCons tc tNil)))) D σ H :=
  h1 _ (h2 _ (h3 _ ⟨by show 3 ≤ sizeLine; decide, q⟩))
theorem lv_op1 {r : R2} (ha : Val ta σ H x) (hb : Val tb σ H y) (hr : ∀ Q : VK, Q z H → r x y H Q) : Val (tOp r ta tb) σ H z := val_op ha hb hr
end
section
variable {σ : L2.St} {H : Hp} {D : Ends} {te ta tb : TE} {t1 t2 t3 : TS} {c : TT} {v : V} {i : Nat}
theorem sq_no (h : Ans c σ H false) (q : t2 D σ H) : tSeq (tIfS c t1 tNext) t2 D σ H := st_seq (st_no h q)
theorem sq_yes (h : Ans c σ H true) (q : t1 { D with nx := t2 D } σ H) : tSeq (tIfS c t1 t3) t2 D σ H := st_seq (st_yes h q)
theorem sq_set (h : Val te σ H v) (q : t2 D (σ.set i (some v)) H) : tSeq (tAsg te (gName i)) t2 D σ H := st_seq (st_set h q)
theorem sq_setL {p : Addr} {xs : List V} {k : Int} {j : Nat} (h : Val te σ H v) (ha : Val ta σ H (.ref p)) (hb : Val tb σ H (.int k)) (hp : H p = some (.lst xs)) (hj : ixN xs.length k = some j)
    (q : t2 D σ (upd H p (.lst (xs.set j v)))) : tSeq (tAsg te (gSub ta tb rSetL)) t2 D σ H := h _ (ha _ (hb _ ⟨p, xs, k, j, rfl, rfl, hp, hj, q⟩))
theorem sq_for {K : PySem.W.Frag} {g : TG} (P : Addr → Hp → Prop) (h : ∀ Q : VK, (∀ a H1, P a H1 → Q (.ref a) H1) → te σ H Q)
    (k : ∀ a H1, P a H1 → ∃ (xs : List V) (Pv : Nat → L2.St → Hp → Prop), SqL K H1 a xs ∧ Pv 0 σ H1 ∧ (∀ i σ H, i ≤ xs.length → Pv i σ H → SqL K H a xs) ∧ (∀ i x σ H, xs[i]? = some x → Pv i σ H → g x σ H fun σ2 H2 => t1 { D with nx := Pv (i + 1), ct := Pv (i + 1), bk := t2 D } σ2 H2) ∧ ∀ σ H, Pv xs.length σ H → t2 D σ H) :
    tSeq (tFor (iList K te) g t1) t2 D σ H := h _ fun a H1 p => by
  obtain ⟨xs, Pv, h1, h2, h3, h4, h5⟩ := k a H1 p
  exact ⟨a, rfl, ⟨xs, h1⟩, for_list (D := { D with nx := t2 D }) Pv h2 h3 h4 h5⟩
theorem an_gt {x y : Int} {b : Bool} (ha : Val ta σ H (.int x)) (hb : Val tb σ H (.int y)) (e : decide (y < x) = b) : Ans (tTest (tOp (rI0 fun i j => .bl (decide (j < i))) ta tb)) σ H b :=
  ans_cmp ha hb fun Q q => ⟨x, y, rfl, rfl, (show Q (.bl (decide (y < x))) H by rw [e]; exact q)⟩
theorem an_lt {x y : Int} {b : Bool} (ha : Val ta σ H (.int x)) (hb : Val tb σ H (.int y)) (e : decide (x < y) = b) : Ans (tTest (tOp (rI0 fun i j => .bl (decide (i < j))) ta tb)) σ H b :=
  ans_cmp ha hb fun Q q => ⟨x, y, rfl, rfl, (show Q (.bl (decide (x < y))) H by rw [e]; exact q)⟩
theorem an_ge {x y : Int} {b : Bool} (ha : Val ta σ H (.int x)) (hb : Val tb σ H (.int y)) (e : decide (y ≤ x) = b) : Ans (tTest (tOp (rI0 fun i j => .bl (decide (j ≤ i))) ta tb)) σ H b :=
  ans_cmp ha hb fun Q q => ⟨x, y, rfl, rfl, (show Q (.bl (decide (y ≤ x))) H by rw [e]; exact q)⟩
end
theorem mulR {i j : Int} (h : j < 2 ^ 64 ∧ -(2 ^ 64) < j) : CMul i j := .inr ⟨h.2, h.1⟩
theorem mulL {i j : Int} (h : i < 2 ^ 64 ∧ -(2 ^ 64) < i) : CMul i j := .inl ⟨h.2, h.1⟩
local macro_rules | `(tactic| walk_at "lv") => `(tactic| first
  | exact val_var rfl
  | exact val_c
  | (refine' lv_int ?ha; (case ha => walk_at "lv"))
  | (refine' lv_op1 ?ha ?hb ?hr; (case ha => walk_at "lv"); (case hb => walk_at "lv"); (case hr => first | exact fun _ q => ⟨_, _, rfl, rfl, q⟩ | (refine' lv_ix ?hh ?ee; (case hh => assumption); (case ee => rfl)) | exact fun _ q => ⟨_, _, rfl, rfl, mulR ⟨by decide, by decide⟩, q⟩ | exact fun _ q => ⟨_, _, rfl, rfl, mulL ⟨by decide, by decide⟩, q⟩ | exact fun _ q => ⟨_, _, rfl, rfl, (show CDiv _ _ from ⟨by omega, by omega⟩), q⟩ | exact fun _ q => ⟨_, _, rfl, rfl, mulL (by omega), q⟩ | exact fun _ q => ⟨_, _, rfl, rfl, mulR (by omega), q⟩ | exact fun _ q => ⟨_, _, rfl, rfl, (show (0 : Int) < _ by omega), q⟩)))
section
variable {P : Program} {w : World} {K : PySem.W.Frag} {mg : Str → Option Value} {base : Heap}
theorem pyl {x m : Int} (h0 : 0 < m) (h1 : m < 1073741824) : Builtin.divisionGoesByPylong x m = false := by
  have hl : m.natAbs.log2 < 30 := PySem.Flt.log2_lt_of (by decide) (by omega)
  have hm : ¬ ((if (m == 0) = true then 0 else m.natAbs.log2 / 30 + 1) > 300) := by
    split
    · decide
    · omega
  show (decide ((if (m == 0) = true then 0 else m.natAbs.log2 / 30 + 1) > 300) && _) = false
  rw [decide_eq_false hm, Bool.false_and]
theorem scBegun : FnScope ["_law_script", "_law_turn", "_law_own", "_law_state", "_law_cell"] ["_law_script", "_law_turn"] (defScope sBegun) := ⟨rfl, rfl, rfl, by decide +kernel, rfl, by decide +kernel, by decide +kernel⟩
theorem scCast : FnScope ["_law_pail", "_law_many", "_law_figure", "_law_state"] ["_law_pail", "_law_many"] (defScope sCast) := ⟨rfl, rfl, rfl, by decide +kernel, rfl, by decide +kernel, by decide +kernel⟩
theorem ok_cast {f : Addr} {fd : FuncData} {k : Nat} (F : Fun K "_law_cast" "_law_cast" sCast f fd) (mi : mg "int" = none) (md : mg "divmod" = none) : FnOk P w K mg base CX0 (k + 1) f fd ["_law_pail", "_law_many"] spCast := by
  refine F.ok scCast (fun vs H Q E h => ?_) (fun cdv A outer s H vs Q E hr h => ?_)
  · obtain ⟨p, m, rfl, _⟩ := h
    rfl
  · obtain ⟨p, m, rfl, h0, h1, ⟨x, y, z, hp, hx, hy, hy2⟩, q⟩ := h
    refine ⟨_, pss_cons (ps_if (pt_cmpR op_gt (pe_ix ix_list (pv 0) pe_int (fun _ _ => rfl)) pe_int (nomark _))
        (pss_cons (ps_asg (pe_callB call_divmodW (by rfl) md (by decide +kernel) (pa_cons (pe_ix ix_list (pv 0) pe_int (fun _ _ => rfl)) (pa_cons (pv 1) pa_nil)))
            (pg_tup rfl (pgs_cons (pg_sub (pv 0) pe_int set_list) (pgs_cons (pg_name (i := 2) scCast.nd rfl (.inl rfl)) pgs_nil))))
          (pss_one (ps_ret (pv 2)))) pss_nil)
      (pss_cons (ps_asg (pe_op op_add (pe_ix ix_list (pv 0) pe_int (fun _ _ => rfl)) pe_int) (pg_sub (pv 0) pe_int set_list))
      (pss_cons (ps_set (i := 3) scCast.nd rfl (.inl rfl) (pe_op op_mod (pe_callTy call_int1 (by rfl) mi (by decide +kernel) (pa_cons (pe_op op_add (pe_op op_add (pe_op op_mul (pe_ix ix_list (pv 0) pe_int (fun _ _ => rfl)) (pe_op op_add pe_int (pe_op op_mul pe_int (pe_ix ix_list (pv 0) pe_int (fun _ _ => rfl))))) (pe_op op_mul pe_int (pe_ix ix_list (pv 0) pe_int (fun _ _ => rfl)))) pe_int) pa_nil)) pe_int))
      (pss_cons (ps_asg (pe_op op_mod (pe_callTy call_int1 (by rfl) mi (by decide +kernel) (pa_cons (pe_op op_add (pe_op op_add (pe_op op_mul (pv 3) pe_int) (pe_op op_mul pe_int (pe_ix ix_list (pv 0) pe_int (fun _ _ => rfl)))) pe_int) pa_nil)) pe_int) (pg_sub (pv 0) pe_int set_list))
      (pss_one (ps_ret (pe_op op_mod (pe_callTy call_int1 (by rfl) mi (by decide +kernel) (pa_cons (pe_op op_fdiv (pe_ix ix_list (pv 0) pe_int (fun _ _ => rfl)) pe_int) pa_nil)) (pv 1))))))), ?_⟩
    by_cases hx0 : 0 < x
    · refine sq_yes (an_gt (x := x) (by walk_at "lv") val_c (decide_eq_true hx0)) ?_
      refine ⟨.ref p, rfl, p, _, 0, .int x, rfl, rfl, SqL.of hp, rfl, _, rfl, x, m, rfl, ⟨h0, pyl h0 h1⟩, fun t nt => ?_⟩
      have ntp : p ≠ t := ne_of_none hp nt
      refine ⟨t, _, rfl, SqT.of upd_same, rfl, _, _, rfl, ?_⟩
      refine ⟨.ref p, rfl, p, [.int x, .int y, .int z], 0, 0, rfl, rfl, (by rw [upd_ne ntp]; exact hp), rfl, ?_⟩
      refine ⟨_, _, rfl, rfl, ?_⟩
      refine ⟨_, rfl, ?_⟩
      refine q _ _ (Int.emod_nonneg _ (by omega)) (Int.emod_lt_of_pos _ h0) ⟨_, _, _, upd_same, Int.ediv_nonneg hx (by omega), hy, hy2⟩ ?_
      exact (But.new nt).trans But.at
    · refine sq_no (an_gt (x := x) (by walk_at "lv") val_c (decide_eq_false hx0)) ?_
      refine sq_setL (by walk_at "lv") (val_var rfl) val_c hp rfl ?_
      have hp1 : (upd H p (.lst [.int x, .int y, .int (z + 1)])) p = some (.lst [.int x, .int y, .int (z + 1)]) := upd_same
      refine sq_set (by walk_at "lv") ?_
      obtain ⟨Y, hY⟩ : ∃ Y : Int, ((y * (36809 + 2 * (z + 1)) + 5303 * (z + 1) + 7) % 2147483629 * 45413 + 3 * (z + 1) + 1) % 2147483587 = Y := ⟨_, rfl⟩
      refine sq_setL (v := .int Y) (j := 1) ?hv (val_var rfl) val_c hp1 rfl ?_
      case hv =>
        rw [← hY]
        walk_at "lv"
      have hY0 : 0 ≤ Y := by rw [← hY]; exact Int.emod_nonneg _ (by decide)
      have hY1 : Y < 2147483587 := by rw [← hY]; exact Int.emod_lt_of_pos _ (by decide)
      have hp2 : (upd (upd H p (.lst [.int x, .int y, .int (z + 1)])) p (.lst [.int x, .int Y, .int (z + 1)])) p = some (.lst [.int x, .int Y, .int (z + 1)]) := upd_same
      refine st_ret (v := .int (Y / 256 % m)) ?_ ?_
      · walk_at "lv"
      · exact q _ _ (Int.emod_nonneg _ (by omega)) (Int.emod_lt_of_pos _ h0) ⟨_, _, _, upd_same, hx, hY0, by omega⟩ (But.at.trans But.at)
theorem ok_begun {f : Addr} {fd : FuncData} {k : Nat} (F : Fun K "_law_begun" "_law_begun" sBegun f fd) (mi : mg "int" = none) (ml : mg "len" = none) (ma : mg "abs" = none) : FnOk P w K mg base CX0 (k + 1) f fd ["_law_script", "_law_turn"] (spBegun K) := by
  refine F.ok scBegun (fun vs H Q E h => ?_) (fun cdv A outer s H vs Q E hr h => ?_)
  · obtain ⟨a, ns, t, rfl, _⟩ := h
    rfl
  · obtain ⟨a, ns, t, rfl, hS, hlen, hbits, ht0, ht1, q⟩ := h
    refine ⟨_, pss_cons (ps_set (i := 2) scBegun.nd rfl (.inl rfl) (pe_ifExp (pt_cmpR op_lt (pv 1) (pe_callB call_len_seq (by rfl) ml PySem.boot_len (pa_cons (pv 0) pa_nil)) (nomark _)) (pe_ix ix_list (pv 0) (pv 1) (fun _ _ => rfl)) pe_int))
      (pss_cons (ps_set (i := 3) scBegun.nd rfl (.inl rfl) (pe_op op_add pe_int (pe_op op_mul pe_int (pv 1))))
      (pss_cons (ps_for PassesOwn.never rfl (pi_list (pe_slice sl_list (pv 0) po_none (po_some pe_int))) (pg_name (i := 4) scBegun.nd rfl (.inl rfl))
        (pss_one (ps_set (i := 3) scBegun.nd rfl (.inl rfl) (pe_op op_mod (pe_callTy call_int1 (by rfl) mi (by decide +kernel) (pa_cons (pe_op op_add (pe_op op_add (pe_op op_mul (pv 3) pe_int) (pe_op op_mul (pv 4) pe_int)) pe_int) pa_nil)) pe_int))))
      (pss_one (ps_ret (pe_lst (pa_cons (pe_ifExp (PW.pt (pw_or (pt_cmpR op_lt (pv 2) pe_int (nomark _)) (pw_or1 (pt_cmpR op_ge (pv 2) (pe_op op_pow pe_int pe_int) (nomark _))))) (pe_callB call_abs (by rfl) ma (by decide +kernel) (pa_cons (pv 2) pa_nil)) pe_int)
        (pa_cons (pe_op op_mod (pe_callTy call_int1 (by rfl) mi (by decide +kernel) (pa_cons (pe_op op_add (pe_op op_add (pe_op op_mul (pv 3) pe_int) (pe_op op_mulX (pv 2) (pv 2))) (pe_op op_mul pe_int (pv 1))) pa_nil)) pe_int)
          (pa_cons pe_int pa_nil)))))))), ?_⟩
    -- own
    have hown : ∃ own : Int, Builtin.Int.intBits own ≤ 1048576 ∧ ∀ hlt : Bool, decide (t < (ns.length : Int)) = hlt → (hlt = true → atI (ns.map V.int) t = some (.int own)) ∧ (hlt = false → own = 0) := by
      by_cases hl : t < (ns.length : Int)
      · have hj : t.toNat < ns.length := by omega
        refine ⟨ns[t.toNat], hbits _ (List.getElem_mem hj), fun b hb => ⟨fun _ => ?_, fun e => ?_⟩⟩
        · exact L2.at_of (j := t.toNat) (by omega) (by rw [List.getElem?_map, List.getElem?_eq_getElem hj]; rfl)
        · rw [decide_eq_true hl] at hb
          rw [e] at hb
          cases hb
      · refine ⟨0, by decide, fun b hb => ⟨fun e => ?_, fun _ => rfl⟩⟩
        rw [decide_eq_false hl] at hb
        rw [e] at hb
        cases hb
    obtain ⟨own, hob, how⟩ := hown
    obtain ⟨b, hb⟩ : ∃ b, decide (t < (ns.length : Int)) = b := ⟨_, rfl⟩
    have how := how b hb
    refine sq_set (v := .int own) (lv_if (b := b) (an_lt (val_var rfl) (lv_len (val_var rfl) hS) (by rw [List.length_map]; exact hb)) (fun e => val_op (val_var rfl) (val_var rfl) (lv_ixS hS (how.1 e))) (fun e => by rw [how.2 e]; exact val_c)) ?_
    refine sq_set (by walk_at "lv") ?_
    -- the loop
    refine sq_for (fun c H1 => H c = none ∧ H1 = upd H c (.lst (cutV (ns.map V.int) none (some 6)))) (fun Q q => ⟨.ref a, rfl, 6, rfl, a, ns.map V.int, rfl, hS, fun c nc => q c _ ⟨nc, rfl⟩⟩) ?_
    rintro c H1 ⟨nc, rfl⟩
    obtain ⟨ms, hms⟩ := cut_ints ns none (some 6)
    have sm : Same H (upd H c (.lst (cutV (ns.map V.int) none (some 6)))) := fun b o e => by rw [upd_ne (ne_of_none e nc)]; exact e
    rw [hms] at sm ⊢
    refine ⟨ms.map V.int, fun i σ H' => ∃ (st : Int) (v4 : Option V), σ = [some (.ref a), some (.int t), some (.int own), some (.int st), v4] ∧ 0 ≤ st ∧ st < 2147483648 ∧ H' = upd H c (.lst (ms.map V.int)), SqL.of upd_same,
      ⟨60013 + 7727 * t, none, rfl, by omega, by omega, rfl⟩, (fun i σ H' _ ⟨_, _, _, _, _, e⟩ => by rw [e]; exact SqL.of upd_same), ?_, ?_⟩
    · rintro i y σ H' hi ⟨st, v4, rfl, hs0, hs1, rfl⟩
      obtain ⟨z, hz, rfl⟩ := ints_at hi
      show tAsg _ _ _ _ _
      refine st_set (v := .int ((st * 30269 + z * 7 + 13) % 2147483629)) (by walk_at "lv") ?_
      exact ⟨_, _, rfl, Int.emod_nonneg _ (by decide), Int.lt_of_lt_of_le (Int.emod_lt_of_pos _ (by decide)) (by decide), rfl⟩
    · rintro σ H' ⟨st, v4, rfl, hs0, hs1, rfl⟩
      have hX : ∃ X : Int, 0 ≤ X ∧ ((own < 0 ∧ X = -own) ∨ (¬ own < 0 ∧ (10 : Int) ^ 18 ≤ own ∧ X = own) ∨ (¬ own < 0 ∧ ¬ (10 : Int) ^ 18 ≤ own ∧ X = 0)) := by
        by_cases h1 : own < 0
        · exact ⟨-own, by omega, .inl ⟨h1, rfl⟩⟩
        · by_cases h2 : (10 : Int) ^ 18 ≤ own
          · exact ⟨own, by omega, .inr (.inl ⟨h1, h2, rfl⟩)⟩
          · exact ⟨0, by omega, .inr (.inr ⟨h1, h2, rfl⟩)⟩
      obtain ⟨X, hX0, hX⟩ := hX
      refine lv_lst3 (x := .int X) (y := .int ((st * 53 + own * own + 17 * t) % 2147483629)) (z := .int 0) ?_ ?_ val_c ?_
      · rcases hX with ⟨h1, e⟩ | ⟨h1, h2, e⟩ | ⟨h1, h2, e⟩
        · refine lv_if (b := true) (ans_or1 (an_lt (val_var rfl) val_c (decide_eq_true h1))) (fun _ => ?_) (fun z => Bool.noConfusion z)
          have e2 : (if own < 0 then -own else own) = X := by rw [if_pos h1, e]
          rw [← e2]
          exact lv_abs (val_var rfl)
        · refine lv_if (b := true) (ans_or (an_lt (val_var rfl) val_c (decide_eq_false h1)) (an_ge (y := 10 ^ 18) (val_var rfl) ?_ (decide_eq_true h2))) (fun _ => ?_) (fun z => Bool.noConfusion z)
          · exact val_op val_c val_c fun _ q => ⟨_, _, rfl, rfl, ⟨by decide, by decide, by decide⟩, q⟩
          · have e2 : (if own < 0 then -own else own) = X := by rw [if_neg h1, e]
            rw [← e2]
            exact lv_abs (val_var rfl)
        · refine lv_if (b := false) (ans_or (an_lt (val_var rfl) val_c (decide_eq_false h1)) (an_ge (y := 10 ^ 18) (val_var rfl) ?_ (decide_eq_false h2))) (fun z => Bool.noConfusion z) (fun _ => ?_)
          · exact val_op val_c val_c fun _ q => ⟨_, _, rfl, rfl, ⟨by decide, by decide, by decide⟩, q⟩
          · rw [e]
            exact val_c
      · refine val_op (lv_int (val_op (val_op (by walk_at "lv") (val_op (val_var rfl) (val_var rfl) (fun _ q => ⟨_, _, rfl, rfl, (show (Builtin.Int.intBits own : Int) + (Builtin.Int.intBits own : Int) ≤ 134217728 by omega), q⟩)) (fun _ q => ⟨_, _, rfl, rfl, q⟩)) (by walk_at "lv") (fun _ q => ⟨_, _, rfl, rfl, q⟩))) val_c (fun _ q => ⟨_, _, rfl, rfl, (show (0 : Int) < _ by decide), q⟩)
      · intro p np
        refine q _ p (fun b o e => ?_) (sm.free np) ⟨_, _, _, upd_same, hX0, Int.emod_nonneg _ (by decide), Int.lt_of_lt_of_le (Int.emod_lt_of_pos _ (by decide)) (by decide)⟩
        rw [upd_ne (ne_of_none (sm b o e) np)]
        exact sm b o e
end
def spAny : Sp := fun vs H Q _ => ∃ (p l : Addr) (xs : List V), vs = [.ref p, .ref l] ∧ l ≠ p ∧ H l = some (.lst xs) ∧ 0 < xs.length ∧ xs.length < 1000000 ∧ Pail H p ∧ ∀ (v : V) H', v ∈ xs → Pail H' p → But p H H' → Q v H'
section
variable {P : Program} {w : World} {K : PySem.W.Frag} {mg : Str → Option Value} {base : Heap}
theorem scAny : FnScope ["_law_pail", "_law_some"] ["_law_pail", "_law_some"] (defScope sAny) := ⟨rfl, rfl, rfl, by decide +kernel, rfl, by decide +kernel, by decide +kernel⟩
theorem ok_any {f fC : Addr} {fd fdC : FuncData} {k : Nat} (F : Fun K "_law_any_of" "_law_any_of" sAny f fd) (G : FnOk P w K mg base CX0 k fC fdC ["_law_pail", "_law_many"] spCast) (bC : Binds K fdC ["_law_pail", "_law_many"] []) (mC : mg "_law_cast" = some (.ref fC)) (kC : PySem.W.keepIn K (.ref fC) = true) (ml : mg "len" = none) :
    FnOk P w K mg base CX0 (k + 1) f fd ["_law_pail", "_law_some"] spAny := by
  refine F.ok scAny (fun vs H Q E h => ?_) (fun cdv A outer s H vs Q E hr h => ?_)
  · obtain ⟨p, l, xs, rfl, _⟩ := h
    rfl
  · obtain ⟨p, l, xs, rfl, hne, hl, h0, h1, hp, q⟩ := h
    refine ⟨_, pss_one (ps_ret (pe_ix ix_list (pv 1) (pe_call G hr rfl mC kC bC .nil pass0 (pa_cons (pv 0) (pa_cons (pe_callB call_len_seq (by rfl) ml PySem.boot_len (pa_cons (pv 1) pa_nil)) pa_nil))) (fun _ _ => rfl))), ?_⟩
    refine ⟨_, rfl, _, rfl, _, rfl, l, xs, rfl, .inl (SqL.of hl), p, (xs.length : Int), rfl, by omega, by omega, hp, fun r H' r0 r1 hp' bt => ?_⟩
    obtain ⟨j, ej⟩ : ∃ j : Nat, r = (j : Int) := ⟨r.toNat, by omega⟩
    have hj : j < xs.length := by omega
    have hl' : H' l = some (.lst xs) := bt l _ hne hl
    exact ⟨l, xs, r, xs[j], rfl, rfl, SqL.of hl', L2.at_of ej (List.getElem?_eq_getElem hj), q _ _ (List.getElem_mem hj) hp' bt⟩
end
end Lamp
set_option Elab.async false
set_option linter.all false
set_option maxRecDepth 100000
set_option maxHeartbeats 1000000
namespace Lamp
open PySem PySem.Spec PyProof.Rows L2
/-- all that the walk asks of an exception class whose __init__ keeps f -/
structure XC (P : Program) (w : World) (K : PySem.W.Frag) (mg : Str → Option Value) (C : Addr) (x f : Str) : Prop where
  T : ∃ (B newId initId : String) (tail : List Value), EC K C B newId initId tail
  hm : mg x = some (.ref C)
  nf : PySem.W.findIn K (.ref C) f = some none
  made : ∃ (fI : Addr) (fd : FuncData), PySem.W.findIn K (.ref C) "__init__" = some (some (.ref fI)) ∧ PySem.W.typeIn K (.ref fI) = some (.type "function") ∧ PySem.W.takerIn K C f = some none ∧
    (∀ base : Heap, FnOk P w K mg base CX0 1 fI fd ["self", f] (spInit K C f)) ∧ (∀ (s : Shared) (v u : Value), K.In s.heap → BindsTo s fd ⟨[v, u], []⟩ [("self", v), (f, u)]) ∧ (∀ (s : Shared) (v u : Value), K.In s.heap → BindsTo s fd ⟨[v], [(f, u)]⟩ [("self", v), (f, u)])
/-- .. that has no __init__ of the program -/
structure XN (K : PySem.W.Frag) (mg : Str → Option Value) (C : Addr) (x : Str) : Prop where
  T : ∃ (B newId initId : String) (tail : List Value), EC K C B newId initId tail ∧ PySem.W.excIn K C tail newId = true
  hm : mg x = some (.ref C)
section
variable {X : Cx} {C : Addr} {x f : Str} {p pos : Pos} {e : Expr} {ta : TE}
theorem pe_xc (Z : XC X.prog X.w X.K X.mg C x f) (hr : Room 2 X.A) (hg : Gl X x) (ha : PE X e ta) (hs : starEach [e] X.env = (false, eval e X.env) :: starEach [] X.env := by rfl) (hdb : (x == ("__debug__" : Str)) = false := by decide) :
    PE X (.Call (.Name x p) [e] [] pos) (tMkE C f ta) := by
  obtain ⟨fI, fd, h1, h2, h3, h4, h5, _⟩ := Z.made
  obtain ⟨B, newId, initId, tail, T⟩ := Z.T
  exact pe_mkE T h1 h2 h3 (h4 _) hr h5 hg Z.hm ha hs hdb
theorem pe_xk {kws : List Keyword} {tk : TA} (Z : XC X.prog X.w X.K X.mg C x f) (hr : Room 2 X.A) (hg : Gl X x) (hkw : PK X kws tk) (hall : (backToKw pos (keywordEach kws X.env)).all (·.1.isSome) = true := by rfl) (hks : (backToKw pos (keywordEach kws X.env)).filterMap (·.1) = [f] := by rfl)
    (hdb : (x == ("__debug__" : Str)) = false := by decide) (hpl : ((backTo pos (starEach [] X.env)).any (·.1) || (backToKw pos (keywordEach kws X.env)).any (·.1.isNone)) = false := by rfl) : PE X (.Call (.Name x p) [] kws pos) (tMkK C f tk) := by
  obtain ⟨fI, fd, h1, h2, h3, h4, _, h6⟩ := Z.made
  obtain ⟨B, newId, initId, tail, T⟩ := Z.T
  exact pe_mkK T h1 h2 h3 (h4 _) hr h6 hg Z.hm hkw hall hks hdb hpl
/-- C() -/
def tMkN (C : Addr) : TE := fun _ H Q => ∀ a, H a = none → Q (.ref a) (upd H a (exo a C none))
theorem pe_xn (Z : XN X.K X.mg C x) (hg : Gl X x) (hdb : (x == ("__debug__" : Str)) = false := by decide) : PE X (.Call (.Name x p) [] [] pos) (tMkN C) := by
  obtain ⟨B, newId, initId, tail, T, q⟩ := Z.T
  exact pe_mk0 T.F q Z.hm T.kp hg hdb
end
/-! rows of exceptions made -/
/-- a class with the field that its exceptions have -/
abbrev XSpec := Addr × Option Str
def XHas (H : Hp) (y : V) (a : Addr) (s : XSpec) : Prop := match s.2 with
  | some f => XFld H a s.1 f y
  | none => XAt H a s.1
theorem XHas.same {H H' : Hp} {y : V} {a : Addr} {s : XSpec} (h : XHas H y a s) (e : Same H H') : XHas H' y a s := by
  obtain ⟨C, f⟩ := s
  cases f with
  | none => exact XAt.same h e
  | some f => exact XFld.same h e
theorem XHas.at {H : Hp} {y : V} {a : Addr} {s : XSpec} (h : XHas H y a s) : XAt H a s.1 := by
  obtain ⟨C, f⟩ := s
  cases f with
  | none => exact h
  | some f => exact XFld.at h
def EvX (y : V) (te : TE) (σ : L2.St) (s : XSpec) : Prop := ∀ (H : Hp) (Q : VK), (∀ a H', Same H H' → XHas H' y a s → Q (.ref a) H') → te σ H Q
def EvXs (y : V) (ta : TA) (σ : L2.St) (ss : List XSpec) : Prop := ∀ (H : Hp) (Q : List V → Hp → Prop), (∀ (as : List Addr) H', Same H H' → Paired (XHas H' y) as ss → Q (as.map V.ref) H') → ta σ H Q
section
variable {y : V} {te : TE} {ta : TA} {σ : L2.St} {s : XSpec} {ss : List XSpec} {C : Addr} {f : Str}
theorem made_same {H : Hp} {a dx : Addr} (h1 : H a = none) (h2 : H dx = none) (ne : dx ≠ a) : Same H (upd (upd (upd H a (exo a C none)) dx (exd dx [(f, y)])) a (exo a C (some dx))) := fun b o e => by
  rw [upd_ne (ne_of_none e h1), upd_ne (ne_of_none e h2), upd_ne (ne_of_none e h1)]
  exact e
theorem made_has {H : Hp} {a dx : Addr} (ne : dx ≠ a) : XFld (upd (upd (upd H a (exo a C none)) dx (exd dx [(f, y)])) a (exo a C (some dx))) a C f y :=
  ⟨dx, upd_same, by rw [upd_ne ne, upd_same]⟩
theorem evx_e {i : Nat} (h : σ[i]? = some (some y)) : EvX y (tMkE C f (tVar i)) σ (C, some f) := fun H Q q => ⟨y, h, fun a dx h1 h2 ne => q a _ (made_same h1 h2 ne) (made_has ne)⟩
theorem evx_k {i : Nat} (h : σ[i]? = some (some y)) : EvX y (tMkK C f (tCons (tVar i) tNil)) σ (C, some f) := fun H Q q => ⟨y, h, y, rfl, fun a dx h1 h2 ne => q a _ (made_same h1 h2 ne) (made_has ne)⟩
theorem evx_n : EvX y (tMkN C) σ (C, none) := fun H Q q a h => q a _ (same_of h) (.inl upd_same)
theorem evxs_nil : EvXs y tNil σ [] := fun H Q q => q [] H (Same.refl H) .nil
theorem evxs_cons (h1 : EvX y te σ s) (h2 : EvXs y ta σ ss) : EvXs y (tCons te ta) σ (s :: ss) := fun H Q q => h1 H _ fun a H1 s1 x1 => h2 H1 _ fun as H2 s2 x2 => q (a :: as) H2 (s1.trans s2) (.cons (x1.same s2) x2)
theorem xs_same {H H' : Hp} (e : Same H H') {as : List Addr} (h : Paired (XHas H y) as ss) : Paired (XHas H' y) as ss := L2.Paired.mapP h fun _ _ x => x.same e
variable {t2 : TS} {D : Ends} {H : Hp} {i : Nat} {ss0 : List XSpec}
theorem sq_lstX (h : EvXs y ta σ ss) (hl : ss.length ≤ 100) (k : ∀ l (as : List Addr) H', H' l = some (.lst (as.map V.ref)) → Same H H' → Paired (XHas H' y) as ss → t2 D (σ.set i (some (.ref l))) H') : tSeq (tAsg (tLst ta) (gName i)) t2 D σ H :=
  h H _ fun as H1 s1 x1 => by
    have hlen := Paired.length x1
    refine ⟨Nat.le_of_lt (small1000 (by rw [List.length_map]; omega)), fun r hr => ?_⟩
    exact k r as _ upd_same (s1.trans (same_of hr)) (xs_same (same_of hr) x1)
theorem cat_X {as0 : List Addr} {l0 : Addr} {Q : VK} (hx : σ[i]? = some (some (.ref l0))) (h0 : H l0 = some (.lst (as0.map V.ref))) (x0 : Paired (XHas H y) as0 ss0) (h : EvXs y ta σ ss) (hl : ss.length ≤ 100) (hl0 : ss0.length ≤ 100)
    (k : ∀ l (as : List Addr) H', H' l = some (.lst (as.map V.ref)) → Same H H' → Paired (XHas H' y) as (ss0 ++ ss) → Q (.ref l) H') : tOp rCat (tVar i) (tLst ta) σ H Q := by
  refine ⟨_, hx, h H _ fun as H1 s1 x1 => ?_⟩
  have hlen := Paired.length x1
  have hlen0 := Paired.length x0
  refine ⟨Nat.le_of_lt (small1000 (by rw [List.length_map]; omega)), fun r hr => ?_⟩
  have s2 : Same H1 (upd H1 r (.lst (as.map V.ref))) := same_of hr
  refine ⟨l0, r, as0.map V.ref, as.map V.ref, rfl, rfl, s2 _ _ (s1 _ _ h0), upd_same, Nat.le_of_lt (small1000 (by rw [List.length_map, List.length_map]; omega)), fun r2 hr2 => ?_⟩
  have s3 : Same (upd H1 r (.lst (as.map V.ref))) (upd (upd H1 r (.lst (as.map V.ref))) r2 (.lst (as0.map V.ref ++ as.map V.ref))) := same_of hr2
  exact k r2 (as0 ++ as) _ (by rw [List.map_append, upd_same]) ((s1.trans s2).trans s3) (paired_app (xs_same ((s1.trans s2).trans s3) x0) (xs_same (s2.trans s3) x1))
theorem sq_catX {as0 : List Addr} {l0 : Addr} (hx : σ[i]? = some (some (.ref l0))) (h0 : H l0 = some (.lst (as0.map V.ref))) (x0 : Paired (XHas H y) as0 ss0) (h : EvXs y ta σ ss) (hl : ss.length ≤ 100) (hl0 : ss0.length ≤ 100)
    (k : ∀ l (as : List Addr) H', H' l = some (.lst (as.map V.ref)) → Same H H' → Paired (XHas H' y) as (ss0 ++ ss) → t2 D (σ.set i (some (.ref l))) H') : tSeq (tAsg (tOp rCat (tVar i) (tLst ta)) (gName i)) t2 D σ H := cat_X hx h0 x0 h hl hl0 k
theorem st_catX {as0 : List Addr} {l0 : Addr} (hx : σ[i]? = some (some (.ref l0))) (h0 : H l0 = some (.lst (as0.map V.ref))) (x0 : Paired (XHas H y) as0 ss0) (h : EvXs y ta σ ss) (hl : ss.length ≤ 100) (hl0 : ss0.length ≤ 100)
    (k : ∀ l (as : List Addr) H', H' l = some (.lst (as.map V.ref)) → Same H H' → Paired (XHas H' y) as (ss0 ++ ss) → D.rt (.ref l) H') : tRet (tOp rCat (tVar i) (tLst ta)) D σ H := cat_X hx h0 x0 h hl hl0 k
end
end Lamp
set_option Elab.async false
set_option linter.all false
set_option maxRecDepth 100000
set_option maxHeartbeats 1000000
namespace Lamp
open PySem PySem.Spec PyProof.Rows L2
/-! argument lists that make nothing -/
def VA (ta : TA) (σ : L2.St) (H : Hp) (vs : List V) : Prop := ∀ Q : List V → Hp → Prop, Q vs H → ta σ H Q
section
variable {K : PySem.W.Frag} {te : TE} {ta : TA} {σ : L2.St} {H : Hp} {v : V} {vs vs0 : List V} {t2 : TS} {D : Ends} {i : Nat} {l0 : Addr}
theorem va_nil : VA tNil σ H [] := fun Q q => q
theorem va_cons (h1 : Val te σ H v) (h2 : VA ta σ H vs) : VA (tCons te ta) σ H (v :: vs) := fun Q q => h1 _ (h2 _ q)
theorem sq_lstV (h : VA ta σ H vs) (hl : vs.length ≤ 100) (k : ∀ l H', H' l = some (.lst vs) → Same H H' → t2 D (σ.set i (some (.ref l))) H') : tSeq (tAsg (tLst ta) (gName i)) t2 D σ H :=
  h _ ⟨Nat.le_of_lt (small1000 (by omega)), fun r hr => k r _ upd_same (same_of hr)⟩
theorem cat_V {Q : VK} (hx : σ[i]? = some (some (.ref l0))) (h0 : H l0 = some (.lst vs0)) (h : VA ta σ H vs) (hl : vs.length ≤ 100) (hl0 : vs0.length ≤ 100)
    (k : ∀ l H', H' l = some (.lst (vs0 ++ vs)) → Same H H' → Q (.ref l) H') : tOp rCat (tVar i) (tLst ta) σ H Q := by
  refine ⟨_, hx, h _ ⟨Nat.le_of_lt (small1000 (by omega)), fun r hr => ?_⟩⟩
  have s2 : Same H (upd H r (.lst vs)) := same_of hr
  exact ⟨l0, r, vs0, vs, rfl, rfl, s2 _ _ h0, upd_same, Nat.le_of_lt (small1000 (by omega)), fun r2 hr2 => k r2 _ upd_same (s2.trans (same_of hr2))⟩
theorem sq_catV (hx : σ[i]? = some (some (.ref l0))) (h0 : H l0 = some (.lst vs0)) (h : VA ta σ H vs) (hl : vs.length ≤ 100) (hl0 : vs0.length ≤ 100)
    (k : ∀ l H', H' l = some (.lst (vs0 ++ vs)) → Same H H' → t2 D (σ.set i (some (.ref l))) H') : tSeq (tAsg (tOp rCat (tVar i) (tLst ta)) (gName i)) t2 D σ H := cat_V hx h0 h hl hl0 k
theorem st_catV (hx : σ[i]? = some (some (.ref l0))) (h0 : H l0 = some (.lst vs0)) (h : VA ta σ H vs) (hl : vs.length ≤ 100) (hl0 : vs0.length ≤ 100)
    (k : ∀ l H', H' l = some (.lst (vs0 ++ vs)) → Same H H' → D.rt (.ref l) H') : tRet (tOp rCat (tVar i) (tLst ta)) D σ H := cat_V hx h0 h hl hl0 k
theorem v_isX {a C D' : Addr} {b : Bool} (h : σ[i]? = some (some (.ref a))) (hx : XAt H a C) (T : ∃ (B newId initId : String) (tail : List Value), EC K C B newId initId tail) (hk : PySem.W.kitOne K (.ref C) (.ref D') = some b) :
    Val (tCB (rIsX K) (tCons (tVar i) (tCons (tC (.ref D')) tNil))) σ H (.bl b) := fun Q q => ⟨_, h, a, C, _, _, b, rfl, hx, T, .own D', hk, q⟩
theorem v_isT {a C : Addr} {n : String} {b : Bool} (h : σ[i]? = some (some (.ref a))) (hx : XAt H a C) (T : ∃ (B newId initId : String) (tail : List Value), EC K C B newId initId tail) (hk : PySem.W.kitOne K (.ref C) (.type n) = some b) :
    Val (tCB (rIsX K) (tCons (tVar i) (tCons (tC (.ty n)) tNil))) σ H (.bl b) := fun Q q => ⟨_, h, a, C, _, _, b, rfl, hx, T, .ty n, hk, q⟩
end
end Lamp
set_option Elab.async false
set_option linter.all false
set_option maxRecDepth 100000
set_option maxHeartbeats 1000000
namespace Lamp
open PySem PySem.Spec PyProof.Rows L2
abbrev sVast : Stmt := top 44
abbrev sPlace : Stmt := top 46
theorem But.step {p : Addr} {H H1 H2 : Hp} (a : But p H H1) (b : But p H1 H2) : But p H H2 := a.trans b
def spVast : Sp := fun vs H Q _ => ∃ (p : Addr) (m : Int), vs = [.ref p, .int m] ∧ 0 < m ∧ Pail H p ∧ ∀ (r : Int) H', 0 ≤ r → r < m → Pail H' p → But p H H' → Q (.int r) H'
def big : Int := 10 ^ 39
def spPlace : Sp := fun vs H Q _ => ∃ (p : Addr), vs = [.ref p] ∧ Pail H p ∧ ∀ (r : Int) H', -big ≤ r → r ≤ big → Pail H' p → But p H H' → Q (.int r) H'
section
variable {σ : L2.St} {H : Hp} {D : Ends} {t1 t2 : TS} {j : Nat}
theorem sq_forRn {n : Nat} (hn : n ≤ 1000) (Pv : Nat → L2.St → Hp → Prop) (h0 : Pv 0 σ H) (hs : ∀ (i : Nat) (σ' : L2.St) (H' : Hp), i < n → Pv i σ' H' → t1 { D with nx := Pv (i + 1), ct := Pv (i + 1), bk := t2 D } (σ'.set j (some (.int (i : Int)))) H')
    (hd : ∀ σ' H', Pv n σ' H' → t2 D σ' H') {te : TE} (he : Val te σ H (.int (n : Int))) : tSeq (tFor (iRng1 (tCons te tNil)) (gName j) t1) t2 D σ H := by
  refine he _ ⟨(n : Int), rfl, by omega, by omega, ?_⟩
  have e0 : ((n : Int)).toNat = n := by omega
  rw [e0]
  refine for_range (D := { D with nx := t2 D }) (lo := 0) (n := n) Pv h0 (fun i σ' H' hi p => ?_) hd
  have e1 : (0 : Int) + (i : Int) = (i : Int) := Int.zero_add _
  rw [e1]
  exact hs i σ' H' hi p
theorem sq_setR {te : TE} {i : Nat} (R : V → Hp → Prop) (h : ∀ Q : VK, (∀ v H', R v H' → Q v H') → te σ H Q) (k : ∀ v H', R v H' → t2 D (σ.set i (some v)) H') : tSeq (tAsg te (gName i)) t2 D σ H := h _ fun v H' r => k v H' r
theorem st_setR {te : TE} {i : Nat} (R : V → Hp → Prop) (h : ∀ Q : VK, (∀ v H', R v H' → Q v H') → te σ H Q) (k : ∀ v H', R v H' → D.nx (σ.set i (some v)) H') : tAsg te (gName i) D σ H := h _ fun v H' r => k v H' r
end
section
variable {P : Program} {w : World} {K : PySem.W.Frag} {mg : Str → Option Value} {base : Heap}
theorem scVast : FnScope ["_law_pail", "_law_many", "_law_found", "_law_turn"] ["_law_pail", "_law_many"] (defScope sVast) := ⟨rfl, rfl, rfl, by decide +kernel, rfl, by decide +kernel, by decide +kernel⟩
theorem scPlace : FnScope ["_law_pail", "_law_chance"] ["_law_pail"] (defScope sPlace) := ⟨rfl, rfl, rfl, by decide +kernel, rfl, by decide +kernel, by decide +kernel⟩
/-- what is known of the drawing def -/
structure Dr (P : Program) (w : World) (K : PySem.W.Frag) (mg : Str → Option Value) (base : Heap) (sp : Sp) (x : Str) (ps : List Str) (k : Nat) : Prop where
  ex : ∃ (f : Addr) (fd : FuncData), FnOk P w K mg base CX0 k f fd ps sp ∧ Binds K fd ps [] ∧ mg x = some (.ref f) ∧ PySem.W.keepIn K (.ref f) = true
theorem pe_dr {X : Cx} {sp : Sp} {x : Str} {ps : List Str} {k j : Nat} {e : Expr} {es : List Expr} {t : TA} {p pos : Pos} (Z : Dr X.prog X.w X.K X.mg X.base sp x ps k) (hk : k ≤ j) (hr : Room j X.A) (hg : Gl X x) (ha : PA X (e :: es) t) (hdb : (x == ("__debug__" : Str)) = false := by decide)
    (he : starEach (e :: es) X.env = (false, eval e X.env) :: starEach es X.env := by rfl) (hpl : (backTo pos (starEach es X.env)).any (·.1) = false := by rfl) : PE X (.Call (.Name x p) (e :: es) [] pos) (tCallG sp t) := by
  obtain ⟨f, fd, F, b, m, kp⟩ := Z.ex
  have z := pe_call (pos := pos) (p := p) F (hr.mono hk) hg m kp b .nil pass0 ha hdb he hpl
  refine ⟨fun pins s σ H Q I h => z.run pins s σ H Q I ?_⟩
  unfold tCall
  simp only [List.append_nil]
  exact h
theorem ok_vast {f : Addr} {fd : FuncData} (F : Fun K "_law_vast" "_law_vast" sVast f fd) (C : Dr P w K mg base spCast "_law_cast" ["_law_pail", "_law_many"] 1) (mi : mg "int" = none) (mr : mg "range" = none) : FnOk P w K mg base CX0 2 f fd ["_law_pail", "_law_many"] spVast := by
  refine F.ok scVast (fun vs H Q E h => ?_) (fun cdv A outer s H vs Q E hr h => ?_)
  · obtain ⟨p, m, rfl, _⟩ := h
    rfl
  · obtain ⟨p, m, rfl, h0, hp, q⟩ := h
    refine ⟨_, pss_cons (ps_set (i := 2) scVast.nd rfl (.inl rfl) pe_int) (pss_cons (ps_for PassesOwn.never rfl (pi_range1 rfl mr (pa_cons pe_int pa_nil)) (pg_name (i := 3) scVast.nd rfl (.inl rfl))
        (pss_one (ps_set (i := 2) scVast.nd rfl (.inl rfl) (pe_op op_add (pe_op op_mul (pv 2) pe_int) (pe_dr C (Nat.le_refl _) hr rfl (pa_cons (pv 0) (pa_cons pe_int pa_nil)))))))
      (pss_one (ps_ret (pe_op op_mod (pe_callTy call_int1 (by rfl) mi (by decide +kernel) (pa_cons (pv 2) pa_nil)) (pv 1))))), ?_⟩
    refine sq_set (v := .int 0) val_c ?_
    refine sq_forRn (n := 6) (by decide) (fun i σ' H' => ∃ (z : Int) (b : Option V), σ' = [some (.ref p), some (.int m), some (.int z), b] ∧ Pail H' p ∧ But p H H') ⟨0, none, rfl, hp, But.refl p H⟩ ?_ ?_ val_c
    · rintro i σ' H0 hi ⟨z, b, rfl, hp0, bt0⟩
      refine ⟨_, rfl, z, 1000003, rfl, rfl, mulR ⟨by decide, by decide⟩, _, rfl, p, 1000003, rfl, by decide, by decide, hp0, fun r H1 r0 r1 hp1 bt1 => ⟨_, _, rfl, rfl, ?_⟩⟩
      exact ⟨_, _, rfl, hp1, bt0.trans bt1⟩
    · rintro σ' H0 ⟨z, b, rfl, hp0, bt0⟩
      refine st_ret (v := .int (z % m)) (val_op (lv_int (val_var rfl)) (val_var rfl) fun _ q => ⟨_, _, rfl, rfl, h0, q⟩) ?_
      exact q _ _ (Int.emod_nonneg _ (by omega)) (Int.emod_lt_of_pos _ h0) hp0 bt0
theorem ok_place {f : Addr} {fd : FuncData} (F : Fun K "_law_place" "_law_place" sPlace f fd) (C : Dr P w K mg base spCast "_law_cast" ["_law_pail", "_law_many"] 1) (Vt : Dr P w K mg base spVast "_law_vast" ["_law_pail", "_law_many"] 2) : FnOk P w K mg base CX0 3 f fd ["_law_pail"] spPlace := by
  refine F.ok scPlace (fun vs H Q E h => ?_) (fun cdv A outer s H vs Q E hr h => ?_)
  · obtain ⟨p, rfl, _⟩ := h
    rfl
  · obtain ⟨p, rfl, hp, q⟩ := h
    refine ⟨_, pss_cons (ps_set (i := 1) scPlace.nd rfl (.inl rfl) (pe_dr C (by decide) hr rfl (pa_cons (pv 0) (pa_cons pe_int pa_nil))))
      (pss_cons (ps_if (pt_cmpR op_lt (pv 1) pe_int (nomark _)) (pss_one (ps_ret (pe_op op_sub (pe_dr C (by decide) hr rfl (pa_cons (pv 0) (pa_cons pe_int pa_nil))) pe_int))) pss_nil)
      (pss_one (ps_ret (pe_ifExp (pt_cmpR op_eq (pv 1) pe_int (nomark _)) (pe_op op_sub (pe_dr C (by decide) hr rfl (pa_cons (pv 0) (pa_cons pe_int pa_nil))) pe_int)
        (pe_op op_sub (pe_dr Vt (Nat.le_refl _) hr rfl (pa_cons (pv 0) (pa_cons (pe_op op_pow pe_int pe_int) pa_nil))) (pe_op op_pow pe_int pe_int)))))), ?_⟩
    have hbig : big = 1000000000000000000000000000000000000000 := by decide
    refine ⟨_, rfl, p, 8, rfl, by decide, by decide, hp, fun r H1 r0 r1 hp1 bt1 => ?_⟩
    by_cases h6 : r < 6
    · refine sq_yes (an_lt (val_var rfl) val_c (decide_eq_true h6)) ?_
      refine ⟨_, rfl, p, 13, rfl, by decide, by decide, hp1, fun r2 H2 r20 r21 hp2 bt2 => ⟨_, _, rfl, rfl, ?_⟩⟩
      exact q _ _ (by omega) (by omega) hp2 (bt1.trans bt2)
    · refine sq_no (an_lt (val_var rfl) val_c (decide_eq_false h6)) ?_
      by_cases h7 : r = 6
      · subst h7
        refine ⟨_, rfl, rfl, true, rfl, ?_⟩
        refine iteT ?_
        refine ⟨_, rfl, p, 81, rfl, by decide, by decide, hp1, fun r2 H2 r20 r21 hp2 bt2 => ⟨_, _, rfl, rfl, ?_⟩⟩
        exact q _ _ (by omega) (by omega) hp2 (bt1.trans bt2)
      · refine ⟨_, rfl, rfl, false, ?_, ?_⟩
        · show V.bl (decide (V.int r = V.int 6)) = V.bl false
          rw [decide_eq_false (fun z => h7 (V.int.inj z))]
        · refine iteF ?_
          refine ⟨_, rfl, 10, 39, rfl, rfl, ⟨by decide, by decide, by decide⟩, p, _, rfl, ?_, hp1, fun r2 H2 r20 r21 hp2 bt2 => ⟨10, 38, rfl, rfl, ⟨by decide, by decide, by decide⟩, _, _, rfl, rfl, ?_⟩⟩
          · decide
          · have e39 : (10 : Int) ^ (39 : Int).toNat = 1000000000000000000000000000000000000000 := by decide
            have e38 : (10 : Int) ^ (38 : Int).toNat = 100000000000000000000000000000000000000 := by decide
            rw [e39] at r21
            rw [e38]
            exact q _ _ (by omega) (by omega) hp2 (bt1.trans bt2)
end
end Lamp
set_option Elab.async false
set_option linter.all false
set_option maxRecDepth 100000
set_option maxHeartbeats 1000000
namespace Lamp
open PySem PySem.Spec PyProof.Rows L2
abbrev sPicture : Stmt := top 47
/-! a chart: places with levels -/
def enc (ps : List (Int × Int)) : List (Key × V) := ps.map fun q => (Sum.inl q.1, V.int q.2)
def putI (ps : List (Int × Int)) (k v : Int) : List (Int × Int) := if ps.any (fun q => decide (q.1 = k)) then ps.map (fun q => if q.1 = k then (q.1, v) else q) else ps ++ [(k, v)]
theorem enc_put (ps : List (Int × Int)) (k v : Int) : putK (enc ps) (Sum.inl k) (V.int v) = enc (putI ps k v) := by
  have e1 : ((enc ps).any fun kv => decide (kv.1 = Sum.inl k)) = ps.any (fun q => decide (q.1 = k)) := by
    unfold enc
    rw [List.any_map]
    congr 1
    funext q
    show decide ((Sum.inl q.1 : Key) = Sum.inl k) = decide (q.1 = k)
    rw [key_ll]
    by_cases h : q.1 = k <;> simp [h]
  unfold putK putI
  rw [e1]
  split
  · unfold enc
    rw [List.map_map, List.map_map]
    congr 1
    funext q
    show (if (Sum.inl q.1 : Key) = Sum.inl k then _ else _) = _
    by_cases h : q.1 = k
    · rw [if_pos (by rw [h])]
      show _ = (Sum.inl (if q.1 = k then (q.1, v) else q).1, V.int (if q.1 = k then (q.1, v) else q).2)
      rw [if_pos h]
    · rw [if_neg (fun z => h (Sum.inl.inj z))]
      show _ = (Sum.inl (if q.1 = k then (q.1, v) else q).1, V.int (if q.1 = k then (q.1, v) else q).2)
      rw [if_neg h]
  · unfold enc
    rw [List.map_append]
    rfl
/-- what holds of a chart: no place twice, levels and places in their bounds -/
structure Chart (p : Int) (ps : List (Int × Int)) : Prop where
  nd : (ps.map (·.1)).Nodup
  lv : ∀ q ∈ ps, 1 ≤ q.2 ∧ q.2 < p
  pl : ∀ q ∈ ps, -big ≤ q.1 ∧ q.1 ≤ big
theorem Chart.put {p : Int} {ps : List (Int × Int)} (C : Chart p ps) {k v : Int} (h1 : 1 ≤ v ∧ v < p) (h2 : -big ≤ k ∧ k ≤ big) : Chart p (putI ps k v) ∧ (putI ps k v).length ≤ ps.length + 1 := by
  unfold putI
  split
  · refine ⟨⟨?_, fun q hq => ?_, fun q hq => ?_⟩, by rw [List.length_map]; omega⟩
    · rw [List.map_map]
      have e : ((fun q : Int × Int => q.1) ∘ fun q => if q.1 = k then (q.1, v) else q) = fun q => q.1 := by
        funext q
        show (if q.1 = k then (q.1, v) else q).1 = q.1
        split <;> rfl
      rw [e]
      exact C.nd
    · obtain ⟨q0, h0, rfl⟩ := List.mem_map.mp hq
      split
      · exact h1
      · exact C.lv q0 h0
    · obtain ⟨q0, h0, rfl⟩ := List.mem_map.mp hq
      split
      · exact C.pl q0 h0
      · exact C.pl q0 h0
  · rename_i hn
    have hk : k ∉ ps.map (·.1) := fun z => by
      obtain ⟨q, hq, e⟩ := List.mem_map.mp z
      exact hn (List.any_eq_true.mpr ⟨q, hq, decide_eq_true e⟩)
    refine ⟨⟨?_, fun q hq => ?_, fun q hq => ?_⟩, by rw [List.length_append]; exact Nat.le_refl _⟩
    · rw [List.map_append]
      exact List.nodup_append.mpr ⟨C.nd, by simp, fun a ha b hb => by simp at hb; subst hb; exact fun e => hk (e ▸ ha)⟩
    · rcases List.mem_append.mp hq with h | h
      · exact C.lv q h
      · simp at h; subst h; exact h1
    · rcases List.mem_append.mp hq with h | h
      · exact C.pl q h
      · simp at h; subst h; exact h2
theorem enc_get : ∀ {ps : List (Int × Int)} {k : Int}, k ∈ ps.map (·.1) → ∃ v, valV (enc ps) (Sum.inl k) = some (V.int v) ∧ (k, v) ∈ ps
  | [], k, h => by simp at h
  | q :: ps, k, h => by
    by_cases e : q.1 = k
    · refine ⟨q.2, ?_, by rw [← e]; exact List.mem_cons_self ..⟩
      exact valV_pos (p := (Sum.inl q.1, V.int q.2)) (by show (Sum.inl q.1 : Key) = Sum.inl k; rw [e])
    · have h' : k ∈ ps.map (·.1) := by
        rcases List.mem_cons.mp h with z | z
        · exact absurd z.symm e
        · exact z
      obtain ⟨v, h1, h2⟩ := enc_get h'
      refine ⟨v, ?_, List.mem_cons_of_mem _ h2⟩
      rw [← h1]
      exact valV_neg (p := (Sum.inl q.1, V.int q.2)) (fun z => e (Sum.inl.inj z))
/-- a picture of p levels: ascending places, levels from 1 to p - 1, few -/
structure IsPic (p : Int) (ls : List (Int × Int)) : Prop where
  asc : (ls.map (·.1)).Pairwise (· < ·)
  lv : ∀ q ∈ ls, 1 ≤ q.2 ∧ q.2 < p
  pl : ∀ q ∈ ls, -big ≤ q.1 ∧ q.1 ≤ big
  few : ls.length ≤ 5
/-- .. of whatever places, with as many lamps as are let -/
structure IsPicW (p : Int) (ls : List (Int × Int)) : Prop where
  asc : (ls.map (·.1)).Pairwise (· < ·)
  lv : ∀ q ∈ ls, 1 ≤ q.2 ∧ q.2 < p
  few : ls.length ≤ 400
theorem IsPic.w {p : Int} {ls : List (Int × Int)} (h : IsPic p ls) : IsPicW p ls := ⟨h.asc, h.lv, Nat.le_trans h.few (by decide)⟩
theorem lt_of_le_nodup : ∀ {xs : List Int}, xs.Pairwise (· ≤ ·) → xs.Nodup → xs.Pairwise (· < ·)
  | [], _, _ => .nil
  | x :: xs, h, n => by
    cases h with
    | cons h1 h2 =>
      cases n with
      | cons n1 n2 => exact .cons (fun y hy => by have a := h1 y hy; have b := n1 y hy; omega) (lt_of_le_nodup h2 n2)
/-- at t: a picture's tuple of pairs -/
def PicAt (K : PySem.W.Frag) (H : Hp) (t : Addr) (ls : List (Int × Int)) : Prop := ∃ as : List Addr, Rd H t (.tup (as.map V.ref)) ∧ Paired (fun a (q : Int × Int) => H a = some (.tup [.int q.1, .int q.2])) as ls
/-- .. the tuple having no dict of its own -/
def PicB (K : PySem.W.Frag) (H : Hp) (t : Addr) (ls : List (Int × Int)) : Prop := ∃ as : List Addr, Bare H t (as.map V.ref) ∧ Paired (fun a (q : Int × Int) => H a = some (.tup [.int q.1, .int q.2])) as ls
theorem PicB.at {K : PySem.W.Frag} {H : Hp} {t : Addr} {ls : List (Int × Int)} (h : PicB K H t ls) : PicAt K H t ls := by
  obtain ⟨as, h1, h2⟩ := h
  exact ⟨as, h1.rd, h2⟩
theorem PicB.same {K : PySem.W.Frag} {H H' : Hp} {t : Addr} {ls : List (Int × Int)} (h : PicB K H t ls) (e : Same H H') : PicB K H' t ls := by
  obtain ⟨as, h1, h2⟩ := h
  exact ⟨as, h1.same e, L2.Paired.mapP h2 fun a q z => e _ _ z⟩
theorem PicAt.same {K : PySem.W.Frag} {H H' : Hp} {t : Addr} {ls : List (Int × Int)} (h : PicAt K H t ls) (e : Same H H') : PicAt K H' t ls := by
  obtain ⟨as, h1, h2⟩ := h
  exact ⟨as, rd_same h1 e, L2.Paired.mapP h2 fun a q z => e _ _ z⟩
def spPicture (K : PySem.W.Frag) : Sp := fun vs H Q _ => ∃ (p : Addr) (lv : Int) (n : Nat), vs = [.ref p, .int lv, .int (n : Int)] ∧ 2 ≤ lv ∧ lv ≤ 7 ∧ n ≤ 5 ∧ Pail H p ∧ ∀ (t : Addr) (ls : List (Int × Int)) H', IsPic lv ls → PicB K (delH H' p) t ls → H t = none → Pail H' p → But p H H' → Q (.ref t) H'
section
variable {P : Program} {w : World} {K : PySem.W.Frag} {mg : Str → Option Value} {base : Heap}
theorem scPicture : FnScope ["_law_pail", "_law_p", "_law_many", "_law_chart", "_law_k", "_law_at"] ["_law_pail", "_law_p", "_law_many"] (defScope sPicture) := ⟨rfl, rfl, rfl, by decide +kernel, rfl, by decide +kernel, by decide +kernel⟩
theorem ok_picture {f : Addr} {fd : FuncData} (F : Fun K "_law_picture" "_law_picture" sPicture f fd) (C : Dr P w K mg base spCast "_law_cast" ["_law_pail", "_law_many"] 1) (Pl : Dr P w K mg base spPlace "_law_place" ["_law_pail"] 3)
    (mr : mg "range" = none) (mt : mg "tuple" = none) (ms : mg "sorted" = none) (ml : mg "list" = none) : FnOk P w K mg base CX0 4 f fd ["_law_pail", "_law_p", "_law_many"] (spPicture K) := by
  refine F.ok scPicture (fun vs H Q E h => ?_) (fun cdv A outer s H vs Q E hr h => ?_)
  · obtain ⟨p, lv, n, rfl, _⟩ := h
    rfl
  · obtain ⟨p, lv, n, rfl, h2, h7, hn, hp, q⟩ := h
    have hu := hu_of hr
    refine ⟨_, pss_cons (ps_set (i := 3) scPicture.nd rfl (Or.inr rfl) pe_dnewK)
      (pss_cons (ps_for PassesOwn.never rfl (pi_range1 rfl mr (pa_cons (pv 2) pa_nil)) (pg_name (i := 4) scPicture.nd rfl (.inl rfl))
        (pss_one (ps_dput hu (pv 3) (pe_dr Pl (Nat.le_refl _) hr rfl (pa_cons (pv 0) pa_nil)) (pe_op op_add pe_int (pe_dr C (by decide) hr rfl (pa_cons (pv 0) (pa_cons (pe_op op_sub (pv 1) pe_int) pa_nil)))) rfl)))
      (pss_one (ps_ret (pe_callTy call_tupB (by rfl) mt (by decide +kernel) (pa_cons (pe_lc (own := [("_law_at", 5)]) (g := gName 5) (tt := tYes) rfl scPicture.nd
          (pi_list (pe_callB cr_sortedI (by rfl) ms (by decide +kernel) (pa_cons (pe_callTy (call_list_dK rfl) (by rfl) ml (by decide +kernel) (pa_cons (pv 3) pa_nil)) pa_nil)))
          (blkOk_by (own := [("_law_at", 5)]) (N := ["_law_pail", "_law_p", "_law_many", "_law_chart", "_law_k", "_law_at"]) (sc := defScope sPicture) (by decide +kernel)) (fun _ _ _ _ _ => pg_name (i := 5) scPicture.nd rfl (Or.inl rfl)) (fun _ _ _ _ _ => pts_nil)
          (fun _ _ _ _ _ => pe_tup (pa_cons (pv 5) (pa_cons (pe_dget hu (pv 3) (pv 5) (fun _ _ => rfl)) pa_nil)))) pa_nil))))), ?_⟩
    refine sq_setR (fun v H' => ∃ c, v = .ref c ∧ H c = none ∧ H' = upd H c (.dK [])) (fun Q' q' c hc => q' _ _ ⟨c, rfl, hc, rfl⟩) ?_
    rintro v H0 ⟨c, rfl, hc, rfl⟩
    have cp : c ≠ p := hp.ne hc
    refine sq_forRn (n := n) (by omega) (fun i σ' H' => ∃ (b : Option V) (ps : List (Int × Int)), σ' = [some (.ref p), some (.int lv), some (.int (n : Int)), some (.ref c), b, none] ∧ Pail H' p ∧ But p H H' ∧ H' c = some (.dK (enc ps)) ∧ Chart lv ps ∧ ps.length ≤ i)
      ⟨none, [], rfl, hp.same (same_of hc), But.new hc, upd_same, ⟨.nil, fun q h => (nomatch h), fun q h => (nomatch h)⟩, Nat.le_refl _⟩ ?_ ?_ (val_var rfl)
    · rintro i σ' H0 hi ⟨b, ps, rfl, hp0, bt0, hc0, hC, hlen⟩
      refine ⟨_, rfl, _, rfl, lv, 1, rfl, rfl, p, lv - 1, rfl, by omega, by omega, hp0, fun r H1 r0 r1 hp1 bt1 => ⟨1, r, rfl, rfl, _, rfl, _, rfl, p, rfl, hp1, fun z H2 z0 z1 hp2 bt2 => ?_⟩⟩
      have hc2 := bt2 _ _ cp (bt1 _ _ cp hc0)
      refine ⟨c, _, rfl, DPut.k (k := Sum.inl z) hc2 ?_, ?_⟩
      · unfold enc
        rw [List.length_map]
        exact small1000 (by omega)
      · obtain ⟨g1, g2⟩ := hC.put (k := z) (v := 1 + r) (by omega) ⟨z0, z1⟩
        refine ⟨_, putI ps z (1 + r), rfl, ?_, fun b' o nb e => ?_, ?_, g1, by omega⟩
        · obtain ⟨x, y, w', hx, hr'⟩ := hp2
          exact ⟨x, y, w', by rw [upd_ne (Ne.symm cp)]; exact hx, hr'⟩
        · rw [upd_ne (ne_of_none e hc)]
          exact bt2 _ _ nb (bt1 _ _ nb (bt0 _ _ nb e))
        · rw [upd_same, enc_put]
    · rintro σ' H0 ⟨b, ps, rfl, hp0, bt0, hc0, hC, hlen⟩
      have keys : (enc ps).map (fun kv => kV kv.1) = (ps.map (·.1)).map V.int := by
        unfold enc
        rw [List.map_map, List.map_map]
        rfl
      obtain ⟨lk, hlk⟩ : ∃ lk : Int → Int, ∀ n, n ∈ ps.map (·.1) → valV (enc ps) (Sum.inl n) = some (V.int (lk n)) ∧ (n, lk n) ∈ ps := by
        classical
        exact ⟨fun n => if h : n ∈ ps.map (·.1) then (enc_get h).choose else 0, fun n h => by
          have e : (if h : n ∈ ps.map (·.1) then (enc_get h).choose else 0) = (enc_get h).choose := dif_pos h
          show valV (enc ps) (Sum.inl n) = some (V.int (if h : n ∈ ps.map (·.1) then (enc_get h).choose else 0)) ∧ (n, (if h : n ∈ ps.map (·.1) then (enc_get h).choose else 0)) ∈ ps
          rw [e]
          exact (enc_get h).choose_spec⟩
      refine ⟨_, rfl, c, enc ps, rfl, hc0, fun l nl => ⟨l, ps.map (·.1), rfl, SqL.of (by rw [upd_same, keys]), fun ns' sr perm asc nsr => ⟨sr, rfl, ⟨_, SqL.of upd_same⟩, fun D hD => ?_⟩⟩⟩
      have r1 : Same H0 (upd H0 l (.lst ((enc ps).map fun kv => kV kv.1))) := same_of nl
      have r2 := same_of (o := .lst (ns'.map V.int)) nsr
      have hsr : (upd (upd H0 l (.lst ((enc ps).map fun kv => kV kv.1))) sr (.lst (ns'.map V.int))) sr = some (.lst (ns'.map V.int)) := upd_same
      have s0b := r1.trans r2
      revert hD hsr s0b
      generalize (upd (upd H0 l (.lst ((enc ps).map fun kv => kV kv.1))) sr (.lst (ns'.map V.int))) = Hb
      intro hD hsr s0b
      refine lc_list (K := K) (a := sr) (xs := ns'.map V.int) (fun i H' => Same Hb H' ∧ ∃ as : List Addr, H' D = some (.lst (as.map V.ref)) ∧ Paired (fun a (qq : Int × Int) => H' a = some (.tup [.int qq.1, .int qq.2]) ∧ a ≠ D) as ((ns'.take i).map fun n => (n, lk n)))
        ⟨same_of hD, [], upd_same, by rw [List.take_zero]; exact .nil⟩ (fun i H' _ z => SqL.of (z.1 _ _ hsr)) (fun i x H' hi z => ?_) (fun H' z => ?_)
      · obtain ⟨sb, as, hlD, hpa⟩ := z
        obtain ⟨n0, hn0, rfl⟩ := ints_at hi
        have hmem : n0 ∈ ps.map (·.1) := (perm.mem_iff).mp (List.mem_of_getElem? hn0)
        obtain ⟨v1, v2⟩ := hlk n0 hmem
        refine ⟨rfl, ?_⟩
        refine ⟨_, rfl, _, rfl, _, rfl, c, V.int (lk n0), rfl, ?_, (by show 2 ≤ sizeLine; decide), fun tp ntp => ?_⟩
        · exact .inl ⟨enc ps, Sum.inl n0, .inl (sb _ _ (s0b _ _ hc0)), rfl, v1.symm⟩
        · have s3 := same_of (o := .tup [V.int n0, V.int (lk n0)]) ntp
          have tD : tp ≠ D := fun e => by rw [e, hlD] at ntp; cases ntp
          refine ⟨as.map V.ref, s3 _ _ hlD, ?_, fun b' o e => ?_, as ++ [tp], ?_, ?_⟩
          · have hl1 := Paired.length hpa
            have hl2 := perm.length_eq
            rw [List.length_map, List.length_take] at hl1
            rw [List.length_map] at hl2 ⊢
            exact small1000 (by omega)
          · have nb : b' ≠ D := fun z => by rw [z, hD] at e; cases e
            rw [upd_ne nb]
            exact s3 _ _ (sb _ _ e)
          · rw [upd_same, List.map_append]
            rfl
          · have hlt := (List.getElem?_eq_some_iff.mp hn0)
            rw [List.take_add_one, hn0, List.map_append]
            refine paired_app (L2.Paired.mapP hpa fun a' qq hz => ?_) (.cons ⟨?_, tD⟩ .nil)
            · exact ⟨by rw [upd_ne hz.2]; exact s3 _ _ hz.1, hz.2⟩
            · rw [upd_ne tD, upd_same]
      · obtain ⟨sb, as, hlD, hpa⟩ := z
        refine ⟨D, _, rfl, SqL.of hlD, fun t o nt ho => ?_⟩
        have s4 := same_of (o := .frz o (.tup (as.map V.ref))) nt
        rw [List.length_map, List.take_length] at hpa
        have hpz := ((hp0.same s0b).same sb).same s4
        have tp : t ≠ p := ((hp0.same s0b).same sb).ne nt
        have bt : But p H (upd H' t (.frz o (.tup (as.map V.ref)))) := bt0.trans (But.of ((s0b.trans sb).trans s4))
        have memo : ∀ n, n ∈ ns' → n ∈ ps.map (·.1) := fun n hn => (perm.mem_iff).mp hn
        refine q t (ns'.map fun n => (n, lk n)) _ ⟨?_, fun qq hq => ?_, fun qq hq => ?_, ?_⟩ ⟨as, ⟨o, by rw [delH_ne tp, upd_same], ho⟩, L2.Paired.mapP hpa fun a qq hz => ?_⟩ ?_ hpz bt
        · rw [List.map_map]
          have e : ((fun q : Int × Int => q.1) ∘ fun n => (n, lk n)) = id := rfl
          rw [e, List.map_id]
          exact lt_of_le_nodup asc (perm.nodup_iff.mpr hC.nd)
        · obtain ⟨n, hn, rfl⟩ := List.mem_map.mp hq
          exact hC.lv _ (hlk n (memo n hn)).2
        · obtain ⟨n, hn, rfl⟩ := List.mem_map.mp hq
          exact hC.pl _ (hlk n (memo n hn)).2
        · have hl2 := perm.length_eq
          rw [List.length_map] at hl2 ⊢
          omega
        · have ap : a ≠ p := fun e => by
            obtain ⟨x, y, w', hx, _⟩ := hpz
            have h1 := s4 _ _ hz.1
            rw [e, hx] at h1
            cases h1
          rw [delH_ne ap]
          exact s4 _ _ hz.1
        · cases e : H t with
          | none => rfl
          | some o =>
            have h1 := bt0.trans (But.of (s0b.trans sb)) t o tp e
            rw [nt] at h1
            cases h1
end
end Lamp
set_option Elab.async false
set_option linter.all false
set_option maxRecDepth 100000
set_option maxHeartbeats 1000000
namespace Lamp
open PySem PySem.Spec PyProof.Rows L2
/-- the parts of a round -/
structure Parts where
  lv : Int
  ls : List (Int × Int)
  fin : Int
/-- as they are drawn -/
structure Parts.Ok (r : Parts) : Prop where
  lv : r.lv = 2 ∨ r.lv = 3 ∨ r.lv = 5 ∨ r.lv = 7
  pic : IsPic r.lv r.ls
  lo : -big ≤ r.fin
  hi : r.fin ≤ big
/-- at l: the list of a round's parts, its picture at t -/
def PartsAt (K : PySem.W.Frag) (H : Hp) (l t : Addr) (r : Parts) : Prop := H l = some (.lst [.int r.lv, .ref t, .int r.fin]) ∧ PicB K H t r.ls
theorem PartsAt.same {K : PySem.W.Frag} {H H' : Hp} {l t : Addr} {r : Parts} (h : PartsAt K H l t r) (e : Same H H') : PartsAt K H' l t r := ⟨e _ _ h.1, h.2.same e⟩
end Lamp
set_option Elab.async false
set_option linter.all false
set_option maxRecDepth 100000
set_option maxHeartbeats 1000000
namespace Lamp
open PySem PySem.Spec PyProof.Rows L2
/-! enumerate of a tuple -/
theorem enum_new {v : Value} {o : Obj} {Hh : Heap → Prop} (B : Begins v o Hh) : Meets (Builtin.«enumerate.__new__» ⟨[.type "enumerate", v], []⟩) (fun _ R s => Hh s.heap ∧
    R (.ok (.ret (.ref (s.heap.push o).objs.size))) { s with heap := (s.heap.push o).push { cls := .type "enumerate", data := .fields #[.none, .bool false, .ref s.heap.objs.size, rawInt 0, .none, .none] } }) :=
  .of_wp fun P w A R s told => by
    obtain ⟨hp, gs, dp, tk, ou⟩ := s
    obtain ⟨there, goal⟩ := told
    have under := sub_enumerate
    have starts : ∀ {A1 : Around} {E : Value → Shared → Prop} {Q : Value → Shared → Prop}, Q (.ref hp.objs.size) ⟨hp.push o, gs, dp, tk, ou⟩ → wpAny (model P w) A1 (pyIter v) Q E ⟨hp, gs, dp, tk, ou⟩ :=
      fun q => B.iter P w _ _ ⟨hp, gs, dp, tk, ou⟩ _ there q
    wp_walk using starts
    refine wpAny_stack_any fun st => wpAny_pure ?_
    split
    · rename_i c _ _ _ _ _
      cases hc : (c == Value.type "enumerate") <;> (wp_walk using starts; exact ⟨_, rfl, goal⟩)
    · wp_walk using starts
      exact ⟨_, rfl, goal⟩
theorem enum_call {P : Program} {w : World} {A : Around} {E : Value → Shared → Prop} {s : Shared} {v : Value} {o : Obj} {Hh : Heap → Prop} {Q : Value → Shared → Prop} (B : Begins v o Hh) (there : Hh s.heap)
    (goal : ∀ h', IsEnum h' (s.heap.objs.size + 1) s.heap.objs.size 0 .none → h'.get? s.heap.objs.size = some o → (∀ b u, s.heap.get? b = some u → h'.get? b = some u) → Q (.ref (s.heap.objs.size + 1)) { s with heap := h' }) :
    wpAny (model P w) A (call (.type "enumerate") [v]) Q E s := by
  have two : (s.heap.push o).objs.size = s.heap.objs.size + 1 := Heap.size_push ..
  have isE : IsEnum ((s.heap.push o).push { cls := .type "enumerate", data := .fields #[.none, .bool false, .ref s.heap.objs.size, rawInt 0, .none, .none] }) (s.heap.objs.size + 1) s.heap.objs.size 0 .none := by
    rw [← two]
    exact Heap.get?_push_size (s.heap.push o) rfl
  refine callType_new F.called_enumerate (by decide) (F.typeCall_enumerate_1 _) (F.newCall_enumerate_1 _) (fun z => F.args_object_init_2 z _) F.entry_enumerate_new (enum_new B) ⟨there, ?_⟩
  show _ ∧ _
  rw [two]
  exact ⟨⟨_, isE, rfl⟩, goal _ isE (Heap.get?_push_of_some _ (Heap.get?_push_size _ B.free)) fun b u z => Heap.get?_push_of_some _ (Heap.get?_push_of_some _ z)⟩
/-- the pairs of index and item of the tuple at a -/
def Itn (K : PySem.W.Frag) (a : Addr) : It where
  go i H := ∃ (xs : List V) (x : V), SqT K H a xs ∧ xs[i]? = some x
  yld i H v H' := ∃ T x, v = .ref T ∧ H T = none ∧ H' = upd H T (.tup [.int (i : Nat), x]) ∧ ∀ xs, SqT K H a xs → xs[i]? = some x
  stop i H := ∃ xs : List V, SqT K H a xs ∧ xs.length ≤ i
theorem turn_enumT {P : Program} {w : World} {K : PySem.W.Frag} {parts : List Expr} {n : Nat} {at_ : Pos} (a e it : Addr) :
    Turn P w K (.Tuple parts n at_) (Itn K a) [e, it] e (fun i h => (∃ old, IsEnum h e it ((i : Nat) : Int) old) ∧ h.IsTupleIter it a i ∧ e ≠ it) where
  mem := List.mem_cons_self ..
  obj := fun i h st b hb => by
    obtain ⟨⟨old, he⟩, ⟨o, ho, hc, hd⟩, _⟩ := st
    rcases (by simpa using hb : b = e ∨ b = it) with z | z
    · rw [z]; exact ⟨_, he, fun v q => nomatch q⟩
    · rw [z]; exact ⟨o, ho, fun v q => by rw [hd] at q; cases q⟩
  keep := fun i h h' st k => ⟨let ⟨old, he⟩ := st.1; ⟨old, k e (by simp) _ he⟩, st.2.1.at fun o q => k it (by simp) o q, st.2.2⟩
  item := by
    intro X hP hw hK hc i pins s σ H E I hf st hg
    subst hP hw hK
    obtain ⟨⟨old, he⟩, hit, hne⟩ := st
    obtain ⟨xs, x, hq, hx⟩ := hg
    obtain ⟨its, rv, p, hz⟩ := I.tuple hq
    obtain ⟨u, hu, ru⟩ := rv.get hx
    have hlen := rv.length
    have hi : i < its.length := (List.getElem?_eq_some_iff.mp hu).1
    have tup : s.heap.IsTuple a its.toArray := p
    have ae : a ≠ e := fun z => by
      obtain ⟨o, ho, hco, _⟩ := tup
      rw [z, he] at ho
      cases ho
      exact absurd (show Value.type "enumerate" = .type "tuple" from hco) (by decide)
    have ait : a ≠ it := fun z => by
      obtain ⟨o, ho, hco, _⟩ := tup
      obtain ⟨o2, ho2, hc2, _⟩ := hit
      rw [z, ho2] at ho
      cases ho
      rw [hc2] at hco
      exact absurd hco (by decide)
    have le : e < s.heap.objs.size := Heap.lt_size he
    have li : it < s.heap.objs.size := by obtain ⟨_, q, _⟩ := hit; exact Heap.lt_size q
    have D := Draws.tuple (prog := X.prog) (w := X.w) (A := X.A.in1) (I.ok.hd hc) it a ait its.toArray
    refine wpAny_pyNext_enum_itemD D he ⟨hit, tup⟩ (by simpa using hi) hne (by simp; exact ⟨hne, fun z => ae z.symm⟩) fun y h' tk hy ho st' hT hsz hk => ?_
    have ey : y = u := by
      have : its[i]? = some y := by simpa using hy
      rw [hu] at this
      exact (Option.some.inj this).symm
    subst ey
    obtain ⟨hit', tup'⟩ := st'
    refine ⟨_, rfl, wpAny_letOwnedTupleGo_enum (s := { s with heap := h', toks := tk + 1 }) ho fun h2 he2 sb => ?_⟩
    have hT2 : h2.get? s.heap.objs.size = some { cls := .type "tuple", data := .seq #[.int i tk, y] } := (sb.2 _ (Nat.ne_of_gt le)).trans hT
    have made : ObjOk X.prog X.w (upd H s.heap.objs.size (.tup [.int (i : Nat), x])) h2 s.heap.objs.size (.tup [.int (i : Nat), x]) :=
      ⟨by show 2 ≤ sizeLine; decide, [.int i tk, y], .cons ⟨_, rfl⟩ (.cons ru .nil), ⟨_, hT2, rfl, _, rfl⟩⟩
    have I1 : Inv X pins σ (upd H s.heap.objs.size (.tup [.int (i : Nat), x])) { s with heap := h2, toks := tk + 1 } :=
      I.turnedNew (ch := [e, it]) (fun b ob hb q => (sb.2 b (fun z => hb (by simp [z]))).trans (hk b ob (fun z => hb (by simp [z])) (fun z => hb (by simp [z])) q)) hf (Nat.le_refl _) made
    refine ⟨.ref s.heap.objs.size, _, I1, rfl, ⟨_, x, rfl, I.hok.fresh (Nat.le_refl _), rfl, fun ys hy => by rw [I.tuple_inj hy hq]; exact hx⟩, ⟨⟨y, ?_⟩, hit'.at fun o q => (sb.2 it (Ne.symm hne)).trans q, hne⟩, fun b hb => ?_⟩
    · rw [show ((i + 1 : Nat) : Int) = (i : Int) + 1 by omega]
      exact he2
    · have lb : b < s.heap.objs.size := by
        rcases (by simpa using hb : b = e ∨ b = it) with z | z
        · rw [z]; exact le
        · rw [z]; exact li
      rw [upd_ne (Nat.ne_of_lt lb)]
      exact (hf b hb).1
  done := by
    intro X hP hw hK hc i pins s σ H E I hf st hg
    subst hP hw hK
    obtain ⟨⟨old, he⟩, hit, hne⟩ := st
    obtain ⟨xs, hq, hx⟩ := hg
    obtain ⟨its, rv, p, hz⟩ := I.tuple hq
    obtain ⟨f0, f1, f2, f3, f4, f5⟩ := hf it (by simp)
    have hl := rv.length
    have tup : s.heap.IsTuple a its.toArray := p
    unfold pyNext
    refine wpAny_bind (wpAny_attempt (wpAny_callSpecial?_slot (name := Str.ofString "__next__") ⟨_, he, rfl⟩ F.slot_enumerate_next
      (wpAny_call_entry F.slot_enumerate_next ⟨_, he, rfl⟩ F.entry_enumerate_next ?_ (F.args_enumerate_next_1 _))))
    show wpAny _ _ (field (.ref e) 2 >>= _) _ _ _
    refine wpAny_bind (wpAny_field he rfl (x := .ref it) rfl ?_)
    refine wpAny_bind (wpAny_nextOf_tuple_end (I.ok.hd hc) hit tup (by simp; omega) fun h' ex eb so => ?_)
    obtain ⟨o, ho, hcs⟩ := so
    refine wpAny_bind (wpAny_isInstance (T := "StopIteration") (b := true) ⟨o, ho, hcs⟩ isSubtype_stop ?_)
    exact wpAny_pure ⟨rfl, I.turned (t' := s.toks) (fun b o hb q => eb b o hb q) f0 f1 f3 f4 f5⟩
  self := fun A i s Q E st h => let ⟨⟨_, he⟩, _⟩ := st; wpAny_pyIter_enum he h
def iEnumT (K : PySem.W.Frag) (ta : TA) : TI := fun σ H R => ta σ H fun vs H1 => ∃ a xs, vs = [.ref a] ∧ SqT K H1 a xs ∧ R (Itn K a) H1
theorem pi_enumT {X : Cx} {e : Expr} {ta : TA} {p pos at_ : Pos} {parts : List Expr} {n : Nat} (hg : Gl X "enumerate") (hm : X.mg "enumerate" = none) (ha : PA X [e] ta) (hs : starEach [e] X.env = [(false, eval e X.env)] := by rfl) :
    PI X (.Tuple parts n at_) (.Call (.Name "enumerate" p) [e] [] pos) (iEnumT X.K ta) := by
  refine ⟨fun pins s σ H R I h => ?_⟩
  refine Call_ (ld_blt I hg hm boot_enumerate (PyProof.Rows.callWith_type1 (thn (ha.run pos pins s σ H _ I h) fun us s1 ⟨vs, H1, I1, r1, a, xs, ex, hq, q⟩ => ?_) hs rfl))
  subst ex
  cases r1 with
  | cons r rr =>
    cases rr
    cases r
    obtain ⟨its, rv, p', hz⟩ := I1.tuple hq
    have tup : s1.heap.IsTuple a its.toArray := p'
    refine enum_call (begins_tuple a its.toArray) tup fun h' he hi hk => wpAny_pyIter_enum he ?_
    have I2 : Inv X pins σ H1 { s1 with heap := h' } := I1.kept (t' := s1.toks) hk
    refine ⟨s1.heap.objs.size + 1, [s1.heap.objs.size + 1, s1.heap.objs.size], _, _, H1, rfl, I2, turn_enumT a (s1.heap.objs.size + 1) s1.heap.objs.size, ⟨⟨.none, he⟩, ⟨_, hi, rfl, rfl⟩, Nat.succ_ne_self _⟩, fun b hb => ?_, q⟩
    have lb : s1.heap.objs.size ≤ b := by
      rcases (by simpa using hb : b = s1.heap.objs.size + 1 ∨ b = s1.heap.objs.size) with z | z
      · rw [z]; exact Nat.le_add_right _ _
      · rw [z]; exact Nat.le_refl _
    exact I1.fpOk lb (I1.hok.fresh lb)
/-- for i, x in enumerate(t): body told by what holds ahead of each turn -/
theorem for_enumT {K : PySem.W.Frag} {a : Addr} {xs : List V} {g : TG} {tb : TS} {D : Ends} {σ : L2.St} {H : Hp} (Pv : Nat → L2.St → Hp → Prop) (h0 : Pv 0 σ H) (hl : ∀ i σ H, i ≤ xs.length → Pv i σ H → SqT K H a xs)
    (hs : ∀ i x σ H T, xs[i]? = some x → Pv i σ H → H T = none → g (.ref T) σ (upd H T (.tup [.int (i : Nat), x])) fun σ2 H2 => tb { D with nx := Pv (i + 1), ct := Pv (i + 1), bk := D.nx } σ2 H2) (hd : ∀ σ H, Pv xs.length σ H → D.nx σ H) :
    ∃ W : Nat → Nat → L2.St → Hp → Prop, (∃ m, W 0 m σ H) ∧ ∀ i m σ H, W i m σ H →
      ((Itn K a).stop i H ∧ D.nx σ H) ∨ ((Itn K a).go i H ∧ ∃ N : L2.St → Hp → Prop, (∀ σ' H', N σ' H' → ∃ m', m' < m ∧ W (i + 1) m' σ' H') ∧ ∀ x H', (Itn K a).yld i H x H' → g x σ H' fun σ2 H2 => tb { D with nx := N, ct := N, bk := D.nx } σ2 H2) := by
  refine ⟨fun i m σ H => m + i = xs.length ∧ Pv i σ H, ⟨xs.length, rfl, h0⟩, fun i m σ H z => ?_⟩
  obtain ⟨hm, p⟩ := z
  have q := hl i σ H (by omega) p
  cases m with
  | zero =>
    have e : i = xs.length := by omega
    subst e
    exact .inl ⟨⟨xs, q, Nat.le_refl _⟩, hd _ _ p⟩
  | succ m =>
    have lt : i < xs.length := by omega
    refine .inr ⟨⟨xs, xs[i], q, by simp [lt]⟩, Pv (i + 1), fun σ' H' p' => ⟨m, Nat.lt_succ_self _, by omega, p'⟩, fun v H' y => ?_⟩
    obtain ⟨T, x, rfl, hT, rfl, hx⟩ := y
    exact hs i x σ H T (hx xs q) p hT
end Lamp
set_option Elab.async false
set_option linter.all false
set_option maxRecDepth 100000
set_option maxHeartbeats 1000000
namespace Lamp
open PySem PySem.Spec PyProof.Rows L2
abbrev sIsInt : Stmt := top 15
abbrev sIsLevels : Stmt := top 16
abbrev sIsLamp : Stmt := top 17
abbrev sWrong : Stmt := top 18
def spIsInt : Sp := fun vs H Q _ => ∃ i : Int, vs = [.int i] ∧ Q (.bl true) H
def goodLv (lv : Int) : Prop := lv = 2 ∨ lv = 3 ∨ lv = 5 ∨ lv = 7
def spIsLevels : Sp := fun vs H Q _ => ∃ lv : Int, vs = [.int lv] ∧ goodLv lv ∧ Q (.bl true) H
def spIsLamp : Sp := fun vs H Q _ => ∃ (lv x y : Int) (a : Addr), vs = [.int lv, .ref a] ∧ H a = some (.tup [.int x, .int y]) ∧ 0 < y ∧ y < lv ∧ Q (.bl true) H
def spWrong (K : PySem.W.Frag) : Sp := fun vs H Q _ => ∃ (lv : Int) (t : Addr) (ls : List (Int × Int)), vs = [.int lv, .ref t] ∧ PicAt K H t ls ∧ IsPicW lv ls ∧ ∀ H', Same H H' → Q .non H'
section
variable {P : Program} {w : World} {K : PySem.W.Frag} {mg : Str → Option Value} {base : Heap}
theorem scIsInt : FnScope ["value"] ["value"] (defScope sIsInt) := ⟨rfl, rfl, rfl, by decide +kernel, rfl, by decide +kernel, by decide +kernel⟩
theorem scIsLevels : FnScope ["value"] ["value"] (defScope sIsLevels) := ⟨rfl, rfl, rfl, by decide +kernel, rfl, by decide +kernel, by decide +kernel⟩
theorem scIsLamp : FnScope ["levels", "value", "place", "level"] ["levels", "value"] (defScope sIsLamp) := ⟨rfl, rfl, rfl, by decide +kernel, rfl, by decide +kernel, by decide +kernel⟩
theorem scWrong : FnScope ["levels", "lamps", "index", "lamp"] ["levels", "lamps"] (defScope sWrong) := ⟨rfl, rfl, rfl, by decide +kernel, rfl, by decide +kernel, by decide +kernel⟩
theorem isi_ii (H : Hp) (i : Int) {Q : VK} (q : Q (.bl true) H) : rIsi K [.int i, .ty "int"] H Q := ⟨_, _, .type "int", .type "int", true, rfl, .ty "int", .base (.int i), kit_ty (by decide +kernel), q⟩
theorem isi_ib (H : Hp) (i : Int) {Q : VK} (q : Q (.bl false) H) : rIsi K [.int i, .ty "bool"] H Q := ⟨_, _, .type "int", .type "bool", false, rfl, .ty "bool", .base (.int i), kit_ty (by decide +kernel), q⟩
theorem isi_tt {H : Hp} {a : Addr} {xs : List V} (h : H a = some (.tup xs)) {Q : VK} (q : Q (.bl true) H) : rIsi K [.ref a, .ty "tuple"] H Q := ⟨_, _, .type "tuple", .type "tuple", true, rfl, .ty "tuple", .base (.tup h), kit_ty (by decide +kernel), q⟩
theorem isi_tR {H : Hp} {a : Addr} {xs : List V} (h : Rd H a (.tup xs)) {Q : VK} (q : Q (.bl true) H) : rIsi K [.ref a, .ty "tuple"] H Q := by
  rcases h with h | ⟨o, h⟩
  · exact isi_tt h q
  · exact ⟨_, _, .type "tuple", .type "tuple", true, rfl, .ty "tuple", .fTuple h, kit_ty (by decide +kernel), q⟩
theorem isi_ss {H : Hp} {x : Str} {Q : VK} (q : Q (.bl true) H) : rIsi K [.str x, .ty "str"] H Q := ⟨_, _, .type "str", .type "str", true, rfl, .ty "str", .base (.str x), kit_ty (by decide +kernel), q⟩
theorem v_isii {te : TE} {σ : L2.St} {H : Hp} {i : Int} (h : Val te σ H (.int i)) : Val (tCB (rIsi K) (tCons te (tCons (tC (.ty "int")) tNil))) σ H (.bl true) := fun Q q => h _ (isi_ii H i q)
theorem v_isib {te : TE} {σ : L2.St} {H : Hp} {i : Int} (h : Val te σ H (.int i)) : Val (tCB (rIsi K) (tCons te (tCons (tC (.ty "bool")) tNil))) σ H (.bl false) := fun Q q => h _ (isi_ib H i q)
theorem ok_isInt {f : Addr} {fd : FuncData} (F : Fun K "is_integer" "is_integer" sIsInt f fd) (mis : mg "isinstance" = none) (mi : mg "int" = none) (mb : mg "bool" = none) : FnOk P w K mg base CX0 1 f fd ["value"] spIsInt := by
  refine F.ok scIsInt (fun vs H Q E h => ?_) (fun cdv A outer s H vs Q E hr h => ?_)
  · obtain ⟨i, rfl, _⟩ := h
    rfl
  · obtain ⟨i, rfl, q⟩ := h
    refine ⟨_, pss_one (ps_ret (pe_and (pe_callB call_isi (by rfl) mis (by decide +kernel) (pa_cons (pv 0) (pa_cons (pe_bltn (v := .ty "int") (by rfl) mi (by decide +kernel) rfl) pa_nil)))
      (pe_one (pe_not (pe_callB call_isi (by rfl) mis (by decide +kernel) (pa_cons (pv 0) (pa_cons (pe_bltn (v := .ty "bool") (by rfl) mb (by decide +kernel) rfl) pa_nil))))))), ?_⟩
    refine v_isii (val_var rfl) _ ⟨true, rfl, iteT ?_⟩
    exact v_isib (val_var rfl) _ ⟨false, rfl, q⟩
theorem ok_isLevels {f aL : Addr} {fd : FuncData} (F : Fun K "is_levels" "is_levels" sIsLevels f fd) (I : Dr P w K mg base spIsInt "is_integer" ["value"] 1) (mL : mg "LEVELS" = some (.ref aL)) (four : ∀ H, SqT K H aL [.int 2, .int 3, .int 5, .int 7]) : FnOk P w K mg base CX0 2 f fd ["value"] spIsLevels := by
  refine F.ok scIsLevels (fun vs H Q E h => ?_) (fun cdv A outer s H vs Q E hr h => ?_)
  · obtain ⟨i, rfl, _⟩ := h
    rfl
  · obtain ⟨i, rfl, hg, q⟩ := h
    refine ⟨_, pss_one (ps_ret (pe_and (pe_dr I (Nat.le_refl _) hr rfl (pa_cons (pv 0) pa_nil)) (pe_one (pe_cmpR op_in_seq (pv 0) (pe_glob (v := .ref aL) rfl mL rfl) (by rfl))))), ?_⟩
    refine ⟨_, rfl, i, rfl, true, rfl, ?_⟩
    show _
    refine ⟨_, rfl, aL, _, rfl, .inr (four H), rfl, by decide, ?_⟩
    have e : inV (V.int i) [.int 2, .int 3, .int 5, .int 7] = true := by
      rcases hg with rfl | rfl | rfl | rfl <;> decide
    rw [e]
    exact q
theorem ok_isLamp {f : Addr} {fd : FuncData} (F : Fun K "is_lamp" "is_lamp" sIsLamp f fd) (I : Dr P w K mg base spIsInt "is_integer" ["value"] 1) (mis : mg "isinstance" = none) (mt : mg "tuple" = none) (ml : mg "len" = none) : FnOk P w K mg base CX0 2 f fd ["levels", "value"] spIsLamp := by
  refine F.ok scIsLamp (fun vs H Q E h => ?_) (fun cdv A outer s H vs Q E hr h => ?_)
  · obtain ⟨lv, x, y, a, rfl, _⟩ := h
    rfl
  · obtain ⟨lv, x, y, a, rfl, ha, h0, h1, q⟩ := h
    refine ⟨_, pss_cons (ps_if (PW.pt (pw_or (pt_not (pt_val (pe_callB call_isi (by rfl) mis (by decide +kernel) (pa_cons (pv 1) (pa_cons (pe_bltn (v := .ty "tuple") (by rfl) mt (by decide +kernel) rfl) pa_nil)))))
          (pw_or1 (pt_cmpR op_ne (pe_callB call_len_seq (by rfl) ml PySem.boot_len (pa_cons (pv 1) pa_nil)) pe_int (nomark _))))) pss_never pss_nil)
      (pss_cons (ps_asg (pv 1) (pg_tup rfl (pgs_cons (pg_name (i := 2) scIsLamp.nd rfl (.inl rfl)) (pgs_cons (pg_name (i := 3) scIsLamp.nd rfl (.inl rfl)) pgs_nil))))
      (pss_one (ps_ret (pe_and (pe_dr I (Nat.le_refl _) hr rfl (pa_cons (pv 2) pa_nil)) (pe_and (pe_dr I (Nat.le_refl _) hr rfl (pa_cons (pv 3) pa_nil)) (pe_one (pe_chain op_lt op_lt pe_int (pv 3) (pv 0)))))))), ?_⟩
    refine sq_no ?_ ?_
    · refine ans_or (ans_not (b := true) (ans_val fun Q q => ⟨_, rfl, isi_tt ha q⟩)) (ans_ne (x := .int 2) (y := .int 2) (fun Q q => ⟨_, rfl, a, _, rfl, .inr (SqT.of ha), q⟩) val_c rfl rfl)
    · refine ⟨_, rfl, a, _, rfl, SqT.of ha, rfl, _, _, rfl, _, _, rfl, rfl, ?_⟩
      refine ⟨_, rfl, x, rfl, true, rfl, ?_⟩
      show _
      refine ⟨_, rfl, y, rfl, true, rfl, ?_⟩
      show _
      refine ⟨_, rfl, 0, y, rfl, rfl, true, ?_, ?_⟩
      · show V.bl (decide (0 < y)) = _
        rw [decide_eq_true h0]
      · show _
        refine ⟨_, rfl, y, lv, rfl, rfl, ?_⟩
        show Q (.bl (decide (y < lv))) H
        rw [decide_eq_true h1]
        exact q
theorem pair_get {K : PySem.W.Frag} {H : Hp} {t : Addr} {ls : List (Int × Int)} (h : PicAt K H t ls) : ∃ as : List Addr, Rd H t (.tup (as.map V.ref)) ∧ as.length = ls.length ∧ ∀ (i : Nat) (a : Addr) (q : Int × Int), as[i]? = some a → ls[i]? = some q → H a = some (.tup [.int q.1, .int q.2]) := by
  obtain ⟨as, h1, h2⟩ := h
  refine ⟨as, h1, Paired.length h2, fun i a q ha hq => ?_⟩
  obtain ⟨q', hq', e⟩ := paired_get h2 ha
  rw [hq] at hq'
  cases hq'
  exact e
theorem asc_at {ls : List (Int × Int)} (h : (ls.map (·.1)).Pairwise (· < ·)) {i : Nat} {q r : Int × Int} (h1 : ls[i]? = some q) (h2 : ls[i + 1]? = some r) : q.1 < r.1 := by
  rw [List.pairwise_iff_getElem] at h
  obtain ⟨l1, e1⟩ := List.getElem?_eq_some_iff.mp h1
  obtain ⟨l2, e2⟩ := List.getElem?_eq_some_iff.mp h2
  have z := h i (i + 1) (by rw [List.length_map]; exact l1) (by rw [List.length_map]; exact l2) (Nat.lt_succ_self i)
  rw [List.getElem_map, List.getElem_map, e1, e2] at z
  exact z
theorem ok_wrong {f : Addr} {fd : FuncData} (F : Fun K "wrong_lamp" "wrong_lamp" sWrong f fd) (L : Dr P w K mg base spIsLamp "is_lamp" ["levels", "value"] 2) (me : mg "enumerate" = none) : FnOk P w K mg base CX0 3 f fd ["levels", "lamps"] (spWrong K) := by
  refine F.ok scWrong (fun vs H Q E h => ?_) (fun cdv A outer s H vs Q E hr h => ?_)
  · obtain ⟨lv, t, ls, rfl, _⟩ := h
    rfl
  · obtain ⟨lv, t, ls, rfl, hp, hi, q⟩ := h
    obtain ⟨as, ht, hlen, hat⟩ := pair_get hp
    refine ⟨_, pss_cons (ps_for PassesOwn.never rfl (pi_enumT rfl me (pa_cons (pv 1) pa_nil)) (pg_tup rfl (pgs_cons (pg_name (i := 2) scWrong.nd rfl (.inl rfl)) (pgs_cons (pg_name (i := 3) scWrong.nd rfl (.inl rfl)) pgs_nil)))
        (pss_cons (ps_if (pt_not (pt_val (pe_dr L (Nat.le_refl _) hr rfl (pa_cons (pv 0) (pa_cons (pv 3) pa_nil))))) pss_never pss_nil)
        (pss_one (ps_if (PW.pt (pw_and (pt_cmpR op_gt (pv 2) pe_int (nomark _)) (pw_and1 (pt_cmpR op_le (pe_ix ix_tup (pv 3) pe_int (fun _ _ => rfl)) (pe_ix ix_tup (pe_ix ix_tup (pv 1) (pe_op op_sub (pv 2) pe_int) (fun _ _ => rfl)) pe_int (fun _ _ => rfl)) (nomark _))))) pss_never pss_nil))))
      (pss_one (ps_ret pe_non)), ?_⟩
    refine ⟨_, rfl, t, _, rfl, .inl ht, for_enumT (xs := as.map V.ref) (fun i σ H' => ∃ x y, σ = [some (.int lv), some (.ref t), x, y] ∧ Same H H') ⟨_, _, rfl, Same.refl H⟩ (fun i σ H' _ z => ?_) (fun i x σ H' T hx z hT => ?_) (fun σ H' z => ?_)⟩
    · obtain ⟨_, _, _, s⟩ := z
      exact .inl (rd_same ht s)
    · obtain ⟨x0, y0, rfl, s⟩ := z
      have s1 := s.trans (same_of (o := .tup [V.int (i : Nat), x]) hT)
      rw [List.getElem?_map] at hx
      cases ea : as[i]? with
      | none => rw [ea] at hx; cases hx
      | some a =>
        rw [ea] at hx
        have ex : x = V.ref a := (Option.some.inj hx).symm
        subst ex
        have li : i < ls.length := by
          rw [← hlen]
          exact (List.getElem?_eq_some_iff.mp ea).1
        have eq := List.getElem?_eq_getElem li
        have lev := hi.lv _ (List.getElem_mem li)
        have h1 := s1 _ _ (hat i a _ ea eq)
        refine ⟨T, _, rfl, SqT.of upd_same, rfl, _, _, rfl, _, _, rfl, rfl, ?_⟩
        refine sq_no ?_ ?_
        · exact ans_not (b := true) (ans_val fun Q q => ⟨_, rfl, _, rfl, lv, _, _, a, rfl, h1, by omega, lev.2, q⟩)
        · refine st_no ?_ ?_
          · cases i with
            | zero => exact ans_and0 (an_gt (val_var rfl) val_c (decide_eq_false (by decide)))
            | succ j =>
              have lj : j < ls.length := by omega
              have ej := List.getElem?_eq_getElem lj
              have lja : j < as.length := by omega
              have eja := List.getElem?_eq_getElem lja
              have h2 := s1 _ _ (hat j _ _ eja ej)
              have lt := asc_at hi.asc ej eq
              refine ans_and (an_gt (val_var rfl) val_c (decide_eq_true (by omega))) (ans_cmp (x := .int ls[j+1].1) (y := .int ls[j].1) (val_op (val_var rfl) val_c fun Q q => ⟨a, _, 0, _, rfl, rfl, SqT.of h1, rfl, q⟩) ?_ fun Q q => ⟨_, _, rfl, rfl, ?_⟩)
              · refine val_op (x := .ref as[j]) (val_op (val_var rfl) (val_op (z := .int (j : Int)) (val_var rfl) val_c fun Q q => ⟨_, _, rfl, rfl, ?_⟩) fun Q q => ⟨t, _, (j : Int), _, rfl, rfl, .inl (rd_same ht s1), L2.at_of (j := j) rfl (by rw [List.getElem?_map, eja]; rfl), q⟩) val_c fun Q q => ⟨_, _, 0, _, rfl, rfl, SqT.of h2, rfl, q⟩
                have e : ((j + 1 : Nat) : Int) - 1 = (j : Int) := by omega
                show Q (.int (((j + 1 : Nat) : Int) - 1)) _
                rw [e]
                exact q
              · show Q (.bl (decide (ls[j+1].1 ≤ ls[j].1))) _
                rw [decide_eq_false (by omega)]
                exact q
          · exact ⟨_, _, rfl, s1⟩
    · obtain ⟨_, _, rfl, s⟩ := z
      exact q _ s
end
end Lamp
set_option Elab.async false
set_option linter.all false
set_option maxRecDepth 100000
set_option maxHeartbeats 1000000
namespace Lamp
open PySem PySem.Spec PyProof.Rows L2
open TL (tl tl_append ext_tl numL tl_ofString len_tl)
/-! numbers and rounds as texts -/
/-- an integer's text -/
def nS (i : Int) : Str := Str.ofString (toString i)
def sg (i : Int) : List Nat := if i < 0 then [45] else []
theorem tl_nS (i : Int) : tl (nS i) = sg i ++ numL i.natAbs := by
  cases i with
  | ofNat n =>
    have e : ¬ Int.ofNat n < 0 := by simp
    unfold sg
    rw [if_neg e]
    exact TL.tl_num n
  | negSucc n =>
    unfold sg
    rw [if_pos (Int.negSucc_lt_zero n)]
    show tl (Str.ofString ("-" ++ Nat.repr (n + 1))) = [45] ++ numL (n + 1)
    rw [tl_ofString, String.toList_append, List.map_append, Nat.toList_repr]
    rfl
theorem nS_sign {i : Int} {c : Nat} (h : c ∈ tl (nS i)) : c = 45 ∨ (48 ≤ c ∧ c ≤ 57) := by
  rw [tl_nS] at h
  rcases List.mem_append.mp h with h | h
  · unfold sg at h
    split at h
    · exact .inl (List.mem_singleton.mp h)
    · cases h
  · exact .inr (TL.numL_digits _ c h)
theorem nS_free {i : Int} {c : Nat} (h1 : c ≠ 45) (h2 : c < 48 ∨ 57 < c) : c ∉ tl (nS i) := fun z => by
  rcases nS_sign z with e | e
  · exact h1 e
  · omega
theorem nS_len {i : Int} (h : i.natAbs < 10 ^ 40) : (nS i).length ≤ 41 := by
  rw [len_tl, tl_nS, List.length_append]
  have h1 := TL.numL_len (by decide : 0 < 40) h
  have h2 : (sg i).length ≤ 1 := by
    unfold sg
    split <;> simp
  omega
theorem nS_read {i : Int} (h : i.natAbs < 10 ^ 40) : intText? (nS i) = some i := by
  have hl : (nS i).length ≤ 4300 := Nat.le_trans (nS_len h) (by decide)
  have e := tl_nS i
  unfold sg at e
  split at e
  · have z := PySem.intText_neg e (TL.numL_digits _) (TL.numL_ne _) hl
    have z2 : intText? (nS i) = some (-((NumText.digitsVal (numL i.natAbs) : Nat) : Int)) := z
    rw [TL.numL_val] at z2
    rw [z2]
    congr 1
    omega
  · rw [List.nil_append] at e
    have z := PySem.intText_digits (x := nS i) (by rw [show (nS i).cps.toList = _ from e]; exact TL.numL_digits _) (by rw [show (nS i).cps.toList = _ from e]; exact TL.numL_ne _) hl
    rw [show (nS i).cps.toList = _ from e, TL.numL_val] at z
    rw [z]
    congr 1
    omega
theorem nS_inj {i j : Int} (h1 : i.natAbs < 10 ^ 40) (h2 : j.natAbs < 10 ^ 40) (h : nS i = nS j) : i = j := by
  have e := nS_read h1
  rw [h, nS_read h2] at e
  exact (Option.some.inj e).symm
/-- without its sign -/
theorem tl_bare (i : Int) : tl (Txt.removeprefix (nS i) "-") = numL i.natAbs := by
  have hs : Builtin.Str.subAt (nS i) "-" 0 = decide (i < 0) := by
    unfold Builtin.Str.subAt
    have e : ((nS i).cps.extract 0 (0 + ("-" : Str).length)).toList = (tl (nS i)).take 1 := by
      rw [Array.toList_extract]
      rfl
    have e2 : (("-" : Str).cps).toList = [45] := rfl
    have e3 : ((nS i).cps.extract 0 (0 + ("-" : Str).length) == ("-" : Str).cps) = ((tl (nS i)).take 1 == [45]) := by
      rw [Bool.eq_iff_iff, beq_iff_eq, beq_iff_eq, ← e, ← e2]
      exact ⟨fun z => by rw [z], fun z => Array.toList_inj.mp z⟩
    rw [e3, tl_nS]
    unfold sg
    by_cases h : i < 0
    · rw [if_pos h, decide_eq_true h]
      rfl
    · rw [if_neg h, decide_eq_false h, List.nil_append]
      cases hn : numL i.natAbs with
      | nil => exact absurd hn (TL.numL_ne _)
      | cons c r =>
        have hd := TL.numL_digits i.natAbs c (by rw [hn]; exact List.mem_cons_self ..)
        show ([c] == [45]) = false
        rw [beq_eq_false_iff_ne]
        intro z
        have := (List.cons.inj z).1
        omega
  unfold Txt.removeprefix
  rw [hs]
  have e := tl_nS i
  unfold sg at e
  by_cases h : i < 0
  · rw [decide_eq_true h, if_pos rfl]
    rw [if_pos h] at e
    show tl (if ((nS i).length - ("-" : Str).length == (nS i).length) = true then nS i else Builtin.Str.strSub (nS i) ("-" : Str).length (nS i).length) = _
    have hl : (nS i).length ≠ 0 := by
      rw [len_tl, e]
      simp
    rw [if_neg (by rw [beq_iff_eq]; show ¬ (nS i).length - 1 = (nS i).length; omega), TL.tl_strSub_end, e]
    rfl
  · rw [decide_eq_false h, if_neg Bool.false_ne_true]
    rw [if_neg h] at e
    exact e
theorem dig_uni : ∀ c, c < 128 → 48 ≤ c → c ≤ 57 → Unicode.isDigit c = true := by decide +kernel
theorem all_tl (x : Str) (p : Nat → Bool) : x.cps.all p = (tl x).all p := by
  show x.cps.all p = x.cps.toList.all p
  simp
theorem bare_ascii (i : Int) : Txt.isascii (Txt.removeprefix (nS i) "-") = true := by
  unfold Txt.isascii
  rw [all_tl, tl_bare, List.all_eq_true]
  intro c hc
  have := TL.numL_digits _ c hc
  exact decide_eq_true (by omega)
theorem bare_digit (i : Int) : Txt.isdigit (Txt.removeprefix (nS i) "-") = true := by
  unfold Txt.isdigit
  rw [all_tl, len_tl, tl_bare, Bool.and_eq_true, List.all_eq_true]
  refine ⟨decide_eq_true ?_, fun c hc => ?_⟩
  · cases hn : numL i.natAbs with
    | nil => exact absurd hn (TL.numL_ne _)
    | cons c r => exact Nat.succ_pos _
  · have := TL.numL_digits _ c hc
    exact dig_uni c (by omega) this.1 this.2
/-- a lamp's word -/
def lampS (q : Int × Int) : Str := nS q.1 ++ ":" ++ nS q.2
theorem tl_lampS (q : Int × Int) : tl (lampS q) = tl (nS q.1) ++ 58 :: tl (nS q.2) := by
  unfold lampS
  rw [tl_append, tl_append, List.append_assoc]
  rfl
theorem lampS_free (q : Int × Int) : 32 ∉ tl (lampS q) := by
  rw [tl_lampS]
  intro h
  rcases List.mem_append.mp h with h | h
  · exact nS_free (by decide) (.inl (by decide)) h
  · rcases List.mem_cons.mp h with h | h
    · cases h
    · exact nS_free (by decide) (.inl (by decide)) h
theorem lampS_len {q : Int × Int} (h1 : q.1.natAbs < 10 ^ 40) (h2 : q.2.natAbs < 10 ^ 40) : (lampS q).length ≤ 83 := by
  rw [len_tl, tl_lampS, List.length_append, List.length_cons]
  have e1 := nS_len h1
  have e2 := nS_len h2
  rw [len_tl] at e1 e2
  omega
/-- the words behind the end -/
def tailWs (ls : List (Int × Int)) : List Str := match ls with
  | [] => ["dark"]
  | l :: r => "lamps" :: (l :: r).map lampS
def wordsS (lv : Int) (ls : List (Int × Int)) (fin : Int) : List Str := [("levels" : Str), nS lv, ("end" : Str), nS fin] ++ tailWs ls
def sheetS (lv : Int) (ls : List (Int × Int)) (fin : Int) : Str := Txt.join " " (wordsS lv ls fin)
theorem wordsS_free (lv : Int) (ls : List (Int × Int)) (fin : Int) : ∀ p ∈ wordsS lv ls fin, 32 ∉ tl p := by
  intro p hp
  unfold wordsS at hp
  rcases List.mem_append.mp hp with h | h
  · simp only [List.mem_cons, List.not_mem_nil, or_false] at h
    rcases h with rfl | rfl | rfl | rfl
    · decide
    · exact nS_free (by decide) (.inl (by decide))
    · decide
    · exact nS_free (by decide) (.inl (by decide))
  · cases ls with
    | nil =>
      rw [show tailWs [] = [("dark" : Str)] from rfl] at h
      rw [List.mem_singleton.mp h]
      decide
    | cons l r =>
      rcases List.mem_cons.mp h with h | h
      · rw [h]; decide
      · obtain ⟨q, _, rfl⟩ := List.mem_map.mp h
        exact lampS_free q
theorem sheet_split (lv : Int) (ls : List (Int × Int)) (fin : Int) : Txt.split (sheetS lv ls fin) " " = wordsS lv ls fin :=
  TL.split_join (y := (" " : Str)) (s := 32) (S := []) rfl (by rw [all_tl]; decide) (by unfold wordsS; simp) (wordsS_free lv ls fin)
theorem lamp_part (q : Int × Int) : Txt.partition (lampS q) ":" = (nS q.1, (":" : Str), nS q.2) :=
  TL.partition_app (y := (":" : Str)) (s := 58) (S := []) rfl (nS_free (by decide) (.inr (by decide)))
end Lamp
set_option Elab.async false
set_option linter.all false
set_option maxRecDepth 100000
set_option maxHeartbeats 1000000
namespace Lamp
open PySem PySem.Spec PyProof.Rows L2
open TL (tl tl_append ext_tl numL tl_ofString len_tl)
abbrev sRoundText : Stmt := top 21
/-! a round's text, put together as the program and as the law do -/
theorem nS_lenW {i : Int} (h : i.natAbs < 10 ^ 42) : (nS i).length ≤ 43 := by
  rw [TL.len_tl, tl_nS, List.length_append]
  have h1 := TL.numL_len (by decide : 0 < 42) h
  have h2 : (sg i).length ≤ 1 := by
    unfold sg
    split <;> simp
  omega
theorem lampS_lenW {q : Int × Int} (h1 : q.1.natAbs < 10 ^ 42) (h2 : q.2.natAbs < 10 ^ 42) : (lampS q).length ≤ 87 := by
  rw [TL.len_tl, tl_lampS, List.length_append, List.length_cons, ← TL.len_tl, ← TL.len_tl]
  have a := nS_lenW h1
  have b := nS_lenW h2
  omega
theorem le_lineW {n : Nat} (h : n ≤ 100000) : n ≤ sizeLine := by rw [sizeLine_eq]; omega
theorem fits {i : Int} (h1 : -big ≤ i) (h2 : i ≤ big) : i.natAbs < 10 ^ 42 := by
  have hb : big = 1000000000000000000000000000000000000000 := by decide
  rw [hb] at h1 h2
  omega
theorem fits_log {i : Int} (h : i.natAbs < 10 ^ 42) : i.natAbs.log2 < 1920 := Nat.lt_trans (PySem.Flt.log2_lt_of (k := 140) (by decide) (Nat.lt_of_lt_of_le h (by decide))) (by decide)
theorem tl_sheet (lv : Int) (ls : List (Int × Int)) (fin : Int) : tl (sheetS lv ls fin) = TL.joinL [32] ((wordsS lv ls fin).map tl) := by
  unfold sheetS
  rw [TL.join_eq, TL.tl_join]
  rfl
theorem tl_levels : tl ("levels " : Str) = tl ("levels" : Str) ++ [32] := rfl
theorem tl_end : tl (" end " : Str) = [32] ++ (tl ("end" : Str) ++ [32]) := rfl
theorem tl_darks : tl (" dark" : Str) = [32] ++ tl ("dark" : Str) := rfl
theorem tl_lampss : tl (" lamps " : Str) = [32] ++ (tl ("lamps" : Str) ++ [32]) := rfl
theorem tl_lamps : tl ("lamps " : Str) = tl ("lamps" : Str) ++ [32] := rfl
theorem tl_space : tl (" " : Str) = [32] := rfl
theorem tl_none : tl Str.empty = [] := rfl
theorem sheet_dark (lv fin : Int) : Str.empty ++ ("levels " : Str) ++ nS lv ++ (" end " : Str) ++ nS fin ++ (" dark" : Str) = sheetS lv [] fin := by
  refine ext_tl ?_
  rw [tl_sheet]
  simp only [tl_append, tl_levels, tl_end, tl_darks, tl_none, List.nil_append, List.append_assoc]
  rfl
theorem sheet_lamps (lv fin : Int) (l : Int × Int) (r : List (Int × Int)) : Str.empty ++ ("levels " : Str) ++ nS lv ++ (" end " : Str) ++ nS fin ++ (" lamps " : Str) ++ Txt.join (" " : Str) ((l :: r).map lampS) = sheetS lv (l :: r) fin := by
  refine ext_tl ?_
  rw [tl_sheet]
  simp only [tl_append, tl_levels, tl_end, tl_lampss, tl_none, List.nil_append, List.append_assoc, TL.join_eq, TL.tl_join, tl_space]
  rfl
theorem empty_app (x : Str) : Str.empty ++ x = x := ext_tl (by rw [tl_append]; rfl)
theorem len_app (x y : Str) : (x ++ y).length = x.length + y.length := by
  rw [len_tl, tl_append, List.length_append, ← len_tl, ← len_tl]
theorem lampsum : ∀ {ls : List (Int × Int)}, (∀ q ∈ ls, q.1.natAbs < 10 ^ 42 ∧ q.2.natAbs < 10 ^ 42) → ((ls.map lampS).map (·.length)).sum ≤ 87 * ls.length
  | [], _ => Nat.zero_le _
  | q :: r, h => by
    have h1 := h q (List.mem_cons_self ..)
    have h2 := lampS_lenW h1.1 h1.2
    have h3 := lampsum (ls := r) fun p hp => h p (List.mem_cons_of_mem _ hp)
    rw [List.map_cons, List.map_cons, List.sum_cons, List.length_cons]
    omega
theorem joinlen : ∀ (ps : List (List Nat)), (TL.joinL [32] ps).length ≤ (ps.map (·.length)).sum + ps.length
  | [] => Nat.le_refl _
  | [p] => by show p.length ≤ _; simp
  | p :: q :: r => by
    have h := joinlen (q :: r)
    show (p ++ ([32] ++ TL.joinL [32] (q :: r))).length ≤ _
    rw [List.length_append, List.length_append, List.map_cons, List.sum_cons, List.length_cons (a := p)]
    have e : ([32] : List Nat).length = 1 := rfl
    rw [e]
    omega
theorem joined_len {ls : List (Int × Int)} (h : ∀ q ∈ ls, q.1.natAbs < 10 ^ 42 ∧ q.2.natAbs < 10 ^ 42) : (Txt.join (" " : Str) (ls.map lampS)).length ≤ 88 * ls.length := by
  rw [len_tl, TL.join_eq, TL.tl_join, tl_space]
  have h1 := joinlen ((ls.map lampS).map tl)
  have h2 := lampsum h
  have h3 : (((ls.map lampS).map tl).map (·.length)).sum = ((ls.map lampS).map (·.length)).sum := by
    rw [List.map_map]
    congr 1
  rw [h3] at h1
  simp only [List.length_map] at h1
  omega
theorem sheet_len {lv : Int} {ls : List (Int × Int)} {fin : Int} (h0 : lv.natAbs < 10 ^ 42) (h1 : fin.natAbs < 10 ^ 42) (h : ∀ q ∈ ls, q.1.natAbs < 10 ^ 42 ∧ q.2.natAbs < 10 ^ 42) : (sheetS lv ls fin).length ≤ 130 + 88 * ls.length := by
  have e1 := nS_lenW h0
  have e2 := nS_lenW h1
  cases ls with
  | nil =>
    rw [← sheet_dark]
    simp only [len_app]
    have c1 : (Str.empty).length = 0 := rfl
    have c2 : ("levels " : Str).length = 7 := rfl
    have c3 : (" end " : Str).length = 5 := rfl
    have c4 : (" dark" : Str).length = 5 := rfl
    omega
  | cons l r =>
    rw [← sheet_lamps]
    have e3 := joined_len h
    simp only [len_app]
    have c1 : (Str.empty).length = 0 := rfl
    have c2 : ("levels " : Str).length = 7 := rfl
    have c3 : (" end " : Str).length = 5 := rfl
    have c4 : (" lamps " : Str).length = 7 := rfl
    omega
theorem le_line {n : Nat} (h : n ≤ 1000) : n ≤ sizeLine := Nat.le_of_lt (small1000 h)
/-- parts whose text is short -/
structure Fit (lv : Int) (ls : List (Int × Int)) (fin : Int) : Prop where
  lv : lv.natAbs < 10 ^ 42
  fin : fin.natAbs < 10 ^ 42
  few : ls.length ≤ 128
  all : ∀ q ∈ ls, q.1.natAbs < 10 ^ 42 ∧ q.2.natAbs < 10 ^ 42
def spRoundText (K : PySem.W.Frag) : Sp := fun vs H Q _ => ∃ (lv fin : Int) (t : Addr) (ls : List (Int × Int)), vs = [.int lv, .ref t, .int fin] ∧ Fit lv ls fin ∧ PicAt K H t ls ∧ ∀ H', Same H H' → Q (.str (sheetS lv ls fin)) H'
section
variable {P : Program} {w : World} {K : PySem.W.Frag} {mg : Str → Option Value} {base : Heap}
theorem scRoundText : FnScope ["levels", "lamps", "end", "words", "place", "level"] ["levels", "lamps", "end"] (defScope sRoundText) := ⟨rfl, rfl, rfl, by decide +kernel, rfl, by decide +kernel, by decide +kernel⟩
section
variable {σ : L2.St} {H : Hp} {te : TE} {ts : List TE} {acc y : Str} {i : Int} {Q : Str → Hp → Prop}
theorem js_c (hl : (acc ++ y).length ≤ sizeLine) (k : tJs ts (acc ++ y) σ H Q) : tJs (tC (.str y) :: ts) acc σ H Q := ⟨y, rfl, hl, k⟩
theorem js_i (h : Val te σ H (.int i)) (hi : i.natAbs < 10 ^ 42) (hl : (acc ++ nS i).length ≤ sizeLine) (k : tJs ts (acc ++ nS i) σ H Q) : tJs (tFmt te :: ts) acc σ H Q := h _ (.inr ⟨i, rfl, fits_log hi, _, rfl, hl, k⟩)
theorem js_s (h : Val te σ H (.str y)) (hy : y.length ≤ sizeLine) (hl : (acc ++ y).length ≤ sizeLine) (k : tJs ts (acc ++ y) σ H Q) : tJs (tFmt te :: ts) acc σ H Q := h _ (.inl ⟨y, rfl, hy, _, rfl, hl, k⟩)
end
/-- the texts one behind the other, as a value -/
def tJ (ts : List TE) : TE := fun σ H Q => tJs ts Str.empty σ H fun out H1 => Q (.str out) H1
theorem pe_js {X : Cx} {v1 v2 : Expr} {rest : List Expr} {ts : List TE} {pos : Pos} (h : PJ X (v1 :: v2 :: rest) ts) : PE X (.JoinedStr (v1 :: v2 :: rest) pos) (tJ ts) := pe_joined h
theorem ok_roundText {f : Addr} {fd : FuncData} (F : Fun K "round_text" "round_text" sRoundText f fd) : FnOk P w K mg base CX0 1 f fd ["levels", "lamps", "end"] (spRoundText K) := by
  refine F.ok scRoundText (fun vs H Q E h => ?_) (fun cdv A outer s H vs Q E hr h => ?_)
  · obtain ⟨lv, fin, t, ls, rfl, _⟩ := h
    rfl
  · obtain ⟨lv, fin, t, ls, rfl, hf, hp, q⟩ := h
    obtain ⟨as, ht, hlen, hat⟩ := pair_get hp
    have e1 := nS_lenW hf.lv
    have e2 := nS_lenW hf.fin
    have few := hf.few
    refine ⟨_, pss_cons (ps_if (pt_not (pt_truth (pv 1) (fun _ => rfl))) (pss_one (ps_ret (pe_js (.cons pe_str (.cons (pe_fmt (pv 0)) (.cons pe_str (.cons (pe_fmt (pv 2)) (.cons pe_str .nil)))))))) pss_nil)
      (pss_cons (ps_set (i := 3) scRoundText.nd rfl (.inl rfl) (pe_join pe_str (pe_lc (own := [("place", 4), ("level", 5)]) (g := gTup K 2 (gCons (gName 4) (gCons (gName 5) gNil))) (tt := tYes) rfl scRoundText.nd (pi_tup (pv 1))
          (blkOk_by (own := [("place", 4), ("level", 5)]) (N := ["levels", "lamps", "end", "words", "place", "level"]) (sc := defScope sRoundText) (by decide +kernel))
          (fun _ _ _ _ _ => pg_tup rfl (pgs_cons (pg_name (i := 4) scRoundText.nd rfl (Or.inl rfl)) (pgs_cons (pg_name (i := 5) scRoundText.nd rfl (Or.inl rfl)) pgs_nil))) (fun _ _ _ _ _ => pts_nil)
          (fun _ _ _ _ _ => pe_js (.cons (pe_fmt (pv 4)) (.cons pe_str (.cons (pe_fmt (pv 5)) .nil)))))))
      (pss_one (ps_ret (pe_js (.cons pe_str (.cons (pe_fmt (pv 0)) (.cons pe_str (.cons (pe_fmt (pv 2)) (.cons pe_str (.cons (pe_fmt (pv 3)) .nil)))))))))), ?_⟩
    have c0 : (Str.empty).length = 0 := rfl
    have c1 : ("levels " : Str).length = 7 := rfl
    have c2 : (" end " : Str).length = 5 := rfl
    have c3 : (" dark" : Str).length = 5 := rfl
    have c4 : (" lamps " : Str).length = 7 := rfl
    have c5 : (":" : Str).length = 1 := rfl
    cases ls with
    | nil =>
      have ea : as = [] := List.length_eq_zero_iff.mp hlen
      subst ea
      refine sq_yes (ans_not (b := false) (ans_tru (x := .ref t) (val_var rfl) (.inr (.inl ⟨_, .inl ht, rfl⟩)))) ?_
      refine js_c (by simp only [len_app]; exact le_lineW (by omega)) (js_i (val_var rfl) hf.lv (by simp only [len_app]; exact le_lineW (by omega)) (js_c (by simp only [len_app]; exact le_lineW (by omega))
        (js_i (val_var rfl) hf.fin (by simp only [len_app]; exact le_lineW (by omega)) (js_c (by simp only [len_app]; exact le_lineW (by omega)) ?_))))
      show Q (.str _) H
      rw [sheet_dark]
      exact q H (Same.refl H)
    | cons l r =>
      have el : (as.map V.ref).isEmpty = false := by
        cases as with
        | nil => cases hlen
        | cons _ _ => rfl
      refine sq_no (ans_not (b := true) (ans_tru (x := .ref t) (val_var rfl) (.inr (.inl ⟨_, .inl ht, by rw [el]; rfl⟩)))) ?_
      refine ⟨⟨_, rfl⟩, _, rfl, t, rfl, ⟨_, .inl ht⟩, fun D hD => ?_⟩
      refine lc_tup (K := K) (a := t) (xs := as.map V.ref) (fun i H' => Same H H' ∧ H' D = some (.lst ((((l :: r).take i).map lampS).map V.str))) ⟨same_of hD, upd_same⟩ (fun i H' _ z => .inl (rd_same ht z.1)) (fun i x H' hi z => ?_) (fun H' z => ?_)
      · obtain ⟨sb, hl⟩ := z
        rw [List.getElem?_map] at hi
        cases ea : as[i]? with
        | none => rw [ea] at hi; cases hi
        | some a =>
          rw [ea] at hi
          have ex : x = V.ref a := (Option.some.inj hi).symm
          subst ex
          have li : i < (l :: r).length := by
            rw [← hlen]
            exact (List.getElem?_eq_some_iff.mp ea).1
          have eq := List.getElem?_eq_getElem li
          have ha := sb _ _ (hat i a _ ea eq)
          have fq := hf.all _ (List.getElem_mem li)
          have f1 := nS_lenW fq.1
          have f2 := nS_lenW fq.2
          refine ⟨a, _, rfl, SqT.of ha, rfl, _, _, rfl, _, _, rfl, rfl, rfl, ?_⟩
          refine js_i (val_var rfl) fq.1 (by simp only [len_app]; exact le_lineW (by omega)) (js_c (by simp only [len_app]; exact le_lineW (by omega)) (js_i (val_var rfl) fq.2 (by simp only [len_app]; exact le_lineW (by omega)) ?_))
          refine ⟨_, hl, ?_, fun b o e => ?_, ?_⟩
          · rw [List.length_map, List.length_map, List.length_take]
            exact small1000 (by omega)
          · have nb : b ≠ D := fun z => by rw [z, hD] at e; cases e
            rw [upd_ne nb]
            exact sb _ _ e
          · rw [upd_same, List.take_add_one, eq, List.map_append, List.map_append, empty_app]
            rfl
      · obtain ⟨sb, hl⟩ := z
        rw [List.length_map, hlen, List.take_length] at hl
        have jl := joined_len hf.all
        refine ⟨_, D, (l :: r).map lampS, rfl, rfl, .inl (SqL.of hl), ?_, ?_⟩
        · have h1 := lampsum hf.all
          have h2 : (" " : Str).length = 1 := rfl
          rw [h2]
          simp only [List.length_map]
          omega
        · refine js_c (by simp only [len_app]; exact le_lineW (by omega)) (js_i (val_var rfl) hf.lv (by simp only [len_app]; exact le_lineW (by omega)) (js_c (by simp only [len_app]; exact le_lineW (by omega))
            (js_i (val_var rfl) hf.fin (by simp only [len_app]; exact le_lineW (by omega)) (js_c (by simp only [len_app]; exact le_lineW (by omega)) (js_s (y := Txt.join (" " : Str) ((l :: r).map lampS)) (val_var rfl) (le_lineW (by omega)) (by simp only [len_app]; exact le_lineW (by omega)) ?_)))))
          show Q (.str _) H'
          rw [sheet_lamps]
          exact q H' sb
end
end Lamp
set_option Elab.async false
set_option linter.all false
set_option maxRecDepth 100000
set_option maxHeartbeats 1000000
namespace Lamp
open PySem PySem.Spec PyProof.Rows L2
open TL (tl tl_append ext_tl numL tl_ofString len_tl)
/-! the texts' signs, the texts as data -/
def Asc (x : Str) : Prop := ∀ c ∈ tl x, c < 128
theorem asc_ok {x : Str} (h : Asc x) : PyData.strOk x = true := by
  unfold PyData.strOk
  rw [all_tl, List.all_eq_true]
  intro c hc
  have := h c hc
  exact decide_eq_true (by omega)
theorem asc_nS (i : Int) : Asc (nS i) := fun c hc => by
  rcases nS_sign hc with e | e <;> omega
theorem asc_app {x y : Str} (h1 : Asc x) (h2 : Asc y) : Asc (x ++ y) := fun c hc => by
  rw [tl_append] at hc
  rcases List.mem_append.mp hc with h | h
  · exact h1 c h
  · exact h2 c h
theorem asc_lampS (q : Int × Int) : Asc (lampS q) := asc_app (asc_app (asc_nS _) (by intro c hc; revert c; decide)) (asc_nS _)
theorem asc_tailWs {ls : List (Int × Int)} : ∀ x ∈ tailWs ls, Asc x := fun x hx => by
  cases ls with
  | nil =>
    rw [List.mem_singleton.mp (show x ∈ [("dark" : Str)] from hx)]
    intro c hc; revert c; decide
  | cons l r =>
    rcases List.mem_cons.mp hx with h | h
    · rw [h]
      intro c hc; revert c; decide
    · obtain ⟨q, _, rfl⟩ := List.mem_map.mp h
      exact asc_lampS q
theorem asc_joinL : ∀ {ps : List (List Nat)}, (∀ p ∈ ps, ∀ c ∈ p, c < 128) → ∀ c ∈ TL.joinL [32] ps, c < 128
  | [], _, c, hc => by cases hc
  | [p], h, c, hc => h p (List.mem_singleton.mpr rfl) c hc
  | p :: q :: r, h, c, hc => by
    rcases List.mem_append.mp (show c ∈ p ++ ([32] ++ TL.joinL [32] (q :: r)) from hc) with h1 | h1
    · exact h p (List.mem_cons_self ..) c h1
    · rcases List.mem_append.mp h1 with h2 | h2
      · rw [List.mem_singleton.mp h2]; decide
      · exact asc_joinL (fun z hz => h z (List.mem_cons_of_mem _ hz)) c h2
theorem asc_words {lv : Int} {ls : List (Int × Int)} {fin : Int} : ∀ x ∈ wordsS lv ls fin, Asc x := fun x hx => by
  unfold wordsS at hx
  rcases List.mem_append.mp hx with h | h
  · simp only [List.mem_cons, List.not_mem_nil, or_false] at h
    rcases h with rfl | rfl | rfl | rfl
    · intro c hc; revert c; decide
    · exact asc_nS _
    · intro c hc; revert c; decide
    · exact asc_nS _
  · exact asc_tailWs x h
theorem asc_sheet (lv : Int) (ls : List (Int × Int)) (fin : Int) : Asc (sheetS lv ls fin) := fun c hc => by
  rw [tl_sheet] at hc
  refine asc_joinL (fun p hp d hd => ?_) c hc
  obtain ⟨x, hx, rfl⟩ := List.mem_map.mp hp
  exact asc_words x hx d hd
def strsD (xs : List Str) : List PyData := xs.map PyData.str
def pairD (q : Int × Int) : PyData := .tuple [.int q.1, .int q.2]
theorem lay_strs : ∀ {xs : List Str}, (∀ x ∈ xs, Asc x) → PyData.canLayAll0 (strsD xs) = true ∧ PyData.depthAll (strsD xs) = 0
  | [], _ => ⟨rfl, rfl⟩
  | x :: xs, h => by
    obtain ⟨h1, h2⟩ := lay_strs (xs := xs) fun y hy => h y (List.mem_cons_of_mem _ hy)
    refine ⟨?_, ?_⟩
    · show (PyData.canLay0 (.str x) && PyData.canLayAll0 (strsD xs)) = true
      rw [h1, Bool.and_true]
      exact asc_ok (h x (List.mem_cons_self ..))
    · show max 0 (PyData.depthAll (strsD xs)) = 0
      rw [h2]
      rfl
theorem lay_pairs : ∀ (ls : List (Int × Int)), PyData.canLayAll0 (ls.map pairD) = true ∧ PyData.depthAll (ls.map pairD) ≤ 1
  | [] => ⟨rfl, Nat.zero_le _⟩
  | q :: r => by
    obtain ⟨h1, h2⟩ := lay_pairs r
    refine ⟨?_, ?_⟩
    · show (PyData.canLay0 (pairD q) && PyData.canLayAll0 (r.map pairD)) = true
      rw [h1, Bool.and_true]
      rfl
    · show max (PyData.depth (pairD q)) (PyData.depthAll (r.map pairD)) ≤ 1
      have e : PyData.depth (pairD q) = 1 := rfl
      rw [e]
      omega
theorem shaped_strs {xs : List Str} (h : ∀ x ∈ xs, Asc x) : SeqAt.shaped (.list (strsD xs)) = true := by
  obtain ⟨h1, h2⟩ := lay_strs h
  unfold SeqAt.shaped
  rw [Bool.and_eq_true]
  refine ⟨h1, decide_eq_true ?_⟩
  show PyData.depthAll (strsD xs) + 1 ≤ 64
  omega
theorem shaped_pairs (ls : List (Int × Int)) : SeqAt.shaped (.list (ls.map pairD)) = true ∧ SeqAt.shaped (.tuple (ls.map pairD)) = true := by
  obtain ⟨h1, h2⟩ := lay_pairs ls
  unfold SeqAt.shaped
  rw [Bool.and_eq_true, Bool.and_eq_true]
  refine ⟨⟨h1, decide_eq_true ?_⟩, ⟨h1, decide_eq_true ?_⟩⟩
  · show PyData.depthAll (ls.map pairD) + 1 ≤ 64
    omega
  · show PyData.depthAll (ls.map pairD) + 1 ≤ 64
    omega
theorem dp_strs {K : PySem.W.Frag} {H : Hp} : ∀ (xs : List Str), DpAll K H (xs.map V.str) (strsD xs)
  | [] => .nil
  | x :: xs => .cons (.str x) (dp_strs xs)
theorem dp_pairs {K : PySem.W.Frag} {H : Hp} : ∀ {as : List Addr} {ls : List (Int × Int)}, Paired (fun a (q : Int × Int) => H a = some (.tup [.int q.1, .int q.2])) as ls → DpAll K H (as.map V.ref) (ls.map pairD)
  | _, _, .nil => .nil
  | _, _, .cons h t => .cons (.tup (SqT.of h) (.cons (.int _) (.cons (.int _) .nil))) (dp_pairs t)
theorem dp_pic {K : PySem.W.Frag} {H : Hp} {t : Addr} {ls : List (Int × Int)} (h : PicAt K H t ls) : Dp K H (.ref t) (.tuple (ls.map pairD)) := by
  obtain ⟨as, h1, h2⟩ := h
  exact .tup (.inl h1) (dp_pairs h2)
section
variable {P : Program} {w : World} {K : PySem.W.Frag} {mg : Str → Option Value} {base : Heap}
end
end Lamp
set_option Elab.async false
set_option linter.all false
set_option maxRecDepth 100000
set_option maxHeartbeats 1000000
namespace Lamp
open PySem PySem.Spec PyProof.Rows L2
/-! len, str, repr, bool of an instance by its own methods -/
/-- the class at C has m as a def at f that keeps sp -/
structure OwnM (P : Program) (w : World) (K : PySem.W.Frag) (mg : Str → Option Value) (base : Heap) (C : Addr) (m : Str) (sp : Sp) (k : Nat) : Prop where
  ex : ∃ (f : Addr) (fd : FuncData), PySem.W.findIn K (.ref C) m = some (some (.ref f)) ∧ PySem.W.isFn K (.ref f) = true ∧ FnOk P w K mg base CX0 k f fd ["self"] sp ∧ Binds K fd ["self"] []
section
variable {X : Cx} {pins : List (Addr × Obj)} {σ : L2.St} {H : Hp} {s : Shared} {Q : VK} {a f : Addr} {k : Nat} {sp : Sp} {fd : FuncData} {A' : Around}
theorem run_self (F : FnOk X.prog X.w X.K X.mg X.base CX0 k f fd ["self"] sp) (hr : Room k A') (hf : A'.frames = X.A.frames) (hb : Binds X.K fd ["self"] []) (I : Inv X pins σ H s) (h : sp [.ref a] H Q E0) :
    wpAny (model X.prog X.w) A' (call (.ref f) [.ref a]) (EP X pins σ Q) X.xe s := by
  have e0 := I.env0
  have e1 : Env0 X.prog X.w X.K X.mg X.base A' X.stack s H := ⟨hf.trans e0.frames, e0.mod, e0.bs, e0.bsz, e0.funs, e0.frf, e0.hok, e0.bare⟩
  have bb := hb s [.ref a] I.kIn rfl
  refine wpAny_call (codeAny_mono (F.run A' X.stack s H ⟨[.ref a], []⟩ [.ref a] [.ref a] Q E0 hr e1 bb (.cons (show RelV (V.ref a) (Value.ref a) from rfl) .nil) h) fun res s' told => ?_)
  match res, told with
  | .error _, told => exact False.elim told
  | .ok (.ret u), told => exact I.after told
  | .ok .next, told => exact False.elim told
  | .ok .brk, told => exact False.elim told
  | .ok .cont, told => exact False.elim told
theorem ins_inst {C dx : Addr} {fs : List (Str × V)} (I : Inv X pins σ H s) (h : H a = some (.ins C dx fs)) : ∃ od, PySem.W.InstAt s.heap a (PySem.W.instObj C dx) C (some od) := by
  obtain ⟨mA, O, _⟩ := ins_get I.hok h
  obtain ⟨od, J, _⟩ := O.look
  exact ⟨od, J⟩
end
section
variable {X : Cx} {C : Addr} {sp : Sp} {k : Nat}
/-- the reading of such a call: what the method hands back, as ok says, is the answer -/
def rOwn (C : Addr) (sp : Sp) (ok : V → Prop) : List V → Hp → VK → Prop := fun xs H Q => ∃ (a dx : Addr) (fs : List (Str × V)), xs = [.ref a] ∧ H a = some (.ins C dx fs) ∧ sp [.ref a] H (fun v H' => ok v ∧ Q v H') E0
def okLen (v : V) : Prop := ∃ n : Int, v = .int n ∧ 0 ≤ n ∧ n < 2 ^ 63
def okStr (v : V) : Prop := ∃ x : Str, v = .str x
def okBool (v : V) : Prop := ∃ b : Bool, v = .bl b
theorem call_lenO (Z : OwnM X.prog X.w X.K X.mg X.base C "__len__" sp k) (hr : Room (k + 1) X.A) : CallR X (.builtin "len") (rOwn C sp okLen) := by
  intro pins s σ H xs us Q I r h
  obtain ⟨a, dx, fs, rfl, ha, hs⟩ := h
  obtain ⟨f, fd, h1, h2, F, b⟩ := Z.ex
  have e := Vals.ref1 r
  subst e
  obtain ⟨od, J⟩ := ins_inst I ha
  obtain ⟨m, fr⟩ := I.fr
  refine PySem.W.len_K fr I.ok.mod.kin J h1 h2 (wpAny_mono (run_self F hr.in1 rfl b I hs) (fun u s' told => ?_) fun _ _ z => z)
  obtain ⟨v, H1, I1, rv, ⟨n, ev, n0, n1⟩, q⟩ := told
  subst ev
  obtain ⟨t, eu⟩ := rv
  subst eu
  exact ⟨⟨n0, n1⟩, ⟨.int n, H1, I1.tok _, ⟨_, rfl⟩, q⟩⟩
theorem call_reprO (Z : OwnM X.prog X.w X.K X.mg X.base C "__repr__" sp k) (hr : Room (k + 1) X.A) : CallR X (.builtin "repr") (rOwn C sp okStr) := by
  intro pins s σ H xs us Q I r h
  obtain ⟨a, dx, fs, rfl, ha, hs⟩ := h
  obtain ⟨f, fd, h1, h2, F, b⟩ := Z.ex
  have e := Vals.ref1 r
  subst e
  obtain ⟨od, J⟩ := ins_inst I ha
  obtain ⟨m, fr⟩ := I.fr
  refine PySem.W.repr_K hr.in1.units0 fr I.ok.mod.kin J h1 h2 (wpAny_mono (run_self F hr.in1 rfl b I hs) (fun u s' told => ?_) fun _ _ z => z)
  obtain ⟨v, H1, I1, rv, ⟨x, ev⟩, q⟩ := told
  subst ev
  obtain ⟨t, eu⟩ := rv
  subst eu
  exact ⟨.str x, H1, I1, ⟨_, rfl⟩, q⟩
theorem call_strO (Z : OwnM X.prog X.w X.K X.mg X.base C "__str__" sp k) (hr : Room (k + 2) X.A) : CallR X (.type "str") (rOwn C sp okStr) := by
  intro pins s σ H xs us Q I r h
  obtain ⟨a, dx, fs, rfl, ha, hs⟩ := h
  obtain ⟨f, fd, h1, h2, F, b⟩ := Z.ex
  have e := Vals.ref1 r
  subst e
  obtain ⟨od, J⟩ := ins_inst I ha
  refine PySem.W.kso_call hr.in1.in1.units0 I.kIn J h1 h2 (wpAny_mono (run_self F hr.in1.in1 rfl b I hs) (fun u s' told => ?_) fun _ _ z => z)
  obtain ⟨v, H1, I1, rv, ⟨x, ev⟩, q⟩ := told
  subst ev
  obtain ⟨t, eu⟩ := rv
  subst eu
  exact ⟨.str x, H1, I1, ⟨_, rfl⟩, q⟩
theorem call_boolO (Z : OwnM X.prog X.w X.K X.mg X.base C "__bool__" sp k) (hr : Room (k + 2) X.A) : CallR X (.type "bool") (rOwn C sp okBool) := by
  intro pins s σ H xs us Q I r h
  obtain ⟨a, dx, fs, rfl, ha, hs⟩ := h
  obtain ⟨f, fd, h1, h2, F, b⟩ := Z.ex
  have e := Vals.ref1 r
  subst e
  obtain ⟨od, J⟩ := ins_inst I ha
  obtain ⟨m, fr⟩ := I.fr
  refine callType_codes (T := "bool") (Bi := Builtin.«object.__init__») (Q₁ := fun r s₁ => ∃ y, r = .bool y ∧ EP X pins σ Q r s₁) PySem.F.called_bool (PySem.F.typeCall_bool_1 _) PySem.F.entry_object_init ?_ ?_
  · refine codeAny_of_tree ?_
    show wpAny _ X.A.in1.in1 (do checkBuiltinCall "bool.__new__" ⟨[.type "bool", .ref a], []⟩; again (.builtin "bool.__new__" ⟨[.type "bool", .ref a], []⟩)) _ _ s
    refine PySem.wpAny_bind (wpAny_of_eq (PySem.F.newCall_bool_1 _) (PySem.wpAny_pure ⟨plainId_quiet (by decide +kernel) _, codeAny_builtin PySem.F.entry_bool_new ?_⟩))
    rw [Around.under_plainId (by decide +kernel) _]
    refine PySem.wpAny_bind (PySem.wpAny_pure ?_)
    refine PySem.wpAny_bind (wpAny_of_eq PySem.F.conv_sub_bool ?_)
    refine PySem.wpAny_bind (PySem.wpAny_pure ?_)
    refine PySem.wpAny_bind (PySem.W.truthy_K fr I.ok.mod.kin J h1 h2 (wpAny_mono (run_self F hr.in1.in1 rfl b I hs) (fun u s' told => ?_) fun _ _ z => z))
    obtain ⟨v, H1, I1, rv, ⟨x, ev⟩, q⟩ := told
    subst ev
    have eu : u = Value.bool x := rv
    subst eu
    exact PySem.wpAny_pure ⟨x, rfl, .bl x, H1, I1, rfl, q⟩
  · rintro obj s₁ ⟨y, rfl, hq⟩
    exact ⟨rfl, PySem.F.args_object_init_2 _ _, object_init_meets PySem.F.called_bool.init.lookup PySem.F.called_bool.made (by decide) X.prog X.w X.A.in1 _ s₁ ⟨rfl, rfl, hq⟩⟩
end
end Lamp
set_option Elab.async false
set_option linter.all false
set_option maxRecDepth 100000
set_option maxHeartbeats 1000000
namespace Lamp
open PySem PySem.Spec PyProof.Rows L2
abbrev sRound : Stmt := top 26
abbrev sInit : Stmt := inClass sRound 0
abbrev sRead : Stmt := inClass sRound 1
/-! rounds as objects -/
def fldR (lv : Int) (t : Addr) (fin : Int) : List (Str × V) := [("_levels", .int lv), ("_lamps", .ref t), ("_end", .int fin)]
/-- at a: the round with these parts, its picture at t -/
def RoundAt (C : Addr) (H : Hp) (a : Addr) (lv : Int) (t : Addr) (fin : Int) : Prop := ∃ dx, H a = some (.ins C dx (fldR lv t fin))
theorem RoundAt.same {C : Addr} {H H' : Hp} {a t : Addr} {lv fin : Int} (h : RoundAt C H a lv t fin) (e : Same H H') : RoundAt C H' a lv t fin := by
  obtain ⟨dx, h⟩ := h
  exact ⟨dx, e _ _ h⟩
/-- what of the text the class must have -/
structure RCls (K : PySem.W.Frag) (C : Addr) : Prop where
  cl : Cls K C
  n1 : NoAttr K C "_levels"
  n2 : NoAttr K C "_lamps"
  n3 : NoAttr K C "_end"
def spInitR (K : PySem.W.Frag) (C : Addr) : Sp := fun vs H Q _ => ∃ (a t : Addr) (lv fin : Int) (dx : Addr) (ls : List (Int × Int)), vs = [.ref a, .int lv, .ref t, .int fin] ∧ H a = some (.ins C dx []) ∧ goodLv lv ∧ PicAt K H t ls ∧ IsPicW lv ls ∧
  ∀ H', But a H H' → H' a = some (.ins C dx (fldR lv t fin)) → Q .non H'
section
variable {P : Program} {w : World} {K : PySem.W.Frag} {mg : Str → Option Value} {base : Heap} {C : Addr}
theorem scInit : FnScope ["self", "levels", "lamps", "end", "index"] ["self", "levels", "lamps", "end"] (defScope sInit) := ⟨rfl, rfl, rfl, by decide +kernel, rfl, by decide +kernel, by decide +kernel⟩
theorem ok_initR {f : Addr} {fd : FuncData} {t1 : Tok} (F : Fun K "__init__" "Round.__init__" sInit f fd) (R : RCls K C) (Ii : Dr P w K mg base spIsInt "is_integer" ["value"] 1) (Il : Dr P w K mg base spIsLevels "is_levels" ["value"] 2)
    (Wr : Dr P w K mg base (spWrong K) "wrong_lamp" ["levels", "lamps"] 3) (mML : mg "MOST_LAMPS" = some (.int 400 t1)) (mis : mg "isinstance" = none) (mt : mg "tuple" = none) (ml : mg "len" = none) :
    FnOk P w K mg base CX0 4 f fd ["self", "levels", "lamps", "end"] (spInitR K C) := by
  refine F.ok scInit (fun vs H Q E h => ?_) (fun cdv A outer s H vs Q E hr h => ?_)
  · obtain ⟨a, t, lv, fin, dx, ls, rfl, _⟩ := h
    rfl
  · obtain ⟨a, t, lv, fin, dx, ls, rfl, ha, hg, hp, hi, q⟩ := h
    obtain ⟨as, ht, hlen, hat⟩ := pair_get hp
    have few := hi.few
    refine ⟨_, pss_cons (ps_if (pt_not (pt_val (pe_dr Il (by decide) hr rfl (pa_cons (pv 1) pa_nil)))) pss_never pss_nil)
      (pss_cons (ps_if (pt_not (pt_val (pe_callB call_isi (by rfl) mis (by decide +kernel) (pa_cons (pv 2) (pa_cons (pe_bltn (v := .ty "tuple") (by rfl) mt (by decide +kernel) rfl) pa_nil))))) pss_never pss_nil)
      (pss_cons (ps_set (i := 4) scInit.nd rfl (.inl rfl) (pe_dr Wr (Nat.le_refl _) hr rfl (pa_cons (pv 1) (pa_cons (pe_slice (r := rSlA K) sl_tupA (pv 2) po_none (po_some (pe_glob (v := .int 400) rfl mML ⟨_, rfl⟩))) pa_nil))))
      (pss_cons (ps_if (pt_cmpR op_notN1 (pv 4) pe_non (nomark _)) pss_never pss_nil)
      (pss_cons (ps_if (pt_cmpR op_gt (pe_callB call_len_seq (by rfl) ml PySem.boot_len (pa_cons (pv 2) pa_nil)) (pe_glob (v := .int 400) rfl mML ⟨_, rfl⟩) (nomark _)) pss_never pss_nil)
      (pss_cons (ps_if (pt_not (pt_val (pe_dr Ii (by decide) hr rfl (pa_cons (pv 3) pa_nil)))) pss_never pss_nil)
      (pss_cons (ps_fld (pv 0) (pv 1) (by rfl)) (pss_cons (ps_fld (pv 0) (pv 2) (by rfl)) (pss_one (ps_fld (pv 0) (pv 3) (by rfl)))))))))), ?_⟩
    refine sq_no (ans_not (b := true) (ans_val fun Q q => ⟨_, rfl, lv, rfl, hg, q⟩)) ?_
    refine sq_no (ans_not (b := true) (ans_val fun Q q => ⟨_, rfl, isi_tR ht q⟩)) ?_
    refine ⟨_, rfl, _, rfl, 400, rfl, t, _, rfl, .inl ht, fun _ => ?_, fun hn => absurd ⟨rfl, ?_⟩ hn⟩
    · refine ⟨lv, t, ls, rfl, hp, hi, fun H1 s1 => ?_⟩
      refine sq_no (ans_notN (x := .non) (val_var rfl) (by rw [decide_eq_true rfl]; rfl)) ?_
      refine sq_no (an_gt (x := ((as.map V.ref).length : Nat)) (fun Q q => ⟨_, rfl, t, _, rfl, .inr (.inl (rd_same ht s1)), q⟩) val_c ?_) ?_
      · rw [List.length_map]
        exact decide_eq_false (by omega)
      refine sq_no (ans_not (b := true) (ans_val fun Q q => ⟨_, rfl, fin, rfl, q⟩)) ?_
      refine st_seq (st_fld (y := .int lv) (val_var rfl) (val_var rfl) (s1 _ _ ha) R.cl R.n1 (by show 0 < 1000; decide) ?_)
      refine st_seq (st_fld (y := .ref t) (val_var rfl) (val_var rfl) upd_same R.cl R.n2 (by show 1 < 1000; decide) ?_)
      refine st_fld (y := .int fin) (val_var rfl) (val_var rfl) upd_same R.cl R.n3 (by show 2 < 1000; decide) ?_
      exact q _ (((But.of s1).trans But.at).trans (But.at.trans But.at)) upd_same
    · rw [List.length_map, show (some (400 : Int)) = some ((400 : Nat) : Int) from rfl, HT.sIx_nat]
      omega
end
end Lamp
set_option Elab.async false
set_option linter.all false
set_option maxRecDepth 100000
set_option maxHeartbeats 1000000
namespace Lamp
open PySem PySem.Spec PyProof.Rows L2
open TL (tl tl_append ext_tl numL tl_ofString len_tl)
/-! making rounds -/
/-- the class made with three values: what is told of it -/
structure MkR (P : Program) (w : World) (K : PySem.W.Frag) (mg : Str → Option Value) (base : Heap) (C : Addr) : Prop where
  ex : ∃ (f : Addr) (fd : FuncData), Mk K C f ∧ FnOk P w K mg base CX0 4 f fd ["self", "levels", "lamps", "end"] (spInitR K C) ∧ Binds K fd ["self", "levels", "lamps", "end"] [] ∧
    ∀ (s : Shared) (x u1 u2 u3 : Value), BindsTo s fd ⟨[x], [("end", u1), ("levels", u2), ("lamps", u3)]⟩ [("self", x), ("levels", u2), ("lamps", u3), ("end", u1)]
def rMkR (K : PySem.W.Frag) (C : Addr) (lv : Int) (t : Addr) (fin : Int) (H : Hp) (Q : VK) : Prop := ∃ ls : List (Int × Int), goodLv lv ∧ PicAt K H t ls ∧ IsPicW lv ls ∧ ∀ a H', Same H H' → H a = none → RoundAt C H' a lv t fin → Q (.ref a) H'
theorem mk_init {K : PySem.W.Frag} {C : Addr} {lv fin : Int} {t : Addr} {H : Hp} {Q : VK} (h : rMkR K C lv t fin H Q) {x dx : Addr} (hx : H x = none) (hd : H dx = none) (hne : dx ≠ x) :
    spInitR K C [.ref x, .int lv, .ref t, .int fin] (upd (upd H dx (.own x)) x (.ins C dx [])) (fun v H2 => v = .non ∧ Q (.ref x) H2) E0 := by
  obtain ⟨ls, hg, hp, hi, q⟩ := h
  have s1 : Same H (upd (upd H dx (.own x)) x (.ins C dx [])) := fun b o e => by rw [upd_ne (ne_of_none e hx), upd_ne (ne_of_none e hd)]; exact e
  refine ⟨x, t, lv, fin, dx, ls, rfl, upd_same, hg, hp.same s1, hi, fun H' bt hr => ⟨rfl, q x H' (fun b o e => ?_) hx ⟨dx, hr⟩⟩⟩
  exact bt b o (ne_of_none e hx) (s1 b o e)
/-- Round(a, b, c) -/
def tMkR (K : PySem.W.Frag) (C : Addr) (ta : TA) : TE := fun σ H Q => ta σ H fun vs H1 => ∃ (lv : Int) (t : Addr) (fin : Int), vs = [.int lv, .ref t, .int fin] ∧ rMkR K C lv t fin H1 Q
section
variable {X : Cx} {C : Addr} {x : Str} {e : Expr} {es : List Expr} {ta tk : TA} {p pos : Pos} {kws : List Keyword} {i : Nat}
theorem pe_mkR (Z : MkR X.prog X.w X.K X.mg X.base C) (hr : Room 5 X.A) (hg : Gl X x) (hm : X.mg x = some (.ref C)) (ha : PA X (e :: es) ta) (hdb : (x == ("__debug__" : Str)) = false := by decide)
    (he : starEach (e :: es) X.env = (false, eval e X.env) :: starEach es X.env := by rfl) (hpl : (backTo pos (starEach es X.env)).any (·.1) = false := by rfl) : PE X (.Call (.Name x p) (e :: es) [] pos) (tMkR X.K C ta) := by
  obtain ⟨f, fd, M, F, b, _⟩ := Z.ex
  refine ⟨fun pins s σ H Q I h => ?_⟩
  refine wpAny_Call_Name_kw (ld_glob I hg hm ?_ hdb)
  refine PySem.W.callWith_K (h₀ := X.base) I.ok.mod.kin M.kp (thn (ha.run pos pins s σ H _ I h) fun us s1 ⟨vs, H1, I1, r, lv, t, fin, ev, q⟩ => ⟨I1.kIn, ?_⟩) he hpl
  subst ev
  exact run_make M F hr b .nil pass0 I1 r fun y dx hy hd hne => mk_init q hy hd hne
/-- cls(a, b, c), the i-th name holding the class -/
def tMkL (K : PySem.W.Frag) (C : Addr) (i : Nat) (ta : TA) : TE := fun σ H Q => σ[i]? = some (some (.ref C)) ∧ tMkR K C ta σ H Q
theorem pe_mkL (Z : MkR X.prog X.w X.K X.mg X.base C) (hr : Room 5 X.A) (hN : X.N[i]? = some x) (hv : Vis X.env.scope x) (ha : PA X (e :: es) ta) (hdb : (x == ("__debug__" : Str)) = false := by decide) (hcd : (x == ("__classdict__" : Str)) = false := by decide)
    (he : starEach (e :: es) X.env = (false, eval e X.env) :: starEach es X.env := by rfl) (hpl : (backTo pos (starEach es X.env)).any (·.1) = false := by rfl) : PE X (.Call (.Name x p) (e :: es) [] pos) (tMkL X.K C i ta) := by
  obtain ⟨f, fd, M, F, b, _⟩ := Z.ex
  refine ⟨fun pins s σ H Q I h => ?_⟩
  obtain ⟨hs, h⟩ := h
  refine wpAny_Call_Name_kw (thn ((pe_var (pos := p) hN hv hdb hcd).run pins s σ H (fun v H1 => v = .ref C ∧ H1 = H) I ⟨.ref C, hs, rfl, rfl⟩) fun u s0 ⟨v, H0, I0, r0, q0⟩ => ?_)
  obtain ⟨rfl, rfl⟩ := q0
  cases r0
  refine PySem.W.callWith_K (h₀ := X.base) I.ok.mod.kin M.kp (thn (ha.run pos pins s0 σ _ _ I0 h) fun us s1 ⟨vs, H1, I1, r, lv, t, fin, ev, q⟩ => ⟨I1.kIn, ?_⟩) he hpl
  subst ev
  exact run_make M F hr b .nil pass0 I1 r fun y dx hy hd hne => mk_init q hy hd hne
/-- Round(end=c, levels=a, lamps=b) -/
def tMkRK (K : PySem.W.Frag) (C : Addr) (tk : TA) : TE := fun σ H Q => tk σ H fun zs H1 => ∃ (lv : Int) (t : Addr) (fin : Int), zs = [.int fin, .int lv, .ref t] ∧ rMkR K C lv t fin H1 Q
def gK {α : Type} : List α → List α → List α
  | [x], [u1, u2, u3] => [x, u2, u3, u1]
  | _, _ => []
theorem three {α : Type} : ∀ {l : List α}, l.length = 3 → ∃ a b c, l = [a, b, c]
  | [a, b, c], _ => ⟨a, b, c, rfl⟩
theorem gK_rel : ∀ {vs : List V} {us : List Value} {zs : List V} {ws : List Value}, Vals vs us → Vals zs ws → Vals (gK vs zs) (gK us ws)
  | _, _, _, _, .cons r .nil, .cons r1 (.cons r2 (.cons r3 .nil)) => .cons r (.cons r2 (.cons r3 (.cons r1 .nil)))
  | _, _, _, _, .nil, _ => .nil
  | _, _, _, _, .cons _ (.cons _ _), _ => .nil
  | _, _, _, _, .cons _ .nil, .nil => .nil
  | _, _, _, _, .cons _ .nil, .cons _ .nil => .nil
  | _, _, _, _, .cons _ .nil, .cons _ (.cons _ .nil) => .nil
  | _, _, _, _, .cons _ .nil, .cons _ (.cons _ (.cons _ (.cons _ _))) => .nil
theorem pe_mkRK (Z : MkR X.prog X.w X.K X.mg X.base C) (hr : Room 5 X.A) (hg : Gl X x) (hm : X.mg x = some (.ref C)) (hkw : PK X kws tk)
    (hall : (backToKw pos (keywordEach kws X.env)).all (·.1.isSome) = true := by rfl) (hks : (backToKw pos (keywordEach kws X.env)).filterMap (·.1) = (["end", "levels", "lamps"] : List Str) := by rfl) (hdb : (x == ("__debug__" : Str)) = false := by decide)
    (hpl : ((backTo pos (starEach [] X.env)).any (·.1) || (backToKw pos (keywordEach kws X.env)).any (·.1.isNone)) = false := by rfl) : PE X (.Call (.Name x p) [] kws pos) (tMkRK X.K C tk) := by
  obtain ⟨f, fd, M, F, _, b⟩ := Z.ex
  have kb : KBn X.K fd ["self", "levels", "lamps", "end"] 1 ["end", "levels", "lamps"] gK gK := ⟨fun s us ws _ l1 l2 => by
    obtain ⟨x, rfl⟩ := List.length_eq_one_iff.mp l1
    obtain ⟨u1, u2, u3, rfl⟩ := three l2
    exact b s x u1 u2 u3, gK_rel⟩
  refine ⟨fun pins s σ H Q I h => ?_⟩
  refine wpAny_Call_Name_kw (ld_glob I hg hm ?_ hdb)
  refine PySem.W.callWith_KW0 (h₀ := X.base) I.ok.mod.kin M.kp hall ?_ hpl
  refine thn (hkw.run pos pins s σ H _ I h) fun ws s2 ⟨zs, H2, I2, rz, lv, t, fin, ev, q2⟩ => ⟨I2.kIn, ?_⟩
  subst ev
  rw [hks]
  exact run_makeK (us := []) (vs := []) M F hr kb pass0 I2 .nil rz rfl rfl fun y dx hy hd hne => mk_init q2 hy hd hne
end
def spLevels (C : Addr) : Sp := fun vs H Q _ => ∃ (a t : Addr) (lv fin : Int), vs = [.ref a] ∧ RoundAt C H a lv t fin ∧ Q (.int lv) H
def spLamps (C : Addr) : Sp := fun vs H Q _ => ∃ (a t : Addr) (lv fin : Int), vs = [.ref a] ∧ RoundAt C H a lv t fin ∧ Q (.ref t) H
def spEnd (C : Addr) : Sp := fun vs H Q _ => ∃ (a t : Addr) (lv fin : Int), vs = [.ref a] ∧ RoundAt C H a lv t fin ∧ Q (.int fin) H
def spBool : Sp := fun vs H Q _ => ∃ (a : Addr), vs = [.ref a] ∧ Q (.bl true) H
def spLen (K : PySem.W.Frag) (C : Addr) : Sp := fun vs H Q _ => ∃ (a t : Addr) (lv fin : Int) (ls : List (Int × Int)), vs = [.ref a] ∧ RoundAt C H a lv t fin ∧ PicAt K H t ls ∧ Q (.int (ls.length : Int)) H
def spText (K : PySem.W.Frag) (C : Addr) : Sp := fun vs H Q _ => ∃ (a t : Addr) (lv fin : Int) (ls : List (Int × Int)), vs = [.ref a] ∧ RoundAt C H a lv t fin ∧ PicAt K H t ls ∧ Fit lv ls fin ∧ ∀ H', Same H H' → Q (.str (sheetS lv ls fin)) H'
def reprS (n : Nat) : Str := ("Round of " : Str) ++ nS (n : Int) ++ (" lamps" : Str)
def spRepr (K : PySem.W.Frag) (C : Addr) : Sp := fun vs H Q _ => ∃ (a t : Addr) (lv fin : Int) (ls : List (Int × Int)), vs = [.ref a] ∧ RoundAt C H a lv t fin ∧ PicAt K H t ls ∧ ls.length ≤ 10 ∧ Q (.str (reprS ls.length)) H
abbrev sLevels : Stmt := inClass sRound 2
abbrev sLampsP : Stmt := inClass sRound 3
abbrev sEnd : Stmt := inClass sRound 4
abbrev sText : Stmt := inClass sRound 5
abbrev sBool : Stmt := inClass sRound 7
abbrev sLen : Stmt := inClass sRound 8
abbrev sStr : Stmt := inClass sRound 9
abbrev sRepr : Stmt := inClass sRound 10
section
variable {P : Program} {w : World} {K : PySem.W.Frag} {mg : Str → Option Value} {base : Heap} {C : Addr}
theorem scLevels : FnScope ["self"] ["self"] (defScope sLevels) := ⟨rfl, rfl, rfl, by decide +kernel, rfl, by decide +kernel, by decide +kernel⟩
theorem scLampsP : FnScope ["self"] ["self"] (defScope sLampsP) := ⟨rfl, rfl, rfl, by decide +kernel, rfl, by decide +kernel, by decide +kernel⟩
theorem scEnd : FnScope ["self"] ["self"] (defScope sEnd) := ⟨rfl, rfl, rfl, by decide +kernel, rfl, by decide +kernel, by decide +kernel⟩
theorem scText : FnScope ["self"] ["self"] (defScope sText) := ⟨rfl, rfl, rfl, by decide +kernel, rfl, by decide +kernel, by decide +kernel⟩
theorem scBool : FnScope ["self"] ["self"] (defScope sBool) := ⟨rfl, rfl, rfl, by decide +kernel, rfl, by decide +kernel, by decide +kernel⟩
theorem scLen : FnScope ["self"] ["self"] (defScope sLen) := ⟨rfl, rfl, rfl, by decide +kernel, rfl, by decide +kernel, by decide +kernel⟩
theorem scStr : FnScope ["self"] ["self"] (defScope sStr) := ⟨rfl, rfl, rfl, by decide +kernel, rfl, by decide +kernel, by decide +kernel⟩
theorem scRepr : FnScope ["self"] ["self"] (defScope sRepr) := ⟨rfl, rfl, rfl, by decide +kernel, rfl, by decide +kernel, by decide +kernel⟩
theorem v_lv {σ : L2.St} {H : Hp} {a t : Addr} {lv fin : Int} {ta : TE} (R : RCls K C) (h : Val ta σ H (.ref a)) (hr : RoundAt C H a lv t fin) : Val (tFld K ta "_levels") σ H (.int lv) := by
  obtain ⟨dx, hr⟩ := hr
  exact val_fld h hr R.cl R.n1 rfl
theorem v_la {σ : L2.St} {H : Hp} {a t : Addr} {lv fin : Int} {ta : TE} (R : RCls K C) (h : Val ta σ H (.ref a)) (hr : RoundAt C H a lv t fin) : Val (tFld K ta "_lamps") σ H (.ref t) := by
  obtain ⟨dx, hr⟩ := hr
  exact val_fld h hr R.cl R.n2 rfl
theorem v_en {σ : L2.St} {H : Hp} {a t : Addr} {lv fin : Int} {ta : TE} (R : RCls K C) (h : Val ta σ H (.ref a)) (hr : RoundAt C H a lv t fin) : Val (tFld K ta "_end") σ H (.int fin) := by
  obtain ⟨dx, hr⟩ := hr
  exact val_fld h hr R.cl R.n3 rfl
theorem ok_levels {f : Addr} {fd : FuncData} (F : Fun K "levels" "Round.levels" sLevels f fd) (R : RCls K C) : FnOk P w K mg base CX0 1 f fd ["self"] (spLevels C) := by
  refine F.ok scLevels (fun vs H Q E h => ?_) (fun cdv A outer s H vs Q E hr h => ?_)
  · obtain ⟨a, t, lv, fin, rfl, _⟩ := h
    rfl
  · obtain ⟨a, t, lv, fin, rfl, h, q⟩ := h
    exact ⟨_, pss_one (ps_ret (pe_fld (pv 0) rfl)), st_ret (v_lv R (val_var rfl) h) q⟩
theorem ok_lamps {f : Addr} {fd : FuncData} (F : Fun K "lamps" "Round.lamps" sLampsP f fd) (R : RCls K C) : FnOk P w K mg base CX0 1 f fd ["self"] (spLamps C) := by
  refine F.ok scLampsP (fun vs H Q E h => ?_) (fun cdv A outer s H vs Q E hr h => ?_)
  · obtain ⟨a, t, lv, fin, rfl, _⟩ := h
    rfl
  · obtain ⟨a, t, lv, fin, rfl, h, q⟩ := h
    exact ⟨_, pss_one (ps_ret (pe_fld (pv 0) rfl)), st_ret (v_la R (val_var rfl) h) q⟩
theorem ok_end {f : Addr} {fd : FuncData} (F : Fun K "end" "Round.end" sEnd f fd) (R : RCls K C) : FnOk P w K mg base CX0 1 f fd ["self"] (spEnd C) := by
  refine F.ok scEnd (fun vs H Q E h => ?_) (fun cdv A outer s H vs Q E hr h => ?_)
  · obtain ⟨a, t, lv, fin, rfl, _⟩ := h
    rfl
  · obtain ⟨a, t, lv, fin, rfl, h, q⟩ := h
    exact ⟨_, pss_one (ps_ret (pe_fld (pv 0) rfl)), st_ret (v_en R (val_var rfl) h) q⟩
theorem ok_bool {f : Addr} {fd : FuncData} (F : Fun K "__bool__" "Round.__bool__" sBool f fd) : FnOk P w K mg base CX0 1 f fd ["self"] spBool := by
  refine F.ok scBool (fun vs H Q E h => ?_) (fun cdv A outer s H vs Q E hr h => ?_)
  · obtain ⟨a, rfl, _⟩ := h
    rfl
  · obtain ⟨a, rfl, q⟩ := h
    exact ⟨_, pss_one (ps_ret pe_bl), st_ret val_c q⟩
theorem len_t {σ : L2.St} {H : Hp} {t : Addr} {ls : List (Int × Int)} {ta : TE} (h : Val ta σ H (.ref t)) (hp : PicAt K H t ls) : Val (tCB (fun xs H Q => ∃ p ys, xs = [.ref p] ∧ (SqL K H p ys ∨ SqT K H p ys) ∧ Q (.int ys.length) H) (tCons ta tNil)) σ H (.int (ls.length : Int)) := by
  obtain ⟨as, h1, hlen, _⟩ := pair_get hp
  intro Q q
  refine h _ ⟨t, _, rfl, .inr (.inl h1), ?_⟩
  rw [List.length_map, hlen]
  exact q
theorem ok_len {f : Addr} {fd : FuncData} (F : Fun K "__len__" "Round.__len__" sLen f fd) (R : RCls K C) (ml : mg "len" = none) : FnOk P w K mg base CX0 1 f fd ["self"] (spLen K C) := by
  refine F.ok scLen (fun vs H Q E h => ?_) (fun cdv A outer s H vs Q E hr h => ?_)
  · obtain ⟨a, t, lv, fin, ls, rfl, _⟩ := h
    rfl
  · obtain ⟨a, t, lv, fin, ls, rfl, h, hp, q⟩ := h
    exact ⟨_, pss_one (ps_ret (pe_callB call_len_seq (by rfl) ml PySem.boot_len (pa_cons (pe_fld (pv 0) rfl) pa_nil))), st_ret (len_t (v_la R (val_var rfl) h) hp) q⟩
theorem rt_callG {sp : Sp} {ta : TA} {D : Ends} {σ : L2.St} {H : Hp} {vs : List V} (h : VA ta σ H vs) (q : sp vs H D.rt E0) : tRet (tCallG sp ta) D σ H := h _ q
theorem ok_text {f : Addr} {fd : FuncData} (F : Fun K "text" "Round.text" sText f fd) (R : RCls K C) (T : Dr P w K mg base (spRoundText K) "round_text" ["levels", "lamps", "end"] 1) : FnOk P w K mg base CX0 2 f fd ["self"] (spText K C) := by
  refine F.ok scText (fun vs H Q E h => ?_) (fun cdv A outer s H vs Q E hr h => ?_)
  · obtain ⟨a, t, lv, fin, ls, rfl, _⟩ := h
    rfl
  · obtain ⟨a, t, lv, fin, ls, rfl, h, hp, hf, q⟩ := h
    refine ⟨_, pss_one (ps_ret (pe_dr T (Nat.le_refl _) hr rfl (pa_cons (pe_fld (pv 0) rfl) (pa_cons (pe_fld (pv 0) rfl) (pa_cons (pe_fld (pv 0) rfl) pa_nil))))), ?_⟩
    exact rt_callG (va_cons (v_lv R (val_var rfl) h) (va_cons (v_la R (val_var rfl) h) (va_cons (v_en R (val_var rfl) h) va_nil))) ⟨lv, fin, t, ls, rfl, hf, hp, q⟩
theorem ok_repr {f : Addr} {fd : FuncData} (F : Fun K "__repr__" "Round.__repr__" sRepr f fd) (R : RCls K C) (ml : mg "len" = none) : FnOk P w K mg base CX0 1 f fd ["self"] (spRepr K C) := by
  refine F.ok scRepr (fun vs H Q E h => ?_) (fun cdv A outer s H vs Q E hr h => ?_)
  · obtain ⟨a, t, lv, fin, ls, rfl, _⟩ := h
    rfl
  · obtain ⟨a, t, lv, fin, ls, rfl, h, hp, few, q⟩ := h
    have hn : ((ls.length : Int)).natAbs < 10 ^ 42 := by omega
    have e1 := nS_lenW hn
    have c0 : (Str.empty).length = 0 := rfl
    have c1 : ("Round of " : Str).length = 9 := rfl
    have c2 : (" lamps" : Str).length = 6 := rfl
    refine ⟨_, pss_one (ps_ret (pe_js (.cons pe_str (.cons (pe_fmt (pe_callB call_len_seq (by rfl) ml PySem.boot_len (pa_cons (pe_fld (pv 0) rfl) pa_nil))) (.cons pe_str .nil))))), ?_⟩
    refine js_c (by simp only [len_app]; exact le_lineW (by omega)) (js_i (len_t (v_la R (val_var rfl) h) hp) hn (by simp only [len_app]; exact le_lineW (by omega)) (js_c (by simp only [len_app]; exact le_lineW (by omega)) ?_))
    show Q (.str _) H
    rw [empty_app]
    exact q
/-- a property of rounds -/
structure PrR (P : Program) (w : World) (K : PySem.W.Frag) (mg : Str → Option Value) (base : Heap) (C : Addr) (x : Str) (sp : Sp) (k : Nat) : Prop where
  ex : ∃ (p g : Addr) (fd : FuncData), PropOf K C x p g ∧ FnOk P w K mg base CX0 k g fd ["self"] sp ∧ Binds K fd ["self"] []
theorem pe_prR {X : Cx} {k j : Nat} {x : Str} {sp : Sp} {e : Expr} {ta : TE} {pos : Pos} (Z : PrR X.prog X.w X.K X.mg X.base C x sp k) (R : RCls X.K C) (hk : k + 1 ≤ j) (hr : Room j X.A) (he : PE X e ta) (hab : attributeBase e x X.env (eval e X.env) = eval e X.env := by rfl) :
    PE X (.Attribute e x pos) (tProp C sp [] E0 ta) := by
  obtain ⟨p, g, fd, hp, F, b⟩ := Z.ex
  exact pe_prop he R.cl hp F (hr.mono hk) b .nil pass0 hab
theorem ok_str {f : Addr} {fd : FuncData} (F : Fun K "__str__" "Round.__str__" sStr f fd) (R : RCls K C) (T : PrR P w K mg base C "text" (spText K C) 2) (ms : mg "str" = none) : FnOk P w K mg base CX0 4 f fd ["self"] (spText K C) := by
  refine F.ok scStr (fun vs H Q E h => ?_) (fun cdv A outer s H vs Q E hr h => ?_)
  · obtain ⟨a, t, lv, fin, ls, rfl, _⟩ := h
    rfl
  · obtain ⟨a, t, lv, fin, ls, rfl, h, hp, hf, q⟩ := h
    refine ⟨_, pss_one (ps_ret (pe_callTy SkE.call_str_str (by rfl) ms (by decide +kernel) (pa_cons (pe_prR T R (Nat.le_refl _) hr (pv 0)) pa_nil))), ?_⟩
    have h' := h
    obtain ⟨dx, ha⟩ := h
    exact ⟨_, rfl, a, dx, _, rfl, ha, a, t, lv, fin, ls, rfl, h', hp, hf, fun H' s => ⟨_, rfl, q H' s⟩⟩
end
end Lamp
set_option Elab.async false
set_option linter.all false
set_option maxRecDepth 100000
set_option maxHeartbeats 1000000
namespace Lamp
open PySem PySem.Spec PyProof.Rows L2
open TL (tl tl_append ext_tl numL tl_ofString len_tl)
abbrev sSheet : Stmt := top 48
abbrev sOf : Stmt := top 49
theorem sheet_dark2 (lv fin : Int) : ("levels " : Str) ++ nS lv ++ (" end " : Str) ++ nS fin ++ (" " : Str) ++ ("dark" : Str) = sheetS lv [] fin := by
  refine ext_tl ?_
  rw [tl_sheet]
  simp only [tl_append, tl_levels, tl_end, tl_space, List.nil_append, List.append_assoc]
  rfl
theorem sheet_lamps2 (lv fin : Int) (l : Int × Int) (r : List (Int × Int)) : ("levels " : Str) ++ nS lv ++ (" end " : Str) ++ nS fin ++ (" " : Str) ++ (("lamps " : Str) ++ Txt.join (" " : Str) ((l :: r).map lampS)) = sheetS lv (l :: r) fin := by
  refine ext_tl ?_
  rw [tl_sheet]
  simp only [tl_append, tl_levels, tl_end, tl_lamps, tl_space, List.nil_append, List.append_assoc, TL.join_eq, TL.tl_join]
  rfl
def rAddS : R2 := fun x y H Q => ∃ i j, x = .str i ∧ y = .str j ∧ i.length + j.length ≤ sizeLine ∧ Q (.str (i ++ j)) H
theorem op_addS {X : Cx} : OpR X (binaryOp .Add) rAddS := op_add_str
theorem v_cat {ta tb : TE} {σ : L2.St} {H : Hp} {x y : Str} (h1 : Val ta σ H (.str x)) (h2 : Val tb σ H (.str y)) (hl : x.length + y.length ≤ sizeLine) : Val (tOp rAddS ta tb) σ H (.str (x ++ y)) := val_op h1 h2 fun Q q => ⟨x, y, rfl, rfl, hl, q⟩
theorem v_str {ta : TE} {σ : L2.St} {H : Hp} {i : Int} (h : Val ta σ H (.int i)) (hi : i.natAbs < 10 ^ 42) : Val (tCB (fun xs H Q => ∃ i, xs = [.int i] ∧ i.natAbs.log2 < 1920 ∧ Q (.str (toString i)) H) (tCons ta tNil)) σ H (.str (nS i)) := fun Q q => h _ ⟨i, rfl, fits_log hi, q⟩
theorem Parts.Ok.fit {r : Parts} (h : r.Ok) : Fit r.lv r.ls r.fin := by
  have hb : (7 : Int) ≤ big := by decide
  have hn : -big ≤ 1 := by decide
  refine ⟨fits (by rcases h.lv with e | e | e | e <;> omega) (by rcases h.lv with e | e | e | e <;> omega), fits h.lo h.hi, Nat.le_trans h.pic.few (by decide), fun q hq => ⟨fits (h.pic.pl q hq).1 (h.pic.pl q hq).2, ?_⟩⟩
  have z := h.pic.lv q hq
  exact fits (by omega) (by rcases h.lv with e | e | e | e <;> omega)
def spSheet (K : PySem.W.Frag) : Sp := fun vs H Q _ => ∃ (l t : Addr) (lv fin : Int) (ls : List (Int × Int)), vs = [.ref l] ∧ H l = some (.lst [.int lv, .ref t, .int fin]) ∧ PicAt K H t ls ∧ Fit lv ls fin ∧ ∀ H', Same H H' → Q (.str (sheetS lv ls fin)) H'
section
variable {P : Program} {w : World} {K : PySem.W.Frag} {mg : Str → Option Value} {base : Heap} {C : Addr}
theorem scSheet : FnScope ["_law_parts", "_law_p", "_law_lamps_here", "_law_last", "_law_tail", "_law_at", "_law_level"] ["_law_parts"] (defScope sSheet) := ⟨rfl, rfl, rfl, by decide +kernel, rfl, by decide +kernel, by decide +kernel⟩
theorem ok_sheet {f : Addr} {fd : FuncData} (F : Fun K "_law_sheet" "_law_sheet" sSheet f fd) (ms : mg "str" = none) : FnOk P w K mg base CX0 1 f fd ["_law_parts"] (spSheet K) := by
  refine F.ok scSheet (fun vs H Q E h => ?_) (fun cdv A outer s H vs Q E hr h => ?_)
  · obtain ⟨l, t, lv, fin, ls, rfl, _⟩ := h
    rfl
  · obtain ⟨l, t, lv, fin, ls, rfl, hl, hp, hf, q⟩ := h
    have hu := hr.units
    have few : ls.length ≤ 128 := hf.few
    replace hl : H l = some (.lst [.int lv, .ref t, .int fin]) := hl
    replace q : ∀ H', Same H H' → Q (.str (sheetS lv ls fin)) H' := q
    obtain ⟨as, ht, hlen, hat⟩ := pair_get hp
    have e1 := nS_lenW hf.lv
    have e2 := nS_lenW hf.fin
    have c1 : ("levels " : Str).length = 7 := rfl
    have c2 : (" end " : Str).length = 5 := rfl
    have c3 : ("dark" : Str).length = 4 := rfl
    have c4 : ("lamps " : Str).length = 6 := rfl
    have c5 : (":" : Str).length = 1 := rfl
    have c6 : (" " : Str).length = 1 := rfl
    refine ⟨_, pss_cons (ps_asg (pv 0) (pg_unl rfl (pgs_cons (pg_name (i := 1) scSheet.nd rfl (.inl rfl)) (pgs_cons (pg_name (i := 2) scSheet.nd rfl (.inl rfl)) (pgs_cons (pg_name (i := 3) scSheet.nd rfl (.inl rfl)) pgs_nil)))))
      (pss_cons (ps_set (i := 4) scSheet.nd rfl (.inl rfl) pe_str)
      (pss_cons (ps_if (pt_cmpR (op_neD hu) (pv 2) (pe_tup pa_nil) (nomark _))
        (pss_one (ps_set (i := 4) scSheet.nd rfl (.inl rfl) (pe_op op_addS pe_str (pe_join pe_str (pe_lc (own := [("_law_at", 5), ("_law_level", 6)]) (g := gTup K 2 (gCons (gName 5) (gCons (gName 6) gNil))) (tt := tYes) rfl scSheet.nd (pi_tup (pv 2))
          (blkOk_by (own := [("_law_at", 5), ("_law_level", 6)]) (N := ["_law_parts", "_law_p", "_law_lamps_here", "_law_last", "_law_tail", "_law_at", "_law_level"]) (sc := defScope sSheet) (by decide +kernel))
          (fun _ _ _ _ _ => pg_tup rfl (pgs_cons (pg_name (i := 5) scSheet.nd rfl (Or.inl rfl)) (pgs_cons (pg_name (i := 6) scSheet.nd rfl (Or.inl rfl)) pgs_nil))) (fun _ _ _ _ _ => pts_nil)
          (fun _ _ _ _ _ => pe_op op_addS (pe_op op_addS (pe_callTy call_str_int (by rfl) ms (by decide +kernel) (pa_cons (pv 5) pa_nil)) pe_str) (pe_callTy call_str_int (by rfl) ms (by decide +kernel) (pa_cons (pv 6) pa_nil)))))))) pss_nil)
      (pss_one (ps_ret (pe_op op_addS (pe_op op_addS (pe_op op_addS (pe_op op_addS (pe_op op_addS pe_str (pe_callTy call_str_int (by rfl) ms (by decide +kernel) (pa_cons (pv 1) pa_nil))) pe_str) (pe_callTy call_str_int (by rfl) ms (by decide +kernel) (pa_cons (pv 3) pa_nil))) pe_str) (pv 4)))))), ?_⟩
    refine ⟨_, rfl, l, _, rfl, SqL.of hl, rfl, _, _, rfl, _, _, rfl, _, _, rfl, rfl, ?_⟩
    refine sq_set (v := .str ("dark" : Str)) val_c ?_
    cases ls with
    | nil =>
      have ea : as = [] := List.length_eq_zero_iff.mp hlen
      subst ea
      refine ⟨_, rfl, le_lineW (Nat.zero_le _), fun p np => ?_⟩
      have s1 := same_of (o := .tup []) np
      refine ⟨.tuple [], .tuple [], .tup (.inl (rd_same ht s1)) .nil, .tup (SqT.of upd_same) .nil, by decide +kernel, by decide +kernel, false, rfl, ?_⟩
      refine iteF ?_
      dsimp only [tNext]
      refine st_ret (v := .str (sheetS lv [] fin)) ?hv ?hq
      case hq => exact q _ s1
      rw [← sheet_dark2]
      refine v_cat (v_cat (v_cat (v_cat (v_cat val_c (v_str (val_var rfl) hf.lv) ?_) val_c ?_) (v_str (val_var rfl) hf.fin) ?_) val_c ?_) (val_var rfl) ?_
      all_goals
        first | exact le_lineW (by omega) | (simp only [len_app]; exact le_lineW (by omega))
    | cons q0 r0 =>
      refine ⟨_, rfl, le_lineW (Nat.zero_le _), fun p np => ?_⟩
      have s1 := same_of (o := .tup []) np
      refine ⟨.tuple ((q0 :: r0).map pairD), .tuple [], dp_pic (PicAt.same (H := H) hp s1), .tup (SqT.of upd_same) .nil, (shaped_pairs (q0 :: r0)).2, by decide +kernel, true, rfl, ?_⟩
      refine iteT ?_
      have ht1 := rd_same ht s1
      have hat1 : ∀ (i : Nat) (a : Addr) (q : Int × Int), as[i]? = some a → (q0 :: r0)[i]? = some q → (upd H p (.tup [])) a = some (.tup [.int q.1, .int q.2]) := fun i a q h1 h2 => s1 _ _ (hat i a q h1 h2)
      revert s1 ht1 hat1
      generalize (upd H p (.tup [])) = H1
      intro s1 ht1 hat1
      refine ⟨⟨_, rfl⟩, _, rfl, t, rfl, ⟨_, .inl ht1⟩, fun D hD => ?_⟩
      refine lc_tup (K := K) (a := t) (xs := as.map V.ref) (fun i H' => Same H1 H' ∧ H' D = some (.lst ((((q0 :: r0).take i).map lampS).map V.str))) ⟨same_of hD, upd_same⟩ (fun i H' _ z => .inl (rd_same ht1 z.1)) (fun i x H' hi z => ?_) (fun H' z => ?_)
      · obtain ⟨sb, hl'⟩ := z
        rw [List.getElem?_map] at hi
        cases ea : as[i]? with
        | none => rw [ea] at hi; cases hi
        | some a =>
          rw [ea] at hi
          have ex : x = V.ref a := (Option.some.inj hi).symm
          subst ex
          have li : i < (q0 :: r0).length := by
            rw [← hlen]
            exact (List.getElem?_eq_some_iff.mp ea).1
          have eq := List.getElem?_eq_getElem li
          have ha := sb _ _ (hat1 i a _ ea eq)
          have fq := hf.all _ (List.getElem_mem li)
          have f1 := nS_lenW fq.1
          have f2 := nS_lenW fq.2
          refine ⟨a, _, rfl, SqT.of ha, rfl, _, _, rfl, _, _, rfl, rfl, rfl, ?_⟩
          refine v_cat (v_cat (v_str (val_var rfl) fq.1) val_c (le_lineW (by omega))) (v_str (val_var rfl) fq.2) (by simp only [len_app]; exact le_lineW (by omega)) _ ?_
          refine ⟨_, hl', ?_, fun b o e => ?_, ?_⟩
          · rw [List.length_map, List.length_map, List.length_take]
            exact small1000 (by omega)
          · have nb : b ≠ D := fun z => by rw [z, hD] at e; cases e
            rw [upd_ne nb]
            exact sb _ _ e
          · rw [upd_same, List.take_add_one, eq, List.map_append, List.map_append]
            rfl
      · obtain ⟨sb, hl'⟩ := z
        rw [List.length_map, hlen, List.take_length] at hl'
        have jl := joined_len hf.all
        have fl : (q0 :: r0).length ≤ 128 := few
        refine ⟨_, D, (q0 :: r0).map lampS, rfl, rfl, .inl (SqL.of hl'), ?_, ?_⟩
        · have h1 := lampsum hf.all
          have h2 : (" " : Str).length = 1 := rfl
          rw [h2]
          simp only [List.length_map]
          omega
        · refine ⟨_, _, rfl, rfl, le_lineW (by omega), ?_⟩
          dsimp only [gName]
          refine st_ret (v := .str (sheetS lv (q0 :: r0) fin)) ?hv2 ?hq2
          case hq2 => exact q _ (s1.trans sb)
          rw [← sheet_lamps2]
          refine v_cat (v_cat (v_cat (v_cat (v_cat val_c (v_str (val_var rfl) hf.lv) ?_) val_c ?_) (v_str (val_var rfl) hf.fin) ?_) val_c ?_) (val_var rfl) ?_
          all_goals
            first | exact le_lineW (by omega) | (simp only [len_app]; exact le_lineW (by omega))
end
end Lamp
set_option Elab.async false
set_option linter.all false
set_option maxRecDepth 100000
set_option maxHeartbeats 1000000
namespace Lamp
open PySem PySem.Spec PyProof.Rows L2 ClX
def spOf (K : PySem.W.Frag) (C : Addr) : Sp := fun vs H Q _ => ∃ (l t : Addr) (r : Parts), vs = [.ref l] ∧ PartsAt K H l t r ∧ r.Ok ∧ ∀ a H', Same H H' → H a = none → RoundAt C H' a r.lv t r.fin → Q (.ref a) H'
section
variable {P : Program} {w : World} {K : PySem.W.Frag} {mg : Str → Option Value} {base : Heap} {C : Addr}
theorem scOf : FnScope ["_law_parts"] ["_law_parts"] (defScope sOf) := ⟨rfl, rfl, rfl, by decide +kernel, rfl, by decide +kernel, by decide +kernel⟩
theorem ok_of {f : Addr} {fd : FuncData} (F : Fun K "_law_of" "_law_of" sOf f fd) (M : MkR P w K mg base C) (mR : mg "Round" = some (.ref C)) : FnOk P w K mg base CX0 6 f fd ["_law_parts"] (spOf K C) := by
  refine F.ok scOf (fun vs H Q E h => ?_) (fun cdv A outer s H vs Q E hr h => ?_)
  · obtain ⟨l, t, r, rfl, _⟩ := h
    rfl
  · obtain ⟨l, t, r, rfl, ⟨hl, hp⟩, hok, q⟩ := h
    refine ⟨_, pss_one (ps_ret (pe_mkR M hr rfl mR (pa_cons (pe_ix ix_list (pv 0) pe_int (fun _ _ => rfl)) (pa_cons (pe_ix ix_list (pv 0) pe_int (fun _ _ => rfl)) (pa_cons (pe_ix ix_list (pv 0) pe_int (fun _ _ => rfl)) pa_nil))))), ?_⟩
    refine ⟨_, rfl, l, _, 0, _, rfl, rfl, SqL.of hl, rfl, ?_⟩
    refine ⟨_, rfl, l, _, 1, _, rfl, rfl, SqL.of hl, rfl, ?_⟩
    refine ⟨_, rfl, l, _, 2, _, rfl, rfl, SqL.of hl, rfl, ?_⟩
    exact ⟨r.lv, t, r.fin, rfl, r.ls, hok.lv, hp.at, hok.pic.w, q⟩
theorem round_del {C p : Addr} {H : Hp} {a t : Addr} {lv fin : Int} (h : RoundAt C H a lv t fin) (hp : Pail H p) : RoundAt C (delH H p) a lv t fin := by
  obtain ⟨dx, h⟩ := h
  have ne : a ≠ p := fun e => by
    obtain ⟨x, y, z, hz, _⟩ := hp
    rw [e, hz] at h
    cases h
  exact ⟨dx, by rw [delH_ne ne]; exact h⟩
theorem pic_del {p : Addr} {H : Hp} {t : Addr} {ls : List (Int × Int)} (h : PicAt K H t ls) (hp : Pail H p) : PicAt K (delH H p) t ls := by
  obtain ⟨as, h1, h2⟩ := h
  obtain ⟨x, y, z, hz, _⟩ := hp
  refine ⟨as, ?_, L2.Paired.mapP h2 fun a q ha => ?_⟩
  · rcases h1 with h1 | ⟨o, h1⟩
    · exact .inl (by rw [delH_ne (fun e => by rw [e, hz] at h1; cases h1)]; exact h1)
    · exact .inr ⟨o, by rw [delH_ne (fun e => by rw [e, hz] at h1; cases h1)]; exact h1⟩
  · rw [delH_ne (fun e => by rw [e, hz] at ha; cases ha)]
    exact ha
end
end Lamp
set_option Elab.async false
set_option linter.all false
set_option maxRecDepth 100000
set_option maxHeartbeats 1000000
namespace Lamp
open PySem PySem.Spec PyProof.Rows L2
/-! comprehensions whose list tells what `out` makes of each thing -/
def TupStay (H H' : Hp) : Prop := ∀ b xs, H b = some (.tup xs) → H' b = some (.tup xs)
theorem stay_same {H H' : Hp} (s : Same H H') : TupStay H H' := fun b xs h => s b _ h
theorem stay_lst {H : Hp} {D : Addr} {ys zs : List V} (h : H D = some (.lst ys)) : TupStay H (upd H D (.lst zs)) := fun b xs e => by
  rw [upd_ne (fun z => by rw [z, h] at e; cases e)]
  exact e
theorem few_line {n : Nat} (h : n < 10000) : n < sizeLine := Nat.lt_trans h (by decide)
section
variable {α β : Type} {K : PySem.W.Frag} {a : Addr} {us : List α} {enc : α → V} {g : TG} {tt : TT} {te : TE} {vs : List Nat} {σ : L2.St} {H1 : Hp} {D : Addr} {Qd : Hp → Prop}
/-- a turn of such a comprehension -/
def Turn (H1 : Hp) (out : α → Option β) (Rel : β → V → Hp → Prop) (enc : α → V) (us : List α) (g : TG) (tt : TT) (te : TE) (vs : List Nat) (σ : L2.St) : Prop :=
  ∀ (i : Nat) (u : α) (H : Hp), us[i]? = some u → Same H1 H → ∀ (R : VK) (Z : Hp → Prop), (∀ v H' b, out u = some b → Same H H' → Rel b v H' → R v H') → (∀ H', out u = none → Same H H' → Z H') →
    g (enc u) (wipe σ vs) H fun σ2 H2 => wipe σ2 vs = wipe σ vs ∧ tt σ2 H2 fun b H3 => if b = true then te σ2 H3 R else Z H3
def Inv9 (H1 : Hp) (D : Addr) (out : α → Option β) (Rel : β → V → Hp → Prop) (us : List α) (i : Nat) (H' : Hp) : Prop :=
  Same H1 H' ∧ ∃ ys, H' D = some (.lst ys) ∧ ys.length ≤ i ∧ Paired (fun v b => Rel b v H') ys ((us.take i).filterMap out)
theorem inv9_0 {out : α → Option β} {Rel : β → V → Hp → Prop} (hD : H1 D = none) : Inv9 H1 D out Rel us 0 (upd H1 D (.lst [])) := ⟨same_of hD, [], upd_same, Nat.le_refl _, by rw [List.take_zero]; exact .nil⟩
theorem inv9_turn {out : α → Option β} {Rel : β → V → Hp → Prop} (st : ∀ b v H H', TupStay H H' → Rel b v H → Rel b v H') (hD : H1 D = none) (hz : us.length ≤ 9000) (hs : Turn H1 out Rel enc us g tt te vs σ) {i : Nat} {u : α} {H' : Hp} (eu : us[i]? = some u) (z : Inv9 H1 D out Rel us i H') :
    g (enc u) (wipe σ vs) H' fun σ2 H2 => wipe σ2 vs = wipe σ vs ∧ tt σ2 H2 fun b H3 => if b = true then te σ2 H3 fun y H4 => ∃ acc, H4 D = some (.lst acc) ∧ acc.length < sizeLine ∧ Inv9 H1 D out Rel us (i + 1) (upd H4 D (.lst (acc ++ [y]))) else Inv9 H1 D out Rel us (i + 1) H3 := by
  obtain ⟨sb, ys, hD', hl, hp⟩ := z
  have li := (List.getElem?_eq_some_iff.mp eu).1
  refine hs i u H' eu sb _ _ (fun v H2 b eb s2 r => ⟨ys, s2 _ _ hD', few_line (by omega), fun b' o e => ?_, ys ++ [v], upd_same, by rw [List.length_append]; show ys.length + 1 ≤ i + 1; omega, ?_⟩) (fun H2 eb s2 => ⟨sb.trans s2, ys, s2 _ _ hD', by omega, ?_⟩)
  · have nb : b' ≠ D := fun z => by rw [z, hD] at e; cases e
    rw [upd_ne nb]
    exact s2 _ _ (sb _ _ e)
  · have t1 : TupStay H2 (upd H2 D (.lst (ys ++ [v]))) := stay_lst (s2 _ _ hD')
    rw [List.take_add_one, eu, List.filterMap_append]
    have e1 : ([u] : List α).filterMap out = [b] := by simp [eb]
    show Paired _ _ (_ ++ ([u] : List α).filterMap out)
    rw [e1]
    exact paired_app (L2.Paired.mapP hp fun v' b' hz => st _ _ _ _ t1 (st _ _ _ _ (stay_same s2) hz)) (.cons (st _ _ _ _ t1 r) .nil)
  · rw [List.take_add_one, eu, List.filterMap_append]
    have e1 : ([u] : List α).filterMap out = [] := by simp [eb]
    show Paired _ _ (_ ++ ([u] : List α).filterMap out)
    rw [e1, List.append_nil]
    exact L2.Paired.mapP hp fun v' b' hz => st _ _ _ _ (stay_same s2) hz
theorem lc_genT {out : α → Option β} {Rel : β → V → Hp → Prop} (st : ∀ b v H H', TupStay H H' → Rel b v H → Rel b v H') (hD : H1 D = none) (hsq : SqT K H1 a (us.map enc)) (hz : us.length ≤ 9000) (hs : Turn H1 out Rel enc us g tt te vs σ)
    (hd : ∀ H' ys, Same H1 H' → H' D = some (.lst ys) → Paired (fun v b => Rel b v H') ys (us.filterMap out) → Qd H') :
    ∃ W : Nat → Nat → Hp → Prop, (∃ m, W 0 m (upd H1 D (.lst []))) ∧ ∀ i m H, W i m H →
      ((Itt K a).stop i H ∧ Qd H) ∨ ((Itt K a).go i H ∧ ∃ Nx : Hp → Prop, (∀ H', Nx H' → ∃ m', m' < m ∧ W (i + 1) m' H') ∧ ∀ x H', (Itt K a).yld i H x H' → g x (wipe σ vs) H' fun σ2 H2 => wipe σ2 vs = wipe σ vs ∧ tt σ2 H2 fun b H3 =>
        if b = true then te σ2 H3 fun y H4 => ∃ acc, H4 D = some (.lst acc) ∧ acc.length < sizeLine ∧ Nx (upd H4 D (.lst (acc ++ [y]))) else Nx H3) := by
  refine lc_tup (K := K) (a := a) (xs := us.map enc) (Inv9 H1 D out Rel us) (inv9_0 hD) (fun i H' _ z => same_seqT z.1 hsq) (fun i x H' hi z => ?_) (fun H' z => ?_)
  · rw [List.getElem?_map] at hi
    cases eu : us[i]? with
    | none => rw [eu] at hi; cases hi
    | some u =>
      rw [eu] at hi
      have ex : enc u = x := Option.some.inj hi
      rw [← ex]
      exact inv9_turn st hD hz hs eu z
  · obtain ⟨sb, ys, hD', _, hp⟩ := z
    rw [List.length_map, List.take_length] at hp
    exact hd H' ys sb hD' hp
theorem lc_genL {out : α → Option β} {Rel : β → V → Hp → Prop} (st : ∀ b v H H', TupStay H H' → Rel b v H → Rel b v H') (hD : H1 D = none) (hsq : SqL K H1 a (us.map enc)) (hz : us.length ≤ 9000) (hs : Turn H1 out Rel enc us g tt te vs σ)
    (hd : ∀ H' ys, Same H1 H' → H' D = some (.lst ys) → Paired (fun v b => Rel b v H') ys (us.filterMap out) → Qd H') :
    ∃ W : Nat → Nat → Hp → Prop, (∃ m, W 0 m (upd H1 D (.lst []))) ∧ ∀ i m H, W i m H →
      ((Itl K a).stop i H ∧ Qd H) ∨ ((Itl K a).go i H ∧ ∃ Nx : Hp → Prop, (∀ H', Nx H' → ∃ m', m' < m ∧ W (i + 1) m' H') ∧ ∀ x H', (Itl K a).yld i H x H' → g x (wipe σ vs) H' fun σ2 H2 => wipe σ2 vs = wipe σ vs ∧ tt σ2 H2 fun b H3 =>
        if b = true then te σ2 H3 fun y H4 => ∃ acc, H4 D = some (.lst acc) ∧ acc.length < sizeLine ∧ Nx (upd H4 D (.lst (acc ++ [y]))) else Nx H3) := by
  refine lc_list (K := K) (a := a) (xs := us.map enc) (Inv9 H1 D out Rel us) (inv9_0 hD) (fun i H' _ z => z.1.seq hsq) (fun i x H' hi z => ?_) (fun H' z => ?_)
  · rw [List.getElem?_map] at hi
    cases eu : us[i]? with
    | none => rw [eu] at hi; cases hi
    | some u =>
      rw [eu] at hi
      have ex : enc u = x := Option.some.inj hi
      rw [← ex]
      exact inv9_turn st hD hz hs eu z
  · obtain ⟨sb, ys, hD', _, hp⟩ := z
    rw [List.length_map, List.take_length] at hp
    exact hd H' ys sb hD' hp
end
/-- what is made is a value -/
def IsV (b v : V) (_ : Hp) : Prop := v = b
theorem isv_st : ∀ (b v : V) (H H' : Hp), TupStay H H' → IsV b v H → IsV b v H' := fun _ _ _ _ _ h => h
theorem isv_all : ∀ {ys zs : List V} {H : Hp}, Paired (fun v b => IsV b v H) ys zs → ys = zs
  | _, _, _, .nil => rfl
  | _, _, _, .cons (h : _ = _) t => by rw [h, isv_all t]
/-- what is made is a pair of ints -/
def IsP (b : Int × Int) (v : V) (H : Hp) : Prop := ∃ a, v = .ref a ∧ H a = some (.tup [.int b.1, .int b.2])
theorem isp_st : ∀ (b : Int × Int) (v : V) (H H' : Hp), TupStay H H' → IsP b v H → IsP b v H' := fun _ _ _ _ s ⟨a, e, h⟩ => ⟨a, e, s _ _ h⟩
theorem isp_all : ∀ {ys : List V} {qs : List (Int × Int)} {H : Hp}, Paired (fun v b => IsP b v H) ys qs → ∃ as : List Addr, ys = as.map V.ref ∧ Paired (fun a (q : Int × Int) => H a = some (.tup [.int q.1, .int q.2])) as qs
  | _, _, _, .nil => ⟨[], rfl, .nil⟩
  | _, _, _, .cons h t => by
    obtain ⟨as, e, p⟩ := isp_all t
    obtain ⟨a, ea, ha⟩ := h
    exact ⟨a :: as, by rw [List.map_cons, ea, e], .cons ha p⟩
/-- the places of a picture's pairs beside the pairs -/
theorem zip_fst : ∀ {as : List Addr} {ls : List (Int × Int)}, as.length = ls.length → (as.zip ls).map (fun p => V.ref p.1) = as.map V.ref
  | [], [], _ => rfl
  | [], _ :: _, h => by cases h
  | _ :: _, [], h => by cases h
  | a :: as, q :: ls, h => by
    rw [List.zip_cons_cons, List.map_cons, List.map_cons, zip_fst (Nat.succ.inj h)]
theorem zip_out {β : Type} (out : Int × Int → Option β) : ∀ {as : List Addr} {ls : List (Int × Int)}, as.length = ls.length → (as.zip ls).filterMap (fun p => out p.2) = ls.filterMap out
  | [], [], _ => rfl
  | [], _ :: _, h => by cases h
  | _ :: _, [], h => by cases h
  | a :: as, q :: ls, h => by
    rw [List.zip_cons_cons]
    simp only [List.filterMap_cons]
    rw [zip_out out (Nat.succ.inj h)]
theorem zip_at {as : List Addr} {ls : List (Int × Int)} {i : Nat} {p : Addr × (Int × Int)} (h : (as.zip ls)[i]? = some p) : as[i]? = some p.1 ∧ ls[i]? = some p.2 := by
  rw [List.getElem?_zip_eq_some] at h
  exact h
end Lamp
set_option Elab.async false
set_option linter.all false
set_option maxRecDepth 100000
set_option maxHeartbeats 1000000
namespace Lamp
/-! how often a lamp counts at a distance; sums of levels there -/
def doings (e n d : Int) : Int := if e = 0 then (if d = 0 then n else 0) else if d.fmod e = 0 then (if 0 ≤ d.fdiv e ∧ d.fdiv e < n then 1 else if n ≤ d.fdiv e ∧ d.fdiv e < 0 then -1 else 0) else 0
def after (lv : Int) (ls : List (Int × Int)) (e n p : Int) : Int := (ls.map fun q => q.2 * doings e n (p - q.1)).sum % lv
/-- a lamp's part as the law counts it, for no number below 0 -/
def counts (e n p : Int) (q : Int × Int) : Int := if e = 0 then n * q.2 * (if q.1 = p then 1 else 0) else if (p - q.1) % (if e < 0 then -e else e) = 0 ∧ 0 ≤ (p - q.1).fdiv e ∧ (p - q.1).fdiv e < n then q.2 else 0
def undo (lv e : Int) (ls : List (Int × Int)) : List (Int × Int) := ls.map fun q => (q.1 - e, lv - q.2)
theorem fmod_abs {d e : Int} (h : e ≠ 0) : d.fmod e = 0 ↔ d % (if e < 0 then -e else e) = 0 := by
  rw [← Int.dvd_iff_fmod_eq_zero, ← Int.dvd_iff_emod_eq_zero]
  split
  · rw [Int.neg_dvd]
  · exact Iff.rfl
theorem counts_eq {e n p : Int} (hn : 0 ≤ n) (q : Int × Int) : counts e n p q = q.2 * doings e n (p - q.1) := by
  unfold counts doings
  by_cases he : e = 0
  · rw [if_pos he, if_pos he]
    by_cases hp : q.1 = p
    · rw [if_pos hp, if_pos (by omega), Int.mul_one, Int.mul_comm]
    · rw [if_neg hp, if_neg (by omega), Int.mul_zero, Int.mul_zero]
  · rw [if_neg he, if_neg he]
    by_cases hm : (p - q.1).fmod e = 0
    · have hm' := (fmod_abs he).mp hm
      rw [if_pos hm]
      by_cases h1 : 0 ≤ (p - q.1).fdiv e ∧ (p - q.1).fdiv e < n
      · rw [if_pos ⟨hm', h1⟩, if_pos h1, Int.mul_one]
      · rw [if_neg (fun z => h1 z.2), if_neg h1, if_neg (fun z => by omega), Int.mul_zero]
    · rw [if_neg hm, if_neg (fun z => hm ((fmod_abs he).mpr z.1)), Int.mul_zero]
theorem undo_doings {e n d : Int} : doings (-e) (-n) (d + e) = - doings e n d := by
  unfold doings
  by_cases he : e = 0
  · subst he
    rw [if_pos (by decide), if_pos rfl]
    by_cases hd : d = 0
    · rw [if_pos (by omega), if_pos hd]
    · rw [if_neg (by omega), if_neg hd]
      rfl
  · rw [if_neg (by omega), if_neg he]
    by_cases hm : d.fmod e = 0
    · obtain ⟨k, hk⟩ := Int.dvd_of_fmod_eq_zero hm
      subst hk
      have e1 : e * k + e = (-e) * (-(k + 1)) := by rw [Int.neg_mul_neg, Int.mul_add, Int.mul_one]
      have q1 : (e * k).fdiv e = k := Int.mul_fdiv_cancel_left _ he
      have q2 : (e * k + e).fdiv (-e) = -(k + 1) := by rw [e1]; exact Int.mul_fdiv_cancel_left _ (by omega)
      have m2 : (e * k + e).fmod (-e) = 0 := by rw [e1]; exact Int.mul_fmod_right _ _
      rw [if_pos hm, if_pos m2, q1, q2]
      by_cases h1 : 0 ≤ k ∧ k < n
      · rw [if_pos h1, if_neg (by omega), if_pos (by omega)]
      · rw [if_neg h1]
        by_cases h2 : n ≤ k ∧ k < 0
        · rw [if_pos h2, if_pos (by omega)]
          rfl
        · rw [if_neg h2, if_neg (by omega), if_neg (by omega)]
          rfl
    · rw [if_neg hm, if_neg ?_]
      · rfl
      · intro z
        apply hm
        have h1 : -e ∣ d + e := Int.dvd_of_fmod_eq_zero z
        rw [Int.neg_dvd] at h1
        have h2 : e ∣ d := (Int.dvd_add_left (Int.dvd_refl e)).mp h1
        exact Int.fmod_eq_zero_of_dvd h2
theorem sum_mod {lv : Int} : ∀ {ls : List (Int × Int)} {f g : Int × Int → Int}, (∀ q ∈ ls, f q % lv = g q % lv) → (ls.map f).sum % lv = (ls.map g).sum % lv
  | [], _, _, _ => rfl
  | q :: ls, f, g, h => by
    rw [List.map_cons, List.map_cons, List.sum_cons, List.sum_cons, Int.add_emod, h q (List.mem_cons_self ..), sum_mod (ls := ls) (fun r hr => h r (List.mem_cons_of_mem _ hr)), ← Int.add_emod]
theorem after_counts {lv : Int} {ls : List (Int × Int)} {e n p : Int} (hn : 0 ≤ n) : (ls.map (counts e n p)).sum % lv = after lv ls e n p := sum_mod fun q _ => by rw [counts_eq hn]
theorem after_undo {lv : Int} {ls : List (Int × Int)} {e n p : Int} (hn : n < 0) : ((undo lv e ls).map (counts (0 - e) (0 - n) p)).sum % lv = after lv ls e n p := by
  rw [after_counts (by omega)]
  unfold after undo
  rw [List.map_map]
  refine sum_mod fun q _ => ?_
  show ((lv - q.2) * doings (0 - e) (0 - n) (p - (q.1 - e))) % lv = _
  rw [show (0 : Int) - e = -e by omega, show (0 : Int) - n = -n by omega, show p - (q.1 - e) = (p - q.1) + e by omega, undo_doings, Int.sub_mul, Int.mul_neg q.2, Int.sub_neg, Int.add_emod, Int.mul_emod_right, Int.zero_add, Int.emod_emod_of_dvd _ (Int.dvd_refl _)]
theorem doings_0 (e d : Int) : doings e 0 d = 0 := by
  unfold doings
  split
  · split <;> rfl
  · split
    · rw [if_neg (by omega), if_neg (by omega)]
    · rfl
theorem doings_1 (e d : Int) : doings e 1 d = if d = 0 then 1 else 0 := by
  unfold doings
  by_cases he : e = 0
  · rw [if_pos he]
  · rw [if_neg he]
    by_cases hd : d = 0
    · subst hd
      rw [if_pos rfl, if_pos (Int.zero_fmod e), Int.zero_fdiv, if_pos (by omega)]
    · rw [if_neg hd]
      by_cases hm : d.fmod e = 0
      · obtain ⟨k, rfl⟩ := Int.dvd_of_fmod_eq_zero hm
        rw [if_pos hm, Int.mul_fdiv_cancel_left _ he]
        have : k ≠ 0 := fun z => hd (by rw [z, Int.mul_zero])
        rw [if_neg (by omega), if_neg (by omega)]
      · rw [if_neg hm]
theorem after_0 {lv : Int} {ls : List (Int × Int)} {e p : Int} : after lv ls e 0 p = 0 := by
  unfold after
  rw [show (ls.map fun q => q.2 * doings e 0 (p - q.1)) = ls.map fun _ => (0 : Int) from List.map_congr_left fun q _ => by rw [doings_0, Int.mul_zero]]
  have : ∀ ls : List (Int × Int), (ls.map fun _ => (0 : Int)).sum = 0 := fun ls => by
    induction ls with
    | nil => rfl
    | cons q ls ih => rw [List.map_cons, List.sum_cons, ih]; rfl
  rw [this]
  exact Int.zero_emod lv
/-- the level that a picture tells of a place -/
def levelAt : List (Int × Int) → Int → Int
  | [], _ => 0
  | q :: ls, p => if q.1 = p then q.2 else levelAt ls p
theorem levelAt_cons (q : Int × Int) (ls : List (Int × Int)) (p : Int) : levelAt (q :: ls) p = if q.1 = p then q.2 else levelAt ls p := rfl
theorem level_out {p : Int} : ∀ {ls : List (Int × Int)}, p ∉ ls.map (·.1) → levelAt ls p = 0
  | [], _ => rfl
  | q :: ls, h => by
    rw [levelAt_cons, if_neg (fun z => h (by rw [List.map_cons, z]; exact List.mem_cons_self ..)), level_out fun z => h (by rw [List.map_cons]; exact List.mem_cons_of_mem _ z)]
theorem sum_level {e p : Int} : ∀ {ls : List (Int × Int)}, (ls.map (·.1)).Nodup → (ls.map fun q => q.2 * doings e 1 (p - q.1)).sum = levelAt ls p
  | [], _ => rfl
  | q :: ls, h => by
    rw [List.map_cons] at h
    cases h with
    | cons h1 h2 =>
      rw [List.map_cons, List.sum_cons, sum_level h2, doings_1]
      rw [levelAt_cons]
      by_cases hq : q.1 = p
      · rw [if_pos hq, if_pos (by omega), Int.mul_one]
        have : levelAt ls p = 0 := level_out fun z => h1 p z hq
        rw [this, Int.add_zero]
      · rw [if_neg hq, if_neg (by omega), Int.mul_zero, Int.zero_add]
theorem level_in {p : Int} : ∀ {ls : List (Int × Int)}, levelAt ls p = 0 ∨ (p, levelAt ls p) ∈ ls
  | [] => .inl rfl
  | q :: ls => by
    rw [levelAt_cons]
    by_cases hq : q.1 = p
    · rw [if_pos hq, ← hq]
      exact .inr (List.mem_cons_self ..)
    · rw [if_neg hq]
      rcases level_in (p := p) (ls := ls) with z | z
      · exact .inl z
      · exact .inr (List.mem_cons_of_mem _ z)
theorem after_1 {lv : Int} {ls : List (Int × Int)} {e p : Int} (nd : (ls.map (·.1)).Nodup) (h : ∀ q ∈ ls, 1 ≤ q.2 ∧ q.2 < lv) (h0 : 0 < lv) : after lv ls e 1 p = levelAt ls p := by
  unfold after
  rw [sum_level nd]
  rcases level_in (p := p) (ls := ls) with z | z
  · rw [z]; exact Int.zero_emod lv
  · have := h _ z
    exact Int.emod_eq_of_lt (by omega) this.2
theorem after_range {lv : Int} {ls : List (Int × Int)} {e n p : Int} (h0 : 0 < lv) : 0 ≤ after lv ls e n p ∧ after lv ls e n p < lv := ⟨Int.emod_nonneg _ (by omega), Int.emod_lt_of_pos _ h0⟩
end Lamp
set_option Elab.async false
set_option linter.all false
set_option maxRecDepth 100000
set_option maxHeartbeats 1000000
namespace Lamp
/-! pictures, told by the levels of all places -/
def sumAt (ls : List (Int × Int)) (p : Int) : Int := (ls.map fun q => if q.1 = p then q.2 else 0).sum
theorem sumAt_nil (p : Int) : sumAt [] p = 0 := rfl
theorem sumAt_cons (q : Int × Int) (ls : List (Int × Int)) (p : Int) : sumAt (q :: ls) p = (if q.1 = p then q.2 else 0) + sumAt ls p := by unfold sumAt; rw [List.map_cons, List.sum_cons]
theorem sumAt_app (ls ms : List (Int × Int)) (p : Int) : sumAt (ls ++ ms) p = sumAt ls p + sumAt ms p := by unfold sumAt; rw [List.map_append, List.sum_append]
theorem sum_out {p : Int} : ∀ {ls : List (Int × Int)}, p ∉ ls.map (·.1) → sumAt ls p = 0
  | [], _ => rfl
  | q :: ls, h => by
    rw [sumAt_cons, if_neg (fun z => h (by rw [List.map_cons, z]; exact List.mem_cons_self ..)), sum_out fun z => h (by rw [List.map_cons]; exact List.mem_cons_of_mem _ z)]
    rfl
theorem sum_levelAt {p : Int} : ∀ {ls : List (Int × Int)}, (ls.map (·.1)).Nodup → sumAt ls p = levelAt ls p
  | [], _ => rfl
  | q :: ls, h => by
    rw [List.map_cons] at h
    cases h with
    | cons h1 h2 =>
      rw [sumAt_cons, levelAt_cons]
      by_cases hq : q.1 = p
      · rw [if_pos hq, if_pos hq, sum_out fun z => h1 p z hq, Int.add_zero]
      · rw [if_neg hq, if_neg hq, Int.zero_add, sum_levelAt h2]
/-- a picture: places ascending, levels from 1 to lv - 1 -/
structure Rising (lv : Int) (ls : List (Int × Int)) : Prop where
  asc : (ls.map (·.1)).Pairwise (· < ·)
  lv : ∀ q ∈ ls, 1 ≤ q.2 ∧ q.2 < lv
theorem Rising.nd {lv : Int} {ls : List (Int × Int)} (h : Rising lv ls) : (ls.map (·.1)).Nodup := h.asc.imp fun z => Int.ne_of_lt z
theorem Rising.tail {lv : Int} {q : Int × Int} {ls : List (Int × Int)} (h : Rising lv (q :: ls)) : Rising lv ls := by
  have a := h.asc
  rw [List.map_cons] at a
  cases a with
  | cons _ a2 => exact ⟨a2, fun r hr => h.lv r (List.mem_cons_of_mem _ hr)⟩
theorem Rising.head {lv : Int} {q : Int × Int} {ls : List (Int × Int)} (h : Rising lv (q :: ls)) : ∀ r ∈ ls, q.1 < r.1 := by
  have a := h.asc
  rw [List.map_cons] at a
  cases a with
  | cons a1 _ => exact fun r hr => a1 _ (List.mem_map.mpr ⟨r, hr, rfl⟩)
theorem Rising.range {lv : Int} {ls : List (Int × Int)} (h : Rising lv ls) (h0 : 0 < lv) (p : Int) : 0 ≤ sumAt ls p ∧ sumAt ls p < lv := by
  rw [sum_levelAt h.nd]
  rcases level_in (p := p) (ls := ls) with z | z
  · rw [z]; omega
  · have := h.lv _ z
    exact ⟨by omega, this.2⟩
theorem Rising.before {lv : Int} {q : Int × Int} {ls : List (Int × Int)} (h : Rising lv (q :: ls)) {p : Int} (hp : p ≤ q.1) : sumAt ls p = 0 := sum_out fun z => by
  obtain ⟨r, hr, e⟩ := List.mem_map.mp z
  have := h.head r hr
  omega
theorem Rising.at0 {lv : Int} {q : Int × Int} {ls : List (Int × Int)} (h : Rising lv (q :: ls)) : sumAt (q :: ls) q.1 = q.2 := by
  rw [sumAt_cons, if_pos rfl, h.before (Int.le_refl _), Int.add_zero]
/-- the levels of all places tell the picture -/
theorem Rising.ext {lv : Int} : ∀ {ls ms : List (Int × Int)}, Rising lv ls → Rising lv ms → (∀ p, sumAt ls p = sumAt ms p) → ls = ms
  | [], [], _, _, _ => rfl
  | [], r :: ms, _, h2, e => by
    have z := e r.1
    rw [h2.at0, sumAt_nil] at z
    have := h2.lv r (List.mem_cons_self ..)
    omega
  | q :: ls, [], h1, _, e => by
    have z := e q.1
    rw [h1.at0, sumAt_nil] at z
    have := h1.lv q (List.mem_cons_self ..)
    omega
  | q :: ls, r :: ms, h1, h2, e => by
    have a1 := h1.lv q (List.mem_cons_self ..)
    have a2 := h2.lv r (List.mem_cons_self ..)
    have hpl : q.1 = r.1 := by
      by_cases lt : q.1 < r.1
      · have z := e q.1
        rw [h1.at0, sumAt_cons, if_neg (by omega), h2.before (by omega)] at z
        omega
      · by_cases gt : r.1 < q.1
        · have z := e r.1
          rw [h2.at0, sumAt_cons, if_neg (by omega), h1.before (by omega)] at z
          omega
        · omega
    have hlv : q.2 = r.2 := by
      have z := e q.1
      rw [h1.at0, hpl, h2.at0] at z
      exact z
    have hq : q = r := Prod.ext hpl hlv
    subst hq
    rw [Rising.ext h1.tail h2.tail fun p => by
      have z := e p
      rw [sumAt_cons, sumAt_cons] at z
      omega]
theorem Rising.mem {lv : Int} {ls : List (Int × Int)} (h : Rising lv ls) {q : Int × Int} (hq : q ∈ ls) : sumAt ls q.1 = q.2 := by
  rw [sum_levelAt h.nd]
  have nd := h.nd
  clear h
  induction ls with
  | nil => cases hq
  | cons r ls ih =>
    rw [List.map_cons] at nd
    cases nd with
    | cons n1 n2 =>
      rw [levelAt_cons]
      rcases List.mem_cons.mp hq with e | e
      · rw [e, if_pos rfl]
      · rw [if_neg (fun z => n1 _ (List.mem_map.mpr ⟨q, e, rfl⟩) z)]
        exact ih e n2
theorem sum_mem {ls : List (Int × Int)} {p : Int} (h : sumAt ls p ≠ 0) : ∃ q ∈ ls, q.1 = p := by
  by_cases z : p ∈ ls.map (·.1)
  · obtain ⟨q, hq, e⟩ := List.mem_map.mp z
    exact ⟨q, hq, e⟩
  · exact absurd (sum_out z) h
/-! a part of a sum: a picture, moved and multiplied -/
structure Part where
  ls : List (Int × Int)
  mv : Int
  tm : Int
def partAt (x : Part) (p : Int) : Int := x.tm * sumAt x.ls (p - x.mv)
def partsAt (xs : List Part) (p : Int) : Int := (xs.map fun x => partAt x p).sum
def partsLen (xs : List Part) : Nat := (xs.map fun x => x.ls.length).sum
theorem partsAt_app (xs ys : List Part) (p : Int) : partsAt (xs ++ ys) p = partsAt xs p + partsAt ys p := by unfold partsAt; rw [List.map_append, List.sum_append]
theorem partsAt_one (x : Part) (p : Int) : partsAt [x] p = partAt x p := by unfold partsAt; rw [List.map_cons, List.map_nil, List.sum_cons, List.sum_nil, Int.add_zero]
theorem partsLen_take {xs : List Part} {i : Nat} {x : Part} (h : xs[i]? = some x) : partsLen (xs.take i) + x.ls.length ≤ partsLen xs := by
  obtain ⟨li, e⟩ := List.getElem?_eq_some_iff.mp h
  have a : partsLen xs = partsLen (xs.take (i + 1)) + partsLen (xs.drop (i + 1)) := by
    unfold partsLen
    rw [← List.sum_append, ← List.map_append, List.take_append_drop]
  have b : partsLen (xs.take (i + 1)) = partsLen (xs.take i) + x.ls.length := by
    unfold partsLen
    rw [List.take_add_one, h, List.map_append, List.sum_append]
    show _ + ([x].map fun x => x.ls.length).sum = _
    rw [List.map_cons, List.map_nil, List.sum_cons, List.sum_nil, Nat.add_zero]
  omega
/-- what a chart tells: the levels other than 0, by ascending places -/
def tidy (lv : Int) (F : Int → Int) (ns : List Int) : List (Int × Int) := ns.filterMap fun n => if F n % lv = 0 then none else some (n, F n % lv)
theorem tidy_mem {lv : Int} {F : Int → Int} {ns : List Int} {q : Int × Int} (h : q ∈ tidy lv F ns) : q.1 ∈ ns ∧ q.2 = F q.1 % lv ∧ F q.1 % lv ≠ 0 := by
  unfold tidy at h
  obtain ⟨n, hn, e⟩ := List.mem_filterMap.mp h
  by_cases z : F n % lv = 0
  · rw [if_pos z] at e; cases e
  · rw [if_neg z] at e
    have e' := Option.some.inj e
    subst e'
    exact ⟨hn, rfl, z⟩
theorem tidy_asc {lv : Int} (h0 : 0 < lv) {F : Int → Int} : ∀ {ns : List Int}, ns.Pairwise (· < ·) → Rising lv (tidy lv F ns)
  | [], _ => ⟨.nil, fun q h => (nomatch h)⟩
  | n :: ns, h => by
    cases h with
    | cons h1 h2 =>
      have ih := tidy_asc h0 (F := F) h2
      unfold tidy
      rw [List.filterMap_cons]
      by_cases z : F n % lv = 0
      · rw [if_pos z]
        exact ih
      · rw [if_neg z]
        refine ⟨?_, fun q hq => ?_⟩
        · show ((n, F n % lv) :: tidy lv F ns).map (·.1) |>.Pairwise (· < ·)
          rw [List.map_cons]
          exact .cons (fun p hp => by
            obtain ⟨q, hq, e⟩ := List.mem_map.mp hp
            rw [← e]
            exact h1 _ (tidy_mem hq).1) ih.asc
        · rcases List.mem_cons.mp hq with e | e
          · subst e
            have a := Int.emod_nonneg (F n) (show lv ≠ 0 by omega)
            have b := Int.emod_lt_of_pos (F n) h0
            exact ⟨by show 1 ≤ F n % lv; omega, b⟩
          · exact ih.lv q e
theorem tidy_at {lv : Int} {F : Int → Int} (p : Int) : ∀ {ns : List Int}, ns.Nodup → sumAt (tidy lv F ns) p = if p ∈ ns then F p % lv else 0
  | [], _ => rfl
  | n :: ns, h => by
    cases h with
    | cons h1 h2 =>
      have ih := tidy_at (lv := lv) (F := F) p h2
      unfold tidy
      rw [List.filterMap_cons]
      by_cases z : F n % lv = 0
      · rw [if_pos z]
        show sumAt (tidy lv F ns) p = _
        rw [ih]
        by_cases e : p = n
        · subst e
          rw [if_neg (fun hp => h1 p hp rfl), if_pos (List.mem_cons_self ..), z]
        · by_cases hp : p ∈ ns
          · rw [if_pos hp, if_pos (List.mem_cons_of_mem _ hp)]
          · rw [if_neg hp, if_neg (fun k => (List.mem_cons.mp k).elim e hp)]
      · rw [if_neg z]
        show sumAt ((n, F n % lv) :: tidy lv F ns) p = _
        rw [sumAt_cons, ih]
        by_cases e : p = n
        · subst e
          rw [if_pos rfl, if_neg (fun hp => h1 p hp rfl), if_pos (List.mem_cons_self ..), Int.add_zero]
        · rw [if_neg (fun k => e k.symm), Int.zero_add]
          by_cases hp : p ∈ ns
          · rw [if_pos hp, if_pos (List.mem_cons_of_mem _ hp)]
          · rw [if_neg hp, if_neg (fun k => (List.mem_cons.mp k).elim e hp)]
theorem tidy_len {lv : Int} {F : Int → Int} (ns : List Int) : (tidy lv F ns).length ≤ ns.length := List.length_filterMap_le _ _
theorem level_key {cs : List (Int × Int)} {p : Int} (h : p ∉ cs.map (·.1)) : levelAt cs p = 0 := level_out h
end Lamp
set_option Elab.async false
set_option linter.all false
set_option maxRecDepth 100000
set_option maxHeartbeats 1000000
namespace Lamp
open PySem PySem.Spec PyProof.Rows L2
/-! == and != of two instances by an own __eq__ -/
structure EqO (P : Program) (w : World) (K : PySem.W.Frag) (mg : Str → Option Value) (base : Heap) (C : Addr) (sp : Sp) (k : Nat) : Prop where
  ex : ∃ (f : Addr) (fd : FuncData), PySem.W.findIn K (.ref C) "__eq__" = some (some (.ref f)) ∧ PySem.W.isFn K (.ref f) = true ∧ FnOk P w K mg base CX0 k f fd ["self", "other"] sp ∧ Binds K fd ["self", "other"] []
  ne : PySem.W.findIn K (.ref C) "__ne__" = some (some (.builtin "object.__ne__"))
  mro : PySem.W.mroIn K C (.type "object") = some true
def rOwn2 (C : Addr) (sp : Sp) (neg : Bool) : R2 := fun x y H Q => ∃ (a b dx dy : Addr) (fs gs : List (Str × V)), x = .ref a ∧ y = .ref b ∧ H a = some (.ins C dx fs) ∧ H b = some (.ins C dy gs) ∧ sp [.ref a, .ref b] H (fun v H' => ∃ k, v = .bl k ∧ Q (.bl (if neg then !k else k)) H') E0
section
variable {X : Cx} {pins : List (Addr × Obj)} {σ : L2.St} {H : Hp} {s : Shared} {Q : VK} {a b f C : Addr} {k : Nat} {sp : Sp} {fd : FuncData} {A' : Around}
theorem run_two (F : FnOk X.prog X.w X.K X.mg X.base CX0 k f fd ["self", "other"] sp) (hr : Room k A') (hf : A'.frames = X.A.frames) (hb : Binds X.K fd ["self", "other"] []) (I : Inv X pins σ H s) (h : sp [.ref a, .ref b] H Q E0) :
    wpAny (model X.prog X.w) A' (call (.ref f) [.ref a, .ref b]) (EP X pins σ Q) X.xe s := by
  have e0 := I.env0
  have e1 : Env0 X.prog X.w X.K X.mg X.base A' X.stack s H := ⟨hf.trans e0.frames, e0.mod, e0.bs, e0.bsz, e0.funs, e0.frf, e0.hok, e0.bare⟩
  have bb := hb s [.ref a, .ref b] I.kIn rfl
  refine wpAny_call (codeAny_mono (F.run A' X.stack s H ⟨[.ref a, .ref b], []⟩ [.ref a, .ref b] [.ref a, .ref b] Q E0 hr e1 bb (.cons (show RelV (V.ref a) (Value.ref a) from rfl) (.cons (show RelV (V.ref b) (Value.ref b) from rfl) .nil)) h) fun res s' told => ?_)
  match res, told with
  | .error _, told => exact False.elim told
  | .ok (.ret u), told => exact I.after told
  | .ok .next, told => exact False.elim told
  | .ok .brk, told => exact False.elim told
  | .ok .cont, told => exact False.elim told
end
section
variable {X : Cx} {C : Addr} {sp : Sp} {k : Nat}
theorem op_eqO (Z : EqO X.prog X.w X.K X.mg X.base C sp k) (hr : Room k X.A) : OpR X (compareOp .Eq) (rOwn2 C sp false) := by
  intro pins s σ H x y v u Q I rx ry h
  obtain ⟨a, b, dx, dy, fs, gs, rfl, rfl, ha, hb, hs⟩ := h
  obtain ⟨f, fd, h1, h2, F, bb⟩ := Z.ex
  cases rx
  cases ry
  obtain ⟨od, J⟩ := ins_inst I ha
  obtain ⟨od', J'⟩ := ins_inst I hb
  obtain ⟨m, fr⟩ := I.fr
  unfold compareOp
  refine PySem.W.cmp_K (op := .Eq) (tb := .ref C) hr.units0 fr I.ok.mod.kin J J'.type (by simp [PySem.W.notFirst]) h1 h2 (wpAny_mono (run_two F hr rfl bb I hs) (fun r s' told => ?_) fun _ _ z => z)
  obtain ⟨v, H1, I1, rv, ⟨n, ev, q⟩⟩ := told
  subst ev
  have eu : r = Value.bool n := rv
  subst eu
  exact ⟨.bl n, H1, I1, rfl, q⟩
end
section
variable {M : Model} {prog : Program} {w : World} {A : Around} {E : Value → Shared → Prop} {s : Shared} {K : PySem.W.Frag} {x y C f : Addr} {ox : Obj} {od : Option Obj}
theorem ne_bound {args : List Value} {Q : Option Value → Shared → Prop} (X : K.In s.heap) (I : PySem.W.InstAt s.heap x ox C od) (hs : PySem.W.findIn K (.ref C) "__ne__" = some (some (.builtin "object.__ne__")))
    (h : wpAny M A (call (.builtin "object.__ne__") (.ref x :: args)) (fun v => Q (some v)) E s) : wpAny M A (callSpecialIfBound? (.ref x) "__ne__" args) Q E s := by
  have done : wpAny M A (call (.builtin "object.__ne__") ([.ref x] ++ args) >>= fun v => pure (some v)) Q E s := wpAny_bind (wpAny_mono h (fun v s' h' => wpAny_pure h') fun _ _ h' => h')
  simp only [callSpecialIfBound?, bindSpecialIfBound?]
  refine wpAny_holding (wpAny_bind (wpAny_bind (wpAny_bind (I.type.here ((PySem.W.looks_findIn X hs).here ?_)))))
  refine wpAny_bind (wpAny_askSetting (wpAny_ite ?_))
  split
  · exact wpAny_bind (wpAny_of_eq (F.cmp_object.ne.bind _) (wpAny_pure (by exact done)))
  · exact wpAny_tryCatch (wpAny_bind (wpAny_of_eq (F.cmp_object.ne.bind _) (wpAny_pure (by exact done))))
theorem ne_entry {Q : Fin → Shared → Prop} (X : K.In s.heap) (I : PySem.W.InstAt s.heap x ox C od) (hu : A.units < cLine) (h1 : PySem.W.findIn K (.ref C) "__eq__" = some (some (.ref f))) (h2 : PySem.W.isFn K (.ref f) = true)
    (h : wpAny (model prog w) A (call (.ref f) [.ref x, .ref y]) (fun v s' => ∃ b, v = .bool b ∧ Q (.done (.ret (.bool (!b)))) s') E s) :
    wpAny (model prog w) A (Builtin.«object.__ne__» ⟨[.ref x, .ref y], []⟩) Q E s := by
  unfold Builtin.«object.__ne__»
  repeat (first
    | with_reducible refine wpAny_cRoomFor hu ?_
    | (refine wpAny_bind (m := callSpecialIfBound? (.ref x) (Str.ofString "__eq__") [.ref y])
        (PySem.W.ifBound_K X I h1 h2 (wpAny_mono h (fun r s' hr => by
          obtain ⟨b, rfl, hq⟩ := hr
          repeat (first | exact hq | exact wpAny_pure hq | exact wpAny_truthy_bool hq | (refine wpAny_bind (m := truthy (.bool _)) (wpAny_truthy_bool ?_)) | wp_step)) fun _ _ e => e)))
    | wp_step)
theorem ne_call {Q : Value → Shared → Prop} (X : K.In s.heap) (I : PySem.W.InstAt s.heap x ox C od) (hm : PySem.W.mroIn K C (.type "object") = some true) (hu : A.in1.units < cLine) (h1 : PySem.W.findIn K (.ref C) "__eq__" = some (some (.ref f))) (h2 : PySem.W.isFn K (.ref f) = true)
    (h : wpAny (model prog w) A.in1 (call (.ref f) [.ref x, .ref y]) (fun v s' => ∃ b, v = .bool b ∧ Q (.bool (!b)) s') E s) :
    wpAny (model prog w) A (call (.builtin "object.__ne__") [.ref x, .ref y]) Q E s := by
  refine wpAny_call (codeAny_call_builtin F.cmp_object.ne.plain F.cmpEntry_ne (PySem.W.check_slot F.cmpKind_ne F.cmpSplit_ne (I.type.andThen (PySem.W.looks_mroIn X hm)) (F.cmpArgs_ne _ _) (ne_entry (A := A.in1) X I hu h1 h2 (wpAny_mono h (fun v s' told => ?_) fun _ _ e => e))))
  obtain ⟨b, rfl, hq⟩ := told
  exact ⟨b, rfl, hq⟩
end
section
variable {X : Cx} {C : Addr} {sp : Sp} {k : Nat}
theorem op_neO (Z : EqO X.prog X.w X.K X.mg X.base C sp k) (hr : Room (k + 1) X.A) : OpR X (compareOp .NotEq) (rOwn2 C sp true) := by
  intro pins s σ H x y v u Q I rx ry h
  obtain ⟨a, b, dx, dy, fs, gs, rfl, rfl, ha, hb, hs⟩ := h
  obtain ⟨f, fd, h1, h2, F, bb⟩ := Z.ex
  cases rx
  cases ry
  obtain ⟨od, J⟩ := ins_inst I ha
  obtain ⟨od', J'⟩ := ins_inst I hb
  have main : wpAny (model X.prog X.w) X.A (tryCompare (.ref a) "__ne__" (.ref b)) (fun r s' => ∃ n, r = some (Value.bool n) ∧ EP X pins σ Q (.bool n) s') X.xe s := by
    unfold tryCompare
    refine wpAny_bind (ne_bound I.kIn J Z.ne (ne_call I.kIn J Z.mro hr.in1.units0 h1 h2 (wpAny_mono (run_two F hr.in1 rfl bb I hs) (fun r s' told => ?_) fun _ _ z => z)))
    obtain ⟨v, H1, I1, rv, ⟨n, ev, q⟩⟩ := told
    subst ev
    have eu : r = Value.bool n := rv
    subst eu
    exact ⟨n, rfl, wpAny_pure ⟨!n, rfl, .bl (!n), H1, I1, rfl, q⟩⟩
  unfold compareOp richCompare
  simp only [oneThing_ref]
  refine wpAny_holding (wpAny_bind (wpAny_cRoomFor hr.units0 ?_))
  rw [cmpInfo_NotEq]
  dsimp only
  refine wpAny_bind (J.type.here (wpAny_bind (J'.type.here ?_)))
  rw [show (Value.ref C != Value.ref C) = false from by simp]
  simp only [Bool.false_eq_true, if_false]
  refine wpAny_bind (wpAny_pure ?_)
  simp only [Bool.false_eq_true, if_false]
  refine wpAny_bind (wpAny_mono main (fun r s' told => ?_) fun _ _ z => z)
  obtain ⟨n, rfl, q⟩ := told
  exact wpAny_pure q
end
end Lamp
set_option Elab.async false
set_option linter.all false
set_option maxRecDepth 100000
set_option maxHeartbeats 1000000
namespace Lamp
open PySem PySem.Spec PyProof.Rows L2
abbrev sEqR : Stmt := inClass sRound 6
abbrev sCkR : Stmt := top 29
abbrev sCkRs : Stmt := top 30
def partsD (lv : Int) (ls : List (Int × Int)) (fin : Int) : PyData := .list [.int lv, .tuple (ls.map pairD), .int fin]
theorem eqv_pairs : ∀ (ls ms : List (Int × Int)), PyData.eqvAll (ls.map pairD) (ms.map pairD) = decide (ls = ms)
  | [], [] => rfl
  | [], _ :: _ => rfl
  | _ :: _, [] => rfl
  | q :: ls, r :: ms => by
    show (PyData.eqv (pairD q) (pairD r) && PyData.eqvAll (ls.map pairD) (ms.map pairD)) = _
    rw [eqv_pairs ls ms]
    show (((q.1 == r.1) && ((q.2 == r.2) && true)) && decide (ls = ms)) = decide (q :: ls = r :: ms)
    rw [Bool.eq_iff_iff]
    simp only [Bool.and_eq_true, beq_iff_eq, decide_eq_true_eq, List.cons.injEq, and_true]
    constructor
    · rintro ⟨⟨a, b⟩, c⟩
      exact ⟨Prod.ext a b, c⟩
    · rintro ⟨a, c⟩
      rw [a]
      exact ⟨⟨rfl, rfl⟩, c⟩
theorem wt_i {i : Int} (h : i.natAbs < 10 ^ 42) : PyData.weight (.int i) ≤ 141 := by
  unfold PyData.weight
  split
  · omega
  · have : i.natAbs.log2 < 140 := PySem.Flt.log2_lt_of (by decide) (Nat.lt_of_lt_of_le h (by decide))
    omega
theorem pairs_facts : ∀ {ls : List (Int × Int)}, (∀ q ∈ ls, q.1.natAbs < 10 ^ 42 ∧ q.2.natAbs < 10 ^ 42) → PyData.leavesShortAll 43 (ls.map pairD) = true ∧ PyData.weightAll (ls.map pairD) ≤ 285 * ls.length ∧ PyData.showableAll (ls.map pairD) = true
  | [], _ => ⟨rfl, Nat.zero_le _, rfl⟩
  | q :: r, h => by
    obtain ⟨h1, h2, h3⟩ := pairs_facts (ls := r) fun p hp => h p (List.mem_cons_of_mem _ hp)
    obtain ⟨a1, a2⟩ := h q (List.mem_cons_self ..)
    have w1 := wt_i a1
    have w2 := wt_i a2
    refine ⟨?_, ?_, ?_⟩
    · show (PyData.leavesShort 43 (pairD q) && PyData.leavesShortAll 43 (r.map pairD)) = true
      rw [h1, Bool.and_true]
      show (decide ((nS q.1).length ≤ 43) && (decide ((nS q.2).length ≤ 43) && true)) = true
      rw [decide_eq_true (nS_lenW a1), decide_eq_true (nS_lenW a2)]
      rfl
    · show PyData.weight (pairD q) + 1 + PyData.weightAll (r.map pairD) ≤ 285 * (r.length + 1)
      have e : PyData.weight (pairD q) = PyData.weight (.int q.1) + 1 + (PyData.weight (.int q.2) + 1 + 0) := rfl
      omega
    · show (PyData.showable (pairD q) && PyData.showableAll (r.map pairD)) = true
      rw [h3, Bool.and_true]
      show (decide (q.1.natAbs.log2 < 1920) && (decide (q.2.natAbs.log2 < 1920) && true)) = true
      rw [decide_eq_true (fits_log a1), decide_eq_true (fits_log a2)]
      rfl
theorem parts_short {lv : Int} {ls : List (Int × Int)} {fin : Int} (hf : Fit lv ls fin) : (partsD lv ls fin).showable = true ∧ (partsD lv ls fin).depth ≤ 50 ∧ PyData.leavesShort 43 (partsD lv ls fin) = true ∧ (partsD lv ls fin).weight ≤ 40000 := by
  have few := hf.few
  obtain ⟨h1, h2, h3⟩ := pairs_facts hf.all
  have w1 := wt_i hf.lv
  have w2 := wt_i hf.fin
  refine ⟨?_, ?_, ?_, ?_⟩
  · show (decide (lv.natAbs.log2 < 1920) && (PyData.showableAll (ls.map pairD) && (decide (fin.natAbs.log2 < 1920) && true))) = true
    rw [h3, decide_eq_true (fits_log hf.lv), decide_eq_true (fits_log hf.fin)]
    rfl
  · have hd := (lay_pairs ls).2
    show max 0 (max (PyData.depthAll (ls.map pairD) + 1) (max 0 0)) + 1 ≤ 50
    omega
  · show (decide ((nS lv).length ≤ 43) && (PyData.leavesShortAll 43 (ls.map pairD) && (decide ((nS fin).length ≤ 43) && true))) = true
    rw [h1, decide_eq_true (nS_lenW hf.lv), decide_eq_true (nS_lenW hf.fin)]
    rfl
  · show PyData.weight (.int lv) + 1 + (PyData.weightAll (ls.map pairD) + 1 + (PyData.weight (.int fin) + 1 + 0)) ≤ 40000
    omega
def twoP (lv : Int) (ls : List (Int × Int)) (fin : Int) : PyData := .list [partsD lv ls fin, partsD lv ls fin]
theorem twoP_ok {lv : Int} {ls : List (Int × Int)} {fin : Int} (hf : Fit lv ls fin) : (twoP lv ls fin).showable = true ∧ (twoP lv ls fin).depth ≤ 60 ∧ (twoP lv ls fin).shown.length ≤ sizeLine := by
  obtain ⟨h1, h2, h3, h4⟩ := parts_short hf
  refine ⟨?_, ?_, ?_⟩
  · show ((partsD lv ls fin).showable && ((partsD lv ls fin).showable && true)) = true
    rw [h1]
    rfl
  · show max (partsD lv ls fin).depth (max (partsD lv ls fin).depth 0) + 1 ≤ 60
    omega
  · have hs : PyData.leavesShort 43 (twoP lv ls fin) = true := by
      show (PyData.leavesShort 43 (partsD lv ls fin) && (PyData.leavesShort 43 (partsD lv ls fin) && true)) = true
      rw [h3]
      rfl
    have z := PyData.shown_le 43 (by decide) _ hs
    have e : (twoP lv ls fin).weight = (partsD lv ls fin).weight + 1 + ((partsD lv ls fin).weight + 1 + 0) := rfl
    have hl : (16000000 : Nat) ≤ sizeLine := by decide
    have hw : (twoP lv ls fin).weight ≤ 80002 := by omega
    have : (43 + 2) * (twoP lv ls fin).weight ≤ 45 * 80002 := Nat.mul_le_mul (Nat.le_refl _) hw
    omega
/-- isinstance(x, Round) of a round -/
structure IsR (K : PySem.W.Frag) (C : Addr) : Prop where
  cls : PySem.W.findIn K (.ref C) "__class__" = some (some (.builtin "object.__class__"))
  get : PySem.W.specialIn K (.builtin "object.__class__") "__get__" = some (some (.builtin "getset_descriptor.__get__"))
  tak : PySem.W.takesIn K (.builtin "object.__class__") = some true
  mro : PySem.W.mroIn K C (.type "object") = some true
  kit : PySem.W.kitOne K (.ref C) (.ref C) = some true
def spEqR (K : PySem.W.Frag) (C : Addr) : Sp := fun vs H Q _ => ∃ (a b t t' : Addr) (lv fin lv' fin' : Int) (ls ls' : List (Int × Int)), vs = [.ref a, .ref b] ∧ RoundAt C H a lv t fin ∧ RoundAt C H b lv' t' fin' ∧ PicAt K H t ls ∧ PicAt K H t' ls' ∧ Q (.bl (decide (lv = lv' ∧ ls = ls' ∧ fin = fin'))) H
section
variable {P : Program} {w : World} {K : PySem.W.Frag} {mg : Str → Option Value} {base : Heap} {C : Addr}
theorem scEqR : FnScope ["self", "other"] ["self", "other"] (defScope sEqR) := ⟨rfl, rfl, rfl, by decide +kernel, rfl, by decide +kernel, by decide +kernel⟩
theorem v_isR {σ : L2.St} {H : Hp} {b t : Addr} {lv fin : Int} {te : TE} (R : RCls K C) (S : IsR K C) (h : Val te σ H (.ref b)) (hr : RoundAt C H b lv t fin) : Val (tCB (rIsi K) (tCons te (tCons (tC (.ref C)) tNil))) σ H (.bl true) := by
  obtain ⟨dx, hr⟩ := hr
  exact fun Q q => h _ ⟨_, _, .ref C, .ref C, true, rfl, .own C, .base (.ins hr R.cl S.cls S.get S.tak S.mro), S.kit, q⟩
theorem ok_eqR {f : Addr} {fd : FuncData} (F : Fun K "__eq__" "Round.__eq__" sEqR f fd) (R : RCls K C) (S : IsR K C) (mR : mg "Round" = some (.ref C)) (mis : mg "isinstance" = none) : FnOk P w K mg base CX0 1 f fd ["self", "other"] (spEqR K C) := by
  refine F.ok scEqR (fun vs H Q E h => ?_) (fun cdv A outer s H vs Q E hr h => ?_)
  · obtain ⟨a, b, t, t', lv, fin, lv', fin', ls, ls', rfl, _⟩ := h
    rfl
  · obtain ⟨a, b, t, t', lv, fin, lv', fin', ls, ls', rfl, ha, hb, hp, hp', q⟩ := h
    have hu := hr.units
    refine ⟨_, pss_one (ps_ret (pe_and (pe_callB call_isi (by rfl) mis (by decide +kernel) (pa_cons (pv 1) (pa_cons (pe_glob (v := .ref C) rfl mR rfl) pa_nil)))
      (pe_and (pe_cmpR op_eq (pe_fld (pv 0) rfl) (pe_fld (pv 1) rfl) (nomark _)) (pe_and (pe_cmpR (op_eqD hu) (pe_fld (pv 0) rfl) (pe_fld (pv 1) rfl) (nomark _)) (pe_one (pe_cmpR op_eq (pe_fld (pv 0) rfl) (pe_fld (pv 1) rfl) (nomark _))))))), ?_⟩
    refine v_isR R S (val_var rfl) hb _ ⟨true, rfl, iteT ?_⟩
    have h1 : decide (V.int lv = V.int lv') = decide (lv = lv') := by
      rw [Bool.eq_iff_iff, decide_eq_true_eq, decide_eq_true_eq]
      exact ⟨V.int.inj, fun e => by rw [e]⟩
    have h3 : decide (V.int fin = V.int fin') = decide (fin = fin') := by
      rw [Bool.eq_iff_iff, decide_eq_true_eq, decide_eq_true_eq]
      exact ⟨V.int.inj, fun e => by rw [e]⟩
    have v1 : Val (tOp rEq (tFld K (tVar 0) "_levels") (tFld K (tVar 1) "_levels")) (L2.start ["self", "other"] [V.ref a, V.ref b]) H (.bl (decide (lv = lv'))) := val_op (v_lv R (val_var rfl) ha) (v_lv R (val_var rfl) hb) fun Q q => ⟨rfl, by rw [h1]; exact q⟩
    have v2 : Val (tOp (rEqD K) (tFld K (tVar 0) "_lamps") (tFld K (tVar 1) "_lamps")) (L2.start ["self", "other"] [V.ref a, V.ref b]) H (.bl (decide (ls = ls'))) := val_op (v_la R (val_var rfl) ha) (v_la R (val_var rfl) hb) fun Q q => ⟨_, _, dp_pic hp, dp_pic hp', (shaped_pairs ls).2, (shaped_pairs ls').2, by
      show Q (.bl (PyData.eqvAll (ls.map pairD) (ls'.map pairD))) H
      rw [eqv_pairs]
      exact q⟩
    have v3 : Val (tOp rEq (tFld K (tVar 0) "_end") (tFld K (tVar 1) "_end")) (L2.start ["self", "other"] [V.ref a, V.ref b]) H (.bl (decide (fin = fin'))) := val_op (v_en R (val_var rfl) ha) (v_en R (val_var rfl) hb) fun Q q => ⟨rfl, by rw [h3]; exact q⟩
    refine v1 _ ⟨_, rfl, ?_⟩
    by_cases e1 : lv = lv'
    · rw [decide_eq_true e1]
      refine iteT ?_
      refine v2 _ ⟨_, rfl, ?_⟩
      by_cases e2 : ls = ls'
      · rw [decide_eq_true e2]
        refine iteT ?_
        refine v3 _ ?_
        have : decide (lv = lv' ∧ ls = ls' ∧ fin = fin') = decide (fin = fin') := by
          rw [Bool.eq_iff_iff, decide_eq_true_eq, decide_eq_true_eq]
          exact ⟨fun z => z.2.2, fun z => ⟨e1, e2, z⟩⟩
        rw [this] at q
        exact q
      · rw [decide_eq_false e2]
        refine iteF ?_
        rw [decide_eq_false fun z => e2 z.2.1] at q
        exact q
    · rw [decide_eq_false e1]
      refine iteF ?_
      rw [decide_eq_false fun z => e1 z.1] at q
      exact q
end
/-- what a round's properties tell -/
structure Ask3 (P : Program) (w : World) (K : PySem.W.Frag) (mg : Str → Option Value) (base : Heap) (C : Addr) : Prop where
  lv : PrR P w K mg base C "levels" (spLevels C) 1
  la : PrR P w K mg base C "lamps" (spLamps C) 1
  en : PrR P w K mg base C "end" (spEnd C) 1
def spCkR (C : Addr) : Sp := fun vs H Q _ => ∃ (a t : Addr) (lv fin : Int), vs = [.ref a] ∧ RoundAt C H a lv t fin ∧ Q .non H
def spCkRs (C : Addr) : Sp := fun vs H Q _ => ∃ (a b t u : Addr) (lv fin fin' : Int), vs = [.ref a, .ref b] ∧ RoundAt C H a lv t fin ∧ RoundAt C H b lv u fin' ∧ Q .non H
section
variable {P : Program} {w : World} {K : PySem.W.Frag} {mg : Str → Option Value} {base : Heap} {C : Addr}
theorem scCkR : FnScope ["value"] ["value"] (defScope sCkR) := ⟨rfl, rfl, rfl, by decide +kernel, rfl, by decide +kernel, by decide +kernel⟩
theorem scCkRs : FnScope ["trip", "second"] ["trip", "second"] (defScope sCkRs) := ⟨rfl, rfl, rfl, by decide +kernel, rfl, by decide +kernel, by decide +kernel⟩
theorem ok_ckR {f : Addr} {fd : FuncData} (F : Fun K "check_round" "check_round" sCkR f fd) (R : RCls K C) (S : IsR K C) (mR : mg "Round" = some (.ref C)) (mis : mg "isinstance" = none) : FnOk P w K mg base CX0 1 f fd ["value"] (spCkR C) := by
  refine F.ok scCkR (fun vs H Q E h => ?_) (fun cdv A outer s H vs Q E hr h => ?_)
  · obtain ⟨a, t, lv, fin, rfl, _⟩ := h
    rfl
  · obtain ⟨a, t, lv, fin, rfl, ha, q⟩ := h
    refine ⟨_, pss_one (ps_if (pt_not (pt_val (pe_callB call_isi (by rfl) mis (by decide +kernel) (pa_cons (pv 0) (pa_cons (pe_glob (v := .ref C) rfl mR rfl) pa_nil))))) pss_never pss_nil), ?_⟩
    exact st_no (ans_not (b := true) (ans_val (v_isR R S (val_var rfl) ha))) q
theorem ok_ckRs {f : Addr} {fd : FuncData} (F : Fun K "check_rounds" "check_rounds" sCkRs f fd) (R : RCls K C) (Z : Ask3 P w K mg base C) (Cr : Dr P w K mg base (spCkR C) "check_round" ["value"] 1) : FnOk P w K mg base CX0 3 f fd ["trip", "second"] (spCkRs C) := by
  refine F.ok scCkRs (fun vs H Q E h => ?_) (fun cdv A outer s H vs Q E hr h => ?_)
  · obtain ⟨a, b, t, u, lv, fin, fin', rfl, _⟩ := h
    rfl
  · obtain ⟨a, b, t, u, lv, fin, fin', rfl, ha, hb, q⟩ := h
    refine ⟨_, pss_cons (ps_expr (pe_dr Cr (by decide) hr rfl (pa_cons (pv 0) pa_nil)))
      (pss_cons (ps_expr (pe_dr Cr (by decide) hr rfl (pa_cons (pv 1) pa_nil)))
      (pss_one (ps_if (pt_cmpR op_ne (pe_prR Z.lv R (Nat.le_refl _) hr (pv 1)) (pe_prR Z.lv R (Nat.le_refl _) hr (pv 0)) (nomark _)) pss_never pss_nil))), ?_⟩
    obtain ⟨dx, hA⟩ := id ha
    obtain ⟨dy, hB⟩ := id hb
    refine ⟨_, rfl, a, t, lv, fin, rfl, ha, ?_⟩
    refine ⟨_, rfl, b, u, lv, fin', rfl, hb, ?_⟩
    refine ⟨_, rfl, b, dy, _, rfl, hB, b, u, lv, fin', rfl, hb, ?_⟩
    refine ⟨_, rfl, a, dx, _, rfl, hA, a, t, lv, fin, rfl, ha, rfl, false, ?_, iteF q⟩
    rw [decide_eq_true rfl]
    rfl
end
end Lamp
set_option Elab.async false
set_option linter.all false
set_option maxRecDepth 100000
set_option maxHeartbeats 1000000
namespace Lamp
open PySem PySem.Spec PyProof.Rows L2
/-- sorted(d) of a dict whose keys are ints, any number of them -/
def rSortDW : List V → Hp → VK → Prop := fun xs H Q => ∃ (a : Addr) (kvs : List (Key × V)) (ks : List Int), xs = [.ref a] ∧ Rd H a (.dK kvs) ∧ kvs.map (·.1) = ks.map Sum.inl ∧
  ∀ (ys : List Int) (p : Addr), ys.Perm ks → ys.Pairwise (· ≤ ·) → H p = none → Q (.ref p) (upd H p (.lst (ys.map V.int)))
theorem keys_ints {vs : List (Key × Value)} {acc : Array Value} {ks : List Int} (hk : vs.map (·.1) = ks.map Sum.inl) (hn : acc.size = vs.length) (h : ∀ (j : Nat) (v : Value), acc[j]? = some v → ∃ (k : Key) (x : Value), vs[j]? = some (k, x) ∧ keyIs k v = true) : IntsAre acc.toList ks := by
  have hl : vs.length = ks.length := by simpa using congrArg List.length hk
  refine ints_each (by rw [Array.length_toList, hn, hl]) fun j v e => ?_
  obtain ⟨k, x, e1, e2⟩ := h j v (by rw [← Array.getElem?_toList]; exact e)
  have e3 : (ks.map Sum.inl)[j]? = some k := by rw [← hk, List.getElem?_map, e1]; rfl
  rw [List.getElem?_map] at e3
  cases e4 : ks[j]? with
  | none => rw [e4] at e3; cases e3
  | some y =>
    rw [e4] at e3
    cases Option.some.inj e3
    rcases keyIs_shape e2 with ⟨i, t, ek, ev⟩ | ⟨z, t, ek, ev⟩
    · cases ek
      exact ⟨_, t, rfl, ev⟩
    · cases ek
theorem call_sortedDW {X : Cx} (hcalm : X.calm = true) : CallR X (.builtin "sorted") rSortDW := by
  intro pins s σ H xs us Q I r q
  obtain ⟨a, kvs, ks, rfl, hd, hks, q⟩ := q
  rw [Vals.ref1 r]
  obtain ⟨z, lo, vs, rel, dd⟩ := dk_rd I.hok hd
  obtain ⟨ep, hat⟩ := dd.dictAt
  have hkeys : vs.map (·.1) = ks.map Sum.inl := rel.keys.symm.trans hks
  have hz : vs.length ≤ sizeLine := by rw [← rel.length]; exact z
  refine Calls.call_function_entry PyProof.Rows.kind_sorted PyProof.Rows.plain_sorted PyProof.Rows.entry_sorted (PyProof.Rows.args_sorted1 _) ?_
  unfold Builtin.«sorted»
  refine wpAny_bind (m := checkCount "sorted" 1 1 _) (wpAny_pure ?_)
  refine wpAny_bind (PySem.W.kdu_collect (A := X.A.in1) (PySem.W.kdl_dict (knd := mixKind X.prog X.w) (kvs := vs) (ep := ep) lo) (I.ok.hd hcalm) hat hz fun h' tk acc hk hacc => ?_)
  have hS : IntsAre acc.toList ks := keys_ints hkeys hacc.1 fun j v e => by
    obtain ⟨k, x, e1, e2⟩ := hacc.2 j v e
    exact ⟨k, x, e1, e2⟩
  have hz2 : acc.toList.length ≤ sizeLine := by rw [Array.length_toList, hacc.1]; exact hz
  have I1 : Inv X pins σ H { s with heap := h', toks := tk } := I.kept hk
  refine wpAny_bind (wpAny_newList ?_ hz2)
  have hoL : (h'.push (seqObj "list" acc.toList.toArray 0)).get? h'.objs.size = some (seqObj "list" acc.toList.toArray 0) := Heap.get?_push_size _ rfl
  show wpAny _ _ _ _ _ { s with heap := h'.push (seqObj "list" acc.toList.toArray 0), toks := tk }
  refine wpAny_bind (wpAny_holding (wpAny_call_entry PyProof.Rows.slot_list_sort ⟨_, hoL, rfl⟩ PyProof.Rows.entry_list_sort
    (SrtO.list_sort_ord (s := { s with heap := h'.push (seqObj "list" acc.toList.toArray 0), toks := tk }) SrtO.swo_int hoL hz2 (fun h2 => SrtO.ints_sortable hS h2) fun out g1 g2 => ⟨_, rfl, ?_⟩) (PyProof.Rows.args_list_sort _)))
  obtain ⟨k1, k2, k3⟩ := SrtO.ints_out hS g1 g2
  obtain ⟨e', he'⟩ := PyProof.Rows.sortedHeap_at (vs := acc.toList) (out := out.toArray) hoL
  have hlen : ((out.map SrtO.iv).map V.int).length ≤ sizeLine := by
    rw [List.length_map, List.length_map, ← List.length_map (f := SrtO.iv), k2.length_eq]
    have e := congrArg List.length hkeys
    rw [List.length_map, List.length_map] at e
    omega
  refine wpAny_pure ⟨_, rfl, .ref h'.objs.size, upd H h'.objs.size (.lst ((out.map SrtO.iv).map V.int)), I1.laid (t' := tk) (fun b u e => ?_) (Nat.le_refl _)
    (show ObjOk X.prog X.w _ _ _ (.lst ((out.map SrtO.iv).map V.int)) from ⟨hlen, out, e', vals_of_ints k1, he'⟩), rfl, q _ _ k2 k3 (I1.hok.fresh (Nat.le_refl _))⟩
  have hb : b < h'.objs.size := Heap.lt_size e
  rw [PyProof.Rows.sortedHeap_old (Nat.ne_of_lt hb) (by rw [size_push']; exact Nat.lt_succ_of_lt hb)]
  exact Heap.get?_push_of_some _ e
end Lamp
set_option Elab.async false
set_option linter.all false
set_option maxRecDepth 100000
set_option maxHeartbeats 1000000
namespace Lamp
open PySem PySem.Spec PyProof.Rows L2
abbrev sTotal : Stmt := top 35
/-! charts -/
theorem nodup_put {cs : List (Int × Int)} (h : (cs.map (·.1)).Nodup) (k v : Int) : ((putI cs k v).map (·.1)).Nodup ∧ (putI cs k v).length ≤ cs.length + 1 := by
  unfold putI
  split
  · refine ⟨?_, by rw [List.length_map]; omega⟩
    rw [List.map_map]
    have e : ((fun q : Int × Int => q.1) ∘ fun q => if q.1 = k then (q.1, v) else q) = fun q => q.1 := by
      funext q
      show (if q.1 = k then (q.1, v) else q).1 = q.1
      split <;> rfl
    rw [e]
    exact h
  · rename_i hn
    have hk : k ∉ cs.map (·.1) := fun z => by
      obtain ⟨q, hq, e⟩ := List.mem_map.mp z
      exact hn (List.any_eq_true.mpr ⟨q, hq, decide_eq_true e⟩)
    refine ⟨?_, by rw [List.length_append]; exact Nat.le_refl _⟩
    rw [List.map_append]
    exact List.nodup_append.mpr ⟨h, by simp, fun a ha b hb => by simp at hb; subst hb; exact fun e => hk (e ▸ ha)⟩
theorem level_app {k v p : Int} : ∀ {cs : List (Int × Int)}, k ∉ cs.map (·.1) → levelAt (cs ++ [(k, v)]) p = if p = k then v else levelAt cs p
  | [], _ => by
    show levelAt [(k, v)] p = _
    rw [levelAt_cons]
    by_cases h : p = k
    · rw [if_pos h, if_pos h.symm]
    · rw [if_neg h, if_neg fun z => h z.symm]
  | q :: cs, h => by
    show levelAt (q :: (cs ++ [(k, v)])) p = _
    rw [levelAt_cons, levelAt_cons, level_app fun z => h (by rw [List.map_cons]; exact List.mem_cons_of_mem _ z)]
    by_cases e : q.1 = p
    · rw [if_pos e, if_neg fun z => h (by rw [List.map_cons, ← z, e]; exact List.mem_cons_self ..), if_pos e]
    · rw [if_neg e, if_neg e]
theorem level_set {k v p : Int} : ∀ {cs : List (Int × Int)}, k ∈ cs.map (·.1) → levelAt (cs.map fun q => if q.1 = k then (q.1, v) else q) p = if p = k then v else levelAt cs p
  | q :: cs, h => by
    rw [List.map_cons, levelAt_cons, levelAt_cons]
    by_cases e : q.1 = k
    · rw [if_pos e]
      show (if q.1 = p then v else _) = _
      by_cases e2 : q.1 = p
      · rw [if_pos e2, if_pos (by rw [← e2, e])]
      · have np : p ≠ k := fun z => e2 (by rw [e, z])
        rw [if_neg e2, if_neg np, if_neg e2]
        by_cases hk : k ∈ cs.map (·.1)
        · rw [level_set hk, if_neg np]
        · have same : ∀ {ds : List (Int × Int)}, k ∉ ds.map (·.1) → (ds.map fun q => if q.1 = k then (q.1, v) else q) = ds := fun {ds} hd => by
            rw [List.map_congr_left (g := id) fun q hq => by
              rw [if_neg fun z => hd (List.mem_map.mpr ⟨q, hq, z⟩)]
              rfl, List.map_id]
          rw [same hk]
    · have hk : k ∈ cs.map (·.1) := by
        rcases List.mem_cons.mp (by rw [List.map_cons] at h; exact h) with z | z
        · exact absurd z.symm e
        · exact z
      rw [if_neg e]
      by_cases e2 : q.1 = p
      · rw [if_pos e2, if_neg (fun z => e (by rw [e2, z])), if_pos e2]
      · rw [if_neg e2, if_neg e2, level_set hk]
theorem level_put {cs : List (Int × Int)} (k v p : Int) : levelAt (putI cs k v) p = if p = k then v else levelAt cs p := by
  unfold putI
  split
  · rename_i h
    obtain ⟨q, hq, e⟩ := List.any_eq_true.mp h
    exact level_set (List.mem_map.mpr ⟨q, hq, of_decide_eq_true e⟩)
  · rename_i h
    exact level_app fun z => by
      obtain ⟨q, hq, e⟩ := List.mem_map.mp z
      exact h (List.any_eq_true.mpr ⟨q, hq, decide_eq_true e⟩)
theorem val_enc (p : Int) : ∀ ls : List (Int × Int), (valV (enc ls) (Sum.inl p)).getD (.int 0) = .int (levelAt ls p)
  | [] => rfl
  | q :: ls => by
    rw [levelAt_cons]
    by_cases h : q.1 = p
    · rw [if_pos h, show valV (enc (q :: ls)) (Sum.inl p) = some (V.int q.2) from valV_pos (p := (Sum.inl q.1, V.int q.2)) (by show (Sum.inl q.1 : Key) = Sum.inl p; rw [h])]
      rfl
    · rw [if_neg h, show valV (enc (q :: ls)) (Sum.inl p) = valV (enc ls) (Sum.inl p) from valV_neg (p := (Sum.inl q.1, V.int q.2)) (fun z => h (Sum.inl.inj z)), val_enc p ls]
theorem val_some {p : Int} {ls : List (Int × Int)} (h : p ∈ ls.map (·.1)) : valV (enc ls) (Sum.inl p) = some (.int (levelAt ls p)) := by
  obtain ⟨v, e, _⟩ := enc_get h
  have z := val_enc p ls
  rw [e] at z
  rw [e]
  exact congrArg some z
theorem enc_keys (ls : List (Int × Int)) : (enc ls).map (·.1) = (ls.map (·.1)).map Sum.inl := by
  unfold enc
  rw [List.map_map, List.map_map]
  rfl
theorem merge_enc : ∀ {ls acc : List (Int × Int)}, ((acc ++ ls).map (·.1)).Nodup → mergeK (enc acc) (enc ls) = enc (acc ++ ls)
  | [], acc, _ => by rw [List.append_nil]; rfl
  | q :: ls, acc, h => by
    show mergeK (putK (enc acc) (Sum.inl q.1) (V.int q.2)) (enc ls) = _
    have hk : q.1 ∉ acc.map (·.1) := fun z => by
      rw [List.map_append, List.nodup_append] at h
      exact h.2.2 _ z _ (by rw [List.map_cons]; exact List.mem_cons_self ..) rfl
    have e : putI acc q.1 q.2 = acc ++ [q] := by
      unfold putI
      rw [if_neg (fun z => by
        obtain ⟨r, hr, e⟩ := List.any_eq_true.mp z
        exact hk (List.mem_map.mpr ⟨r, hr, of_decide_eq_true e⟩))]
    rw [enc_put, e, merge_enc (by rw [List.append_assoc]; exact h), List.append_assoc]
    rfl
theorem pairs_keys {K : PySem.W.Frag} {H : Hp} : ∀ {as : List Addr} {ls : List (Int × Int)}, Paired (fun a (q : Int × Int) => H a = some (.tup [.int q.1, .int q.2])) as ls → Paired (fun p (kv : Key × V) => SqT K H p [kV kv.1, kv.2]) as (enc ls)
  | _, _, .nil => .nil
  | _, _, .cons h t => .cons (SqT.of h) (pairs_keys t)
/-- at r: a picture, how far it is moved, how often it counts -/
def PartAt (K : PySem.W.Frag) (H : Hp) (r : Addr) (x : Part) : Prop := ∃ t, H r = some (.tup [.ref t, .int x.mv, .int x.tm]) ∧ PicAt K H t x.ls
theorem PartAt.same {K : PySem.W.Frag} {H H' : Hp} {r : Addr} {x : Part} (h : PartAt K H r x) (s : Same H H') : PartAt K H' r x := by
  obtain ⟨t, h1, h2⟩ := h
  exact ⟨t, s _ _ h1, h2.same s⟩
def spTotal (K : PySem.W.Frag) : Sp := fun vs H Q _ => ∃ (lv : Int) (pt : Addr) (rs : List Addr) (xs : List Part), vs = [.int lv, .ref pt] ∧ H pt = some (.tup (rs.map V.ref)) ∧ Paired (PartAt K H) rs xs ∧ 0 < lv ∧
  (∀ x ∈ xs, ∀ q ∈ x.ls, -100 ≤ q.2 ∧ q.2 ≤ 100) ∧ partsLen xs < 8000 ∧ ∀ (t : Addr) (ms : List (Int × Int)) H', Same H H' → PicB K H' t ms → Rising lv ms → (∀ p, sumAt ms p = partsAt xs p % lv) → ms.length ≤ partsLen xs → Q (.ref t) H'
theorem same_at {H H' : Hp} {c : Addr} {o : HO} (s : Same H H') (hc : H c = none) : Same H (upd H' c o) := fun b u e => by
  rw [upd_ne (ne_of_none e hc)]
  exact s b u e
section
variable {P : Program} {w : World} {K : PySem.W.Frag} {mg : Str → Option Value} {base : Heap} {C : Addr}
theorem scTotal : FnScope ["levels", "parts", "sums", "lamps", "by", "times", "place", "level"] ["levels", "parts"] (defScope sTotal) := ⟨rfl, rfl, rfl, by decide +kernel, rfl, by decide +kernel, by decide +kernel⟩
theorem ok_total {f : Addr} {fd : FuncData} (F : Fun K "total" "total" sTotal f fd) (mt : mg "tuple" = none) (ms : mg "sorted" = none) : FnOk P w K mg base CX0 1 f fd ["levels", "parts"] (spTotal K) := by
  refine F.ok scTotal (fun vs H Q E h => ?_) (fun cdv A outer s H vs Q E hr h => ?_)
  · obtain ⟨lv, pt, rs, xs, rfl, _⟩ := h
    rfl
  · obtain ⟨lv, pt, rs, xs, rfl, hpt, hpa, h0, hlev, h64, q⟩ := h
    have hu := hu_of hr
    have hlen := Paired.length hpa
    refine ⟨_, pss_cons (ps_set (i := 2) scTotal.nd rfl (.inr rfl) pe_dnewK)
      (pss_cons (ps_for PassesOwn.never rfl (pi_tup (pv 1)) (pg_tup rfl (pgs_cons (pg_name (i := 3) scTotal.nd rfl (.inl rfl)) (pgs_cons (pg_name (i := 4) scTotal.nd rfl (.inl rfl)) (pgs_cons (pg_name (i := 5) scTotal.nd rfl (.inl rfl)) pgs_nil))))
        (pss_one (ps_for PassesOwn.never rfl (pi_tup (pv 3)) (pg_tup rfl (pgs_cons (pg_name (i := 6) scTotal.nd rfl (.inl rfl)) (pgs_cons (pg_name (i := 7) scTotal.nd rfl (.inl rfl)) pgs_nil)))
          (pss_one (ps_dput hu (pv 2) (pe_op op_add (pv 6) (pv 4)) (pe_op op_add (pe_dget2 hu (pv 2) (pe_op op_add (pv 6) (pv 4)) pe_int ⟨rfl, rfl, rfl, rfl⟩) (pe_op op_mul (pv 5) (pv 7))) rfl)))))
      (pss_one (ps_ret (pe_callTy call_tupB (by rfl) mt (by decide +kernel) (pa_cons (pe_lc (own := [("place", 6)]) (g := gName 6) rfl scTotal.nd
          (pi_list (pe_callB (call_sortedDW rfl) (by rfl) ms (by decide +kernel) (pa_cons (pv 2) pa_nil)))
          (blkOk_by (own := [("place", 6)]) (N := ["levels", "parts", "sums", "lamps", "by", "times", "place", "level"]) (sc := defScope sTotal) (by decide +kernel)) (fun _ _ _ _ _ => pg_name (i := 6) scTotal.nd rfl (Or.inl rfl))
          (fun _ _ _ _ _ => pts_one (pt_cmpR op_ne (pe_op op_mod (pe_dget hu (pv 2) (pv 6) (fun _ _ => rfl)) (pv 0)) pe_int (nomark _)))
          (fun _ _ _ _ _ => pe_tup (pa_cons (pv 6) (pa_cons (pe_op op_mod (pe_dget hu (pv 2) (pv 6) (fun _ _ => rfl)) (pv 0)) pa_nil)))) pa_nil))))), ?_⟩
    refine sq_setR (fun v H' => ∃ c, v = .ref c ∧ H c = none ∧ H' = upd H c (.dK [])) (fun Q' q' c hc => q' _ _ ⟨c, rfl, hc, rfl⟩) ?_
    rintro v H0 ⟨c, rfl, hc, rfl⟩
    refine ⟨_, rfl, pt, rfl, ⟨_, SqT.of (same_of hc _ _ hpt)⟩, for_tup (xs := rs.map V.ref) (fun i σ' H' => Same H H' ∧ ∃ x3 x4 x5 x6 x7 cs, σ' = [some (.int lv), some (.ref pt), some (.ref c), x3, x4, x5, x6, x7] ∧ H' c = some (.dK (enc cs)) ∧ (cs.map (·.1)).Nodup ∧ (∀ p, levelAt cs p = partsAt (xs.take i) p) ∧ cs.length ≤ partsLen (xs.take i))
      ⟨same_of hc, _, _, _, _, _, [], rfl, upd_same, .nil, fun p => rfl, Nat.le_refl _⟩ (fun i σ' H' _ z => SqT.of (z.1 _ _ hpt)) (fun i v σ' H' hv z => ?_) (fun σ' H' z => ?_)⟩
    · obtain ⟨s1, x3, x4, x5, x6, x7, cs, rfl, hcs, nd, hF, hl⟩ := z
      rw [List.getElem?_map] at hv
      cases er : rs[i]? with
      | none => rw [er] at hv; cases hv
      | some r =>
        rw [er] at hv
        have ex : v = V.ref r := (Option.some.inj hv).symm
        subst ex
        obtain ⟨x, hx, t, hrt, hpic⟩ := paired_get hpa er
        obtain ⟨as, ht, hal, hat⟩ := pair_get hpic
        have hlx := partsLen_take hx
        have hxm := List.mem_of_getElem? hx
        refine ⟨r, _, rfl, SqT.of (s1 _ _ hrt), rfl, _, _, rfl, _, _, rfl, _, _, rfl, rfl, ?_⟩
        refine ⟨_, rfl, t, rfl, ⟨_, .inl (rd_same ht s1)⟩, for_tup (xs := as.map V.ref) (fun j σ' H' => Same H H' ∧ ∃ x6 x7 cs, σ' = [some (.int lv), some (.ref pt), some (.ref c), some (.ref t), some (.int x.mv), some (.int x.tm), x6, x7] ∧ H' c = some (.dK (enc cs)) ∧ (cs.map (·.1)).Nodup ∧ (∀ p, levelAt cs p = partsAt (xs.take i) p + x.tm * sumAt (x.ls.take j) (p - x.mv)) ∧ cs.length ≤ partsLen (xs.take i) + j)
          ⟨s1, _, _, cs, rfl, hcs, nd, fun p => by rw [List.take_zero, sumAt_nil, Int.mul_zero, Int.add_zero]; exact hF p, hl⟩ (fun j σ' H' _ z => .inl (rd_same ht z.1)) (fun j v σ' H' hv z => ?_) (fun σ' H' z => ?_)⟩
        · obtain ⟨s2, y6, y7, ds, rfl, hds, nd2, hG, hl2⟩ := z
          rw [List.getElem?_map] at hv
          cases ea : as[j]? with
          | none => rw [ea] at hv; cases hv
          | some a =>
            rw [ea] at hv
            have ex : v = V.ref a := (Option.some.inj hv).symm
            subst ex
            have lj : j < x.ls.length := by rw [← hal]; exact (List.getElem?_eq_some_iff.mp ea).1
            have eq := List.getElem?_eq_getElem lj
            have ha := s2 _ _ (hat j a _ ea eq)
            have lev := hlev x hxm _ (List.getElem_mem lj)
            refine ⟨a, _, rfl, SqT.of ha, rfl, _, _, rfl, _, _, rfl, rfl, ?_⟩
            refine ⟨_, rfl, c, rfl, .inl ⟨_, .inl hds⟩, _, rfl, _, rfl, _, _, rfl, rfl, _, DGet.k (k := Sum.inl (x.ls[j].1 + x.mv)) hds, ?_⟩
            rw [val_enc]
            refine ⟨_, rfl, _, rfl, _, _, rfl, rfl, mulR (by omega), _, _, rfl, rfl, ?_⟩
            refine ⟨_, rfl, _, rfl, _, rfl, _, _, rfl, rfl, c, _, rfl, DPut.k (k := Sum.inl (x.ls[j].1 + x.mv)) hds ?_, ?_⟩
            · unfold enc
              rw [List.length_map]
              rw [sizeLine_eq]; omega
            · obtain ⟨n1, n2⟩ := nodup_put nd2 (x.ls[j].1 + x.mv) (levelAt ds (x.ls[j].1 + x.mv) + x.tm * x.ls[j].2)
              refine ⟨same_at s2 hc, _, _, putI ds (x.ls[j].1 + x.mv) (levelAt ds (x.ls[j].1 + x.mv) + x.tm * x.ls[j].2), rfl, by rw [upd_same, enc_put], n1, fun p => ?_, by omega⟩
              rw [level_put, List.take_add_one, eq, sumAt_app]
              show _ = _ + x.tm * (_ + sumAt [x.ls[j]] (p - x.mv))
              rw [sumAt_cons, sumAt_nil, Int.add_zero]
              by_cases hp : p = x.ls[j].1 + x.mv
              · rw [if_pos hp, if_pos (by omega), hG, hp, Int.mul_add, Int.add_assoc]
              · rw [if_neg hp, if_neg (by omega), Int.add_zero]
                exact hG p
        · obtain ⟨s2, y6, y7, ds, rfl, hds, nd2, hG, hl2⟩ := z
          rw [List.length_map, hal] at hl2
          refine ⟨s2, _, _, _, _, _, ds, rfl, hds, nd2, fun p => ?_, ?_⟩
          · have z := hG p
            rw [List.length_map, hal, List.take_length] at z
            rw [z, List.take_add_one, hx, partsAt_app]
            show _ = _ + partsAt [x] p
            rw [partsAt_one]
            rfl
          · have e : partsLen (xs.take (i + 1)) = partsLen (xs.take i) + x.ls.length := by
              unfold partsLen
              rw [List.take_add_one, hx, List.map_append, List.sum_append]
              show _ + ([x].map fun x => x.ls.length).sum = _
              rw [List.map_cons, List.map_nil, List.sum_cons, List.sum_nil, Nat.add_zero]
            omega
    · obtain ⟨s1, x3, x4, x5, x6, x7, cs, rfl, hcs, nd, hF, hl⟩ := z
      rw [List.length_map, hlen, List.take_length] at hF hl
      refine ⟨_, rfl, c, enc cs, cs.map (·.1), rfl, .inl hcs, enc_keys cs, fun ns' sr perm asc nsr => ⟨sr, rfl, ⟨_, SqL.of upd_same⟩, fun D hD => ?_⟩⟩
      have s2 := same_of (o := .lst (ns'.map V.int)) nsr
      have ndn : ns'.Nodup := perm.nodup_iff.mpr nd
      have memo : ∀ n, n ∈ ns' ↔ n ∈ cs.map (·.1) := fun n => perm.mem_iff
      have hlen2 : ns'.length ≤ partsLen xs := by rw [perm.length_eq, List.length_map]; exact hl
      refine lc_genL (us := ns') (enc := V.int) (out := fun n => if levelAt cs n % lv = 0 then none else some (n, levelAt cs n % lv)) (Rel := IsP) isp_st hD (SqL.of upd_same) (by omega) ?_ ?_
      · intro i n H2 hn s3 R' Z' hR hZ
        have hc2 := s3 _ _ (s2 _ _ hcs)
        have hv := val_some ((memo n).mp (List.mem_of_getElem? hn))
        have get : DGet H2 c (.int n) (some (.int (levelAt cs n))) := .inl ⟨enc cs, Sum.inl n, .inl hc2, rfl, hv.symm⟩
        refine ⟨rfl, ?_⟩
        refine ⟨_, rfl, _, rfl, c, _, rfl, get, _, rfl, _, _, rfl, rfl, h0, rfl, decide (levelAt cs n % lv ≠ 0), ?_, ?_⟩
        · show V.bl (!decide (V.int (levelAt cs n % lv) = V.int 0)) = _
          by_cases z : levelAt cs n % lv = 0
          · rw [decide_eq_true (by rw [z]), decide_eq_false (by simpa using z)]
            rfl
          · rw [decide_eq_false (fun e => z (V.int.inj e)), decide_eq_true (by simpa using z)]
            rfl
        · by_cases z : levelAt cs n % lv = 0
          · rw [decide_eq_false (by simpa using z)]
            exact iteF (hZ _ (if_pos z) (Same.refl _))
          · rw [decide_eq_true (by simpa using z)]
            refine iteT ?_
            refine ⟨_, rfl, _, rfl, _, rfl, c, _, rfl, get, _, rfl, _, _, rfl, rfl, h0, (by show 2 ≤ sizeLine; decide), fun tp ntp => ?_⟩
            exact hR _ _ _ (if_neg z) (same_of ntp) ⟨tp, rfl, upd_same⟩
      · intro H2 ys s3 hD' hp'
        obtain ⟨bs, ey, hb⟩ := isp_all hp'
        subst ey
        refine ⟨D, _, rfl, SqL.of hD', fun t' o nt ho => ?_⟩
        have s4 := same_of (o := .frz o (.tup (bs.map V.ref))) nt
        have hb2 : Paired (fun a (q : Int × Int) => H2 a = some (.tup [.int q.1, .int q.2])) bs (tidy lv (levelAt cs) ns') := hb
        refine q t' (tidy lv (levelAt cs) ns') _ (s1.trans (s2.trans (s3.trans s4))) ⟨bs, ⟨o, upd_same, ho⟩, L2.Paired.mapP hb2 fun a r z => s4 _ _ z⟩ (tidy_asc h0 (lt_of_le_nodup asc ndn)) (fun p => ?_) (Nat.le_trans (tidy_len ns') hlen2)
        rw [tidy_at p ndn, hF]
        by_cases hp : p ∈ ns'
        · rw [if_pos hp]
        · rw [if_neg hp]
          have z := hF p
          rw [level_out (fun k => hp ((memo p).mpr k))] at z
          rw [← z]
          exact (Int.zero_emod lv).symm
end
end Lamp
set_option Elab.async false
set_option linter.all false
set_option maxRecDepth 100000
set_option maxHeartbeats 1000000
namespace Lamp
open PySem PySem.Spec PyProof.Rows L2
abbrev sCkMany : Stmt := top 32
abbrev sRol : Stmt := top 33
abbrev sThen : Stmt := top 37
def spCkMany : Sp := fun vs H Q _ => ∃ i : Int, vs = [.int i] ∧ i ≤ 400 ∧ Q .non H
def spRol (K : PySem.W.Frag) (C : Addr) : Sp := fun vs H Q _ => ∃ (t : Addr) (lv fin : Int) (ls : List (Int × Int)), vs = [.int lv, .ref t, .int fin] ∧ goodLv lv ∧ PicAt K H t ls ∧ IsPicW lv ls ∧ ∀ a H', Same H H' → H a = none → RoundAt C H' a lv t fin → Q (.ref a) H'
/-- at a: a round of such a picture -/
structure RndW (K : PySem.W.Frag) (C : Addr) (H : Hp) (a : Addr) (lv fin : Int) (ls : List (Int × Int)) : Prop where
  ex : ∃ t, RoundAt C H a lv t fin ∧ PicAt K H t ls
  good : goodLv lv
  pic : IsPicW lv ls
theorem RndW.same {K : PySem.W.Frag} {C : Addr} {H H' : Hp} {a : Addr} {lv fin : Int} {ls : List (Int × Int)} (h : RndW K C H a lv fin ls) (s : Same H H') : RndW K C H' a lv fin ls := by
  obtain ⟨⟨t, h1, h2⟩, h3, h4⟩ := h
  exact ⟨⟨t, h1.same s, h2.same s⟩, h3, h4⟩
def spThen (K : PySem.W.Frag) (C : Addr) : Sp := fun vs H Q _ => ∃ (a b : Addr) (lv fin fin' : Int) (ls ls' : List (Int × Int)), vs = [.ref a, .ref b] ∧ RndW K C H a lv fin ls ∧ RndW K C H b lv fin' ls' ∧ ls.length + ls'.length < 401 ∧
  ∀ (r : Addr) (ms : List (Int × Int)) H', Same H H' → RndW K C H' r lv (fin + fin') ms → (∀ p, sumAt ms p = partsAt [⟨ls, 0, 1⟩, ⟨ls', fin, 1⟩] p % lv) → ms.length ≤ ls.length + ls'.length → Q (.ref r) H'
theorem Rising.w {lv : Int} {ls : List (Int × Int)} (h : Rising lv ls) (few : ls.length ≤ 400) : IsPicW lv ls := ⟨h.asc, h.lv, few⟩
theorem IsPicW.rise {lv : Int} {ls : List (Int × Int)} (h : IsPicW lv ls) : Rising lv ls := ⟨h.asc, h.lv⟩
theorem good_pos {lv : Int} (h : goodLv lv) : 0 < lv ∧ lv ≤ 7 := by
  rcases h with h | h | h | h <;> omega
theorem lev_small {lv : Int} {ls : List (Int × Int)} (h : goodLv lv) (p : IsPicW lv ls) : ∀ q ∈ ls, -100 ≤ q.2 ∧ q.2 ≤ 100 := fun q hq => by
  have := p.lv q hq
  have := good_pos h
  omega
section
variable {P : Program} {w : World} {K : PySem.W.Frag} {mg : Str → Option Value} {base : Heap} {C : Addr}
theorem scCkMany : FnScope ["many"] ["many"] (defScope sCkMany) := ⟨rfl, rfl, rfl, by decide +kernel, rfl, by decide +kernel, by decide +kernel⟩
theorem scRol : FnScope ["levels", "lamps", "end"] ["levels", "lamps", "end"] (defScope sRol) := ⟨rfl, rfl, rfl, by decide +kernel, rfl, by decide +kernel, by decide +kernel⟩
theorem scThen : FnScope ["trip", "second", "lamps"] ["trip", "second"] (defScope sThen) := ⟨rfl, rfl, rfl, by decide +kernel, rfl, by decide +kernel, by decide +kernel⟩
theorem ok_ckMany {f : Addr} {fd : FuncData} {t1 : Tok} (F : Fun K "check_many" "check_many" sCkMany f fd) (mML : mg "MOST_LAMPS" = some (.int 400 t1)) : FnOk P w K mg base CX0 1 f fd ["many"] spCkMany := by
  refine F.ok scCkMany (fun vs H Q E h => ?_) (fun cdv A outer s H vs Q E hr h => ?_)
  · obtain ⟨i, rfl, _⟩ := h
    rfl
  · obtain ⟨i, rfl, hi, q⟩ := h
    refine ⟨_, pss_one (ps_if (pt_cmpR op_gt (pv 0) (pe_glob (v := .int 400) rfl mML ⟨_, rfl⟩) (nomark _)) pss_never pss_nil), ?_⟩
    exact st_no (an_gt (val_var rfl) val_c (decide_eq_false (by omega))) q
theorem ok_rol {f : Addr} {fd : FuncData} (F : Fun K "round_of_lamps" "round_of_lamps" sRol f fd) (Cm : Dr P w K mg base spCkMany "check_many" ["many"] 1) (M : MkR P w K mg base C) (mR : mg "Round" = some (.ref C)) (ml : mg "len" = none) : FnOk P w K mg base CX0 6 f fd ["levels", "lamps", "end"] (spRol K C) := by
  refine F.ok scRol (fun vs H Q E h => ?_) (fun cdv A outer s H vs Q E hr h => ?_)
  · obtain ⟨t, lv, fin, ls, rfl, _⟩ := h
    rfl
  · obtain ⟨t, lv, fin, ls, rfl, hg, hp, hi, q⟩ := h
    refine ⟨_, pss_cons (ps_expr (pe_dr Cm (by decide) hr rfl (pa_cons (pe_callB call_len_seq (by rfl) ml PySem.boot_len (pa_cons (pv 1) pa_nil)) pa_nil)))
      (pss_one (ps_ret (pe_mkR M hr rfl mR (pa_cons (pv 0) (pa_cons (pv 1) (pa_cons (pv 2) pa_nil)))))), ?_⟩
    obtain ⟨as, ht, hlen, _⟩ := pair_get hp
    have few := hi.few
    refine ⟨_, rfl, t, _, rfl, .inr (.inl ht), _, rfl, ?_, ?_⟩
    · rw [List.length_map, hlen]; omega
    · exact ⟨_, rfl, _, rfl, _, rfl, lv, t, fin, rfl, ls, hg, hp, hi, q⟩
theorem ok_then {f : Addr} {fd : FuncData} (F : Fun K "then" "then" sThen f fd) (R : RCls K C) (Z : Ask3 P w K mg base C) (Cs : Dr P w K mg base (spCkRs C) "check_rounds" ["trip", "second"] 3) (To : Dr P w K mg base (spTotal K) "total" ["levels", "parts"] 1) (Ro : Dr P w K mg base (spRol K C) "round_of_lamps" ["levels", "lamps", "end"] 6) : FnOk P w K mg base CX0 7 f fd ["trip", "second"] (spThen K C) := by
  refine F.ok scThen (fun vs H Q E h => ?_) (fun cdv A outer s H vs Q E hr h => ?_)
  · obtain ⟨a, b, lv, fin, fin', ls, ls', rfl, _⟩ := h
    rfl
  · obtain ⟨a, b, lv, fin, fin', ls, ls', rfl, ⟨⟨t, ha, hp⟩, hg, hi⟩, ⟨⟨u, hb, hp'⟩, _, hi'⟩, h64, q⟩ := h
    refine ⟨_, pss_cons (ps_expr (pe_dr Cs (by decide) hr rfl (pa_cons (pv 0) (pa_cons (pv 1) pa_nil))))
      (pss_cons (ps_set (i := 2) scThen.nd rfl (.inl rfl) (pe_dr To (by decide) hr rfl (pa_cons (pe_prR Z.lv R (by decide) hr (pv 0)) (pa_cons (pe_tup (pa_cons (pe_tup (pa_cons (pe_prR Z.la R (by decide) hr (pv 0)) (pa_cons pe_int (pa_cons pe_int pa_nil))))
          (pa_cons (pe_tup (pa_cons (pe_prR Z.la R (by decide) hr (pv 1)) (pa_cons (pe_prR Z.en R (by decide) hr (pv 0)) (pa_cons pe_int pa_nil)))) pa_nil))) pa_nil))))
      (pss_one (ps_ret (pe_dr Ro (Nat.le_refl _) hr rfl (pa_cons (pe_prR Z.lv R (by decide) hr (pv 0)) (pa_cons (pv 2) (pa_cons (pe_op op_add (pe_prR Z.en R (by decide) hr (pv 0)) (pe_prR Z.en R (by decide) hr (pv 1))) pa_nil))))))), ?_⟩
    obtain ⟨dx, hA⟩ := id ha
    obtain ⟨dy, hB⟩ := id hb
    refine ⟨_, rfl, _, rfl, a, b, t, u, lv, fin, fin', rfl, ha, hb, ?_⟩
    refine ⟨_, rfl, a, dx, _, rfl, hA, a, t, lv, fin, rfl, ha, ?_⟩
    refine ⟨_, rfl, a, dx, _, rfl, hA, a, t, lv, fin, rfl, ha, (by show 3 ≤ sizeLine; decide), fun r1 n1 => ?_⟩
    have s1 := same_of (o := .tup [V.ref t, V.int 0, V.int 1]) n1
    refine ⟨_, rfl, b, dy, _, rfl, s1 _ _ hB, b, u, lv, fin', rfl, hb.same s1, ?_⟩
    refine ⟨_, rfl, a, dx, _, rfl, s1 _ _ hA, a, t, lv, fin, rfl, ha.same s1, (by show 3 ≤ sizeLine; decide), fun r2 n2 => ?_⟩
    have s2 := s1.trans (same_of (o := .tup [V.ref u, V.int fin, V.int 1]) n2)
    refine ⟨(by show 2 ≤ sizeLine; decide), fun pt npt => ?_⟩
    have s3' := same_of (o := .tup [V.ref r1, V.ref r2]) npt
    have s3 := s2.trans s3'
    have e : partsLen [⟨ls, 0, 1⟩, ⟨ls', fin, 1⟩] = ls.length + ls'.length := by
      unfold partsLen
      rw [List.map_cons, List.map_cons, List.map_nil, List.sum_cons, List.sum_cons, List.sum_nil]
      rfl
    refine ⟨lv, pt, [r1, r2], [⟨ls, 0, 1⟩, ⟨ls', fin, 1⟩], rfl, upd_same, .cons ⟨t, ?_, hp.same s3⟩ (.cons ⟨u, ?_, hp'.same s3⟩ .nil), (good_pos hg).1, ?_, by omega, fun tt ms H' s4 hpb hri hsum hl => ?_⟩
    · exact (Same.trans (same_of n2) s3') _ _ upd_same
    · exact s3' _ _ upd_same
    · intro x hx
      simp only [List.mem_cons, List.not_mem_nil, or_false] at hx
      rcases hx with rfl | rfl
      · exact lev_small hg hi
      · exact lev_small hg hi'
    · have s5 := s3.trans s4
      have few : ms.length ≤ 400 := by omega
      refine ⟨_, rfl, a, dx, _, rfl, s5 _ _ hA, a, t, lv, fin, rfl, ha.same s5, _, rfl, ?_⟩
      refine ⟨_, rfl, a, dx, _, rfl, s5 _ _ hA, a, t, lv, fin, rfl, ha.same s5, ?_⟩
      refine ⟨_, rfl, b, dy, _, rfl, s5 _ _ hB, b, u, lv, fin', rfl, hb.same s5, _, _, rfl, rfl, ?_⟩
      refine ⟨tt, lv, fin + fin', ms, rfl, hg, hpb.at, hri.w few, fun r H6 s6 nr hR => ?_⟩
      exact q r ms H6 (s5.trans s6) ⟨⟨tt, hR, hpb.at.same s6⟩, hg, hri.w few⟩ hsum (by omega)
end
end Lamp
set_option Elab.async false
set_option linter.all false
set_option maxRecDepth 100000
set_option maxHeartbeats 1000000
namespace Lamp
/-! sums modulo the levels -/
def Cg (lv a b : Int) : Prop := a % lv = b % lv
section
variable {lv a b c d : Int}
theorem Cg.rfl' : Cg lv a a := rfl
theorem Cg.of (h : a = b) : Cg lv a b := by rw [h]; exact rfl
theorem Cg.symm (h : Cg lv a b) : Cg lv b a := Eq.symm h
theorem Cg.trans (h : Cg lv a b) (k : Cg lv b c) : Cg lv a c := Eq.trans h k
theorem Cg.add (h : Cg lv a b) (k : Cg lv c d) : Cg lv (a + c) (b + d) := by
  unfold Cg at *
  rw [Int.add_emod, h, k, ← Int.add_emod]
theorem Cg.mul (h : Cg lv a b) (n : Int) : Cg lv (n * a) (n * b) := by
  unfold Cg at *
  rw [Int.mul_emod, h, ← Int.mul_emod]
theorem Cg.neg (h : Cg lv a b) : Cg lv (-a) (-b) := by
  have z := h.mul (-1)
  rw [Int.neg_mul, Int.neg_mul, Int.one_mul, Int.one_mul] at z
  exact z
theorem Cg.mod : Cg lv (a % lv) a := Int.emod_emod_of_dvd a (Int.dvd_refl lv)
theorem Cg.md (h : a = b % lv) : Cg lv a b := by rw [h]; exact Cg.mod
end
theorem then_sum {ls ls' : List (Int × Int)} {fin p : Int} : partsAt [⟨ls, 0, 1⟩, ⟨ls', fin, 1⟩] p = sumAt ls p + sumAt ls' (p - fin) := by
  unfold partsAt partAt
  rw [List.map_cons, List.map_cons, List.map_nil, List.sum_cons, List.sum_cons, List.sum_nil, Int.one_mul, Int.one_mul, Int.add_zero, Int.sub_zero]
theorem undo_sum {ls : List (Int × Int)} {fin p : Int} : partsAt [⟨ls, -fin, -1⟩] p = -(sumAt ls (p + fin)) := by
  unfold partsAt partAt
  rw [List.map_cons, List.map_nil, List.sum_cons, List.sum_nil, Int.add_zero, Int.neg_mul, Int.one_mul, Int.sub_neg]
/-- pictures whose levels are the same modulo the levels are the same -/
theorem Rising.same {lv : Int} {ls ms : List (Int × Int)} (h1 : Rising lv ls) (h2 : Rising lv ms) (h0 : 0 < lv) (h : ∀ p, Cg lv (sumAt ls p) (sumAt ms p)) : ls = ms := h1.ext h2 fun p => by
  have a := h1.range h0 p
  have b := h2.range h0 p
  have z := h p
  unfold Cg at z
  rw [Int.emod_eq_of_lt a.1 a.2, Int.emod_eq_of_lt b.1 b.2] at z
  exact z
theorem undo_level {lv fin p : Int} : ∀ {ls : List (Int × Int)}, (∀ q ∈ ls, 1 ≤ q.2 ∧ q.2 < lv) → levelAt (undo lv fin ls) p = if levelAt ls (p + fin) = 0 then 0 else lv - levelAt ls (p + fin)
  | [], _ => rfl
  | q :: ls, h => by
    have h1 := h q (List.mem_cons_self ..)
    show levelAt ((q.1 - fin, lv - q.2) :: undo lv fin ls) p = _
    rw [levelAt_cons, levelAt_cons]
    by_cases e : q.1 = p + fin
    · rw [if_pos e, if_pos (show q.1 - fin = p by omega), if_neg (by omega)]
    · rw [if_neg e, if_neg (show ¬ q.1 - fin = p by omega), undo_level fun r hr => h r (List.mem_cons_of_mem _ hr)]
theorem undo_rise {lv fin : Int} {ls : List (Int × Int)} (h : Rising lv ls) : Rising lv (undo lv fin ls) := by
  refine ⟨?_, fun q hq => ?_⟩
  · have a := h.asc
    unfold undo
    rw [List.map_map]
    rw [List.pairwise_map] at a ⊢
    exact a.imp fun z => by show _ - fin < _ - fin; omega
  · obtain ⟨r, hr, rfl⟩ := List.mem_map.mp hq
    have z := h.lv r hr
    exact ⟨by show 1 ≤ lv - r.2; omega, by show lv - r.2 < lv; omega⟩
theorem undo_cg {lv fin p : Int} {ls : List (Int × Int)} (h : Rising lv ls) : Cg lv (sumAt (undo lv fin ls) p) (-(sumAt ls (p + fin))) := by
  rw [sum_levelAt (undo_rise h).nd, sum_levelAt h.nd, undo_level h.lv]
  by_cases z : levelAt ls (p + fin) = 0
  · rw [if_pos z, z]
    exact rfl
  · rw [if_neg z]
    unfold Cg
    rw [show lv - levelAt ls (p + fin) = -levelAt ls (p + fin) + lv * 1 by omega, Int.add_mul_emod_self_left]
theorem sum_take {ls : List (Int × Int)} {j : Nat} (h : j < ls.length) (p : Int) : sumAt (ls.take (j + 1)) p = sumAt (ls.take j) p + (if ls[j].1 = p then ls[j].2 else 0) := by
  rw [List.take_add_one, List.getElem?_eq_getElem h, sumAt_app]
  show _ + sumAt [ls[j]] p = _
  rw [sumAt_cons, sumAt_nil, Int.add_zero]
end Lamp
set_option Elab.async false
set_option linter.all false
set_option maxRecDepth 100000
set_option maxHeartbeats 1000000
namespace Lamp
open PySem PySem.Spec PyProof.Rows L2
abbrev sTidy : Stmt := top 50
abbrev sLThen : Stmt := top 51
abbrev sMate : Stmt := top 52
/-- at l: a list of levels, picture and end -/
structure PartsB (K : PySem.W.Frag) (H : Hp) (l : Addr) (lv fin : Int) (ls : List (Int × Int)) : Prop where
  ex : ∃ t, H l = some (.lst [.int lv, .ref t, .int fin]) ∧ PicB K H t ls
  rise : Rising lv ls
theorem PartsB.same {K : PySem.W.Frag} {H H' : Hp} {l : Addr} {lv fin : Int} {ls : List (Int × Int)} (h : PartsB K H l lv fin ls) (s : Same H H') : PartsB K H' l lv fin ls := by
  obtain ⟨⟨t, h1, h2⟩, h3⟩ := h
  exact ⟨⟨t, s _ _ h1, h2.same s⟩, h3⟩
theorem PartsB.data {K : PySem.W.Frag} {H : Hp} {l : Addr} {lv fin : Int} {ls : List (Int × Int)} (h : PartsB K H l lv fin ls) : Dp K H (.ref l) (partsD lv ls fin) := by
  obtain ⟨⟨t, h1, h2⟩, _⟩ := h
  exact .lst (SqL.of h1) (.cons (.int _) (.cons (dp_pic h2.at) (.cons (.int _) .nil)))
theorem PartsAt.b {K : PySem.W.Frag} {H : Hp} {l t : Addr} {r : Parts} (h : PartsAt K H l t r) (p : IsPic r.lv r.ls) : PartsB K H l r.lv r.fin r.ls := ⟨⟨t, h.1, h.2⟩, ⟨p.asc, p.lv⟩⟩
def spTidy (K : PySem.W.Frag) : Sp := fun vs H Q _ => ∃ (lv : Int) (c : Addr) (cs : List (Int × Int)), vs = [.int lv, .ref c] ∧ H c = some (.dK (enc cs)) ∧ (cs.map (·.1)).Nodup ∧ cs.length < 401 ∧ 0 < lv ∧
  ∀ (t : Addr) (ms : List (Int × Int)) H', Same H H' → PicB K H' t ms → Rising lv ms → (∀ p, sumAt ms p = levelAt cs p % lv) → ms.length ≤ cs.length → Q (.ref t) H'
def spLThen (K : PySem.W.Frag) : Sp := fun vs H Q _ => ∃ (l m : Addr) (lv fin fin' : Int) (ls ls' : List (Int × Int)), vs = [.ref l, .ref m] ∧ PartsB K H l lv fin ls ∧ PartsB K H m lv fin' ls' ∧ 0 < lv ∧ ls.length + ls'.length < 401 ∧
  ∀ (l' : Addr) (ms : List (Int × Int)) H', Same H H' → PartsB K H' l' lv (fin + fin') ms → (∀ p, sumAt ms p = (sumAt ls p + sumAt ls' (p - fin)) % lv) → ms.length ≤ ls.length + ls'.length → Q (.ref l') H'
def spMate (K : PySem.W.Frag) : Sp := fun vs H Q _ => ∃ (p : Addr) (lv : Int), vs = [.ref p, .int lv] ∧ goodLv lv ∧ Pail H p ∧ ∀ (l t : Addr) (r : Parts) H', r.lv = lv → r.Ok → PartsAt K (delH H' p) l t r → Pail H' p → But p H H' → Q (.ref l) H'
section
variable {P : Program} {w : World} {K : PySem.W.Frag} {mg : Str → Option Value} {base : Heap} {C : Addr}
theorem scTidy : FnScope ["_law_p", "_law_chart", "_law_found", "_law_at", "_law_pair"] ["_law_p", "_law_chart"] (defScope sTidy) := ⟨rfl, rfl, rfl, by decide +kernel, rfl, by decide +kernel, by decide +kernel⟩
theorem scLThen : FnScope ["_law_near", "_law_far", "_law_p", "_law_lamps_here", "_law_last", "_law_chart", "_law_at", "_law_level"] ["_law_near", "_law_far"] (defScope sLThen) := ⟨rfl, rfl, rfl, by decide +kernel, rfl, by decide +kernel, by decide +kernel⟩
theorem scMate : FnScope ["_law_pail", "_law_p", "_law_some"] ["_law_pail", "_law_p"] (defScope sMate) := ⟨rfl, rfl, rfl, by decide +kernel, rfl, by decide +kernel, by decide +kernel⟩
theorem ok_tidy {f : Addr} {fd : FuncData} (F : Fun K "_law_tidy" "_law_tidy" sTidy f fd) (mt : mg "tuple" = none) (ms : mg "sorted" = none) (ml : mg "list" = none) (mi : mg "int" = none) : FnOk P w K mg base CX0 1 f fd ["_law_p", "_law_chart"] (spTidy K) := by
  refine F.ok scTidy (fun vs H Q E h => ?_) (fun cdv A outer s H vs Q E hr h => ?_)
  · obtain ⟨lv, c, cs, rfl, _⟩ := h
    rfl
  · obtain ⟨lv, c, cs, rfl, hc, nd, h64, h0, q⟩ := h
    have hu := hu_of hr
    refine ⟨_, pss_cons (ps_setLc (i := 2) (own := [("_law_at", 3)]) (g := gName 3) (tt := tYes) rfl scTidy.nd rfl rfl (sw_true rfl rfl rfl rfl)
          (pi_list (pe_callB cr_sortedI (by rfl) ms (by decide +kernel) (pa_cons (pe_callTy (call_list_dK rfl) (by rfl) ml (by decide +kernel) (pa_cons (pv 1) pa_nil)) pa_nil)))
          (blkOk_by (own := [("_law_at", 3)]) (N := ["_law_p", "_law_chart", "_law_found", "_law_at", "_law_pair"]) (sc := defScope sTidy) (by decide +kernel)) (fun _ _ _ _ _ => pg_name (i := 3) scTidy.nd rfl (Or.inl rfl)) (fun _ _ _ _ _ => pts_nil)
          (fun _ _ _ _ _ => pe_tup (pa_cons (pv 3) (pa_cons (pe_op op_mod (pe_callTy call_int1 (by rfl) mi (by decide +kernel) (pa_cons (pe_dget hu (pv 1) (pv 3) (fun _ _ => rfl)) pa_nil)) (pv 0)) pa_nil))))
      (pss_one (ps_ret (pe_callTy call_tupB (by rfl) mt (by decide +kernel) (pa_cons (pe_lc (own := [("_law_pair", 4)]) (g := gName 4) rfl scTidy.nd (pi_list (pv 2))
          (blkOk_by (own := [("_law_pair", 4)]) (N := ["_law_p", "_law_chart", "_law_found", "_law_at", "_law_pair"]) (sc := defScope sTidy) (by decide +kernel)) (fun _ _ _ _ _ => pg_name (i := 4) scTidy.nd rfl (Or.inl rfl))
          (fun _ _ _ _ _ => pts_one (pt_cmpR op_ne (pe_ix (r := rIxT K) ix_tup (pv 4) pe_int (fun _ _ => rfl)) pe_int (nomark _)))
          (fun _ _ _ _ _ => pv 4)) pa_nil)))), ?_⟩
    have keys : (enc cs).map (fun kv => kV kv.1) = (cs.map (·.1)).map V.int := by
      unfold enc
      rw [List.map_map, List.map_map]
      rfl
    refine ⟨_, rfl, c, enc cs, rfl, hc, fun l nl => ⟨l, cs.map (·.1), rfl, SqL.of (by rw [upd_same, keys]), fun ns' sr perm asc nsr => ⟨sr, rfl, ⟨_, SqL.of upd_same⟩, fun D hD => ?_⟩⟩⟩
    have s1 : Same H (upd H l (.lst ((enc cs).map fun kv => kV kv.1))) := same_of nl
    have s2 := s1.trans (same_of (o := .lst (ns'.map V.int)) nsr)
    have ndn : ns'.Nodup := perm.nodup_iff.mpr nd
    have memo : ∀ n, n ∈ ns' ↔ n ∈ cs.map (·.1) := fun n => perm.mem_iff
    have hlen2 : ns'.length = cs.length := by rw [perm.length_eq, List.length_map]
    refine lc_genL (us := ns') (enc := V.int) (out := fun n => some (n, levelAt cs n % lv)) (Rel := IsP) isp_st hD (SqL.of upd_same) (by omega) ?_ ?_
    · intro i n H2 hn s3 R' Z' hR hZ
      have hv := val_some ((memo n).mp (List.mem_of_getElem? hn))
      have get : DGet H2 c (.int n) (some (.int (levelAt cs n))) := .inl ⟨enc cs, Sum.inl n, .inl (s3 _ _ (s2 _ _ hc)), rfl, hv.symm⟩
      refine ⟨rfl, ?_⟩
      refine ⟨_, rfl, _, rfl, _, rfl, c, _, rfl, get, .inl ⟨_, rfl, _, rfl, _, _, rfl, rfl, h0, (by show 2 ≤ sizeLine; decide), fun tp ntp => ?_⟩⟩
      exact hR _ _ _ rfl (same_of ntp) ⟨tp, rfl, upd_same⟩
    · intro H2 ys s3 hD2 hp2
      obtain ⟨as, ey, ha⟩ := isp_all hp2
      subst ey
      have eq : ns'.filterMap (fun n => some (n, levelAt cs n % lv)) = ns'.map fun n => (n, levelAt cs n % lv) := by rw [List.filterMap_eq_map']
      rw [eq] at ha
      have hal := Paired.length ha
      refine ⟨_, rfl, D, rfl, ⟨_, SqL.of hD2⟩, fun D2 hD2' => ?_⟩
      refine lc_genL (us := as.zip (ns'.map fun n => (n, levelAt cs n % lv))) (enc := fun u => V.ref u.1) (out := fun u => if u.2.2 = 0 then none else some u.2) (Rel := IsP) isp_st hD2' (by rw [zip_fst hal]; exact SqL.of hD2) (by rw [List.length_zip, List.length_map] at *; omega) ?_ ?_
      · intro i u H4 hu' s4 R' Z' hR hZ
        obtain ⟨hu1, hu2⟩ := zip_at hu'
        obtain ⟨q', hq', e⟩ := paired_get ha hu1
        rw [hu2] at hq'
        cases hq'
        have h4 := s4 _ _ e
        refine ⟨rfl, ?_⟩
        refine ⟨_, rfl, u.1, _, 1, _, rfl, rfl, SqT.of h4, rfl, rfl, decide (u.2.2 ≠ 0), ?_, ?_⟩
        · show V.bl (!decide (V.int u.2.2 = V.int 0)) = _
          by_cases z : u.2.2 = 0
          · rw [decide_eq_true (by rw [z]), decide_eq_false (by simpa using z)]
            rfl
          · rw [decide_eq_false (fun e => z (V.int.inj e)), decide_eq_true (by simpa using z)]
            rfl
        · by_cases z : u.2.2 = 0
          · rw [decide_eq_false (by simpa using z)]
            exact iteF (hZ _ (if_pos z) (Same.refl _))
          · rw [decide_eq_true (by simpa using z)]
            exact iteT ⟨_, rfl, hR _ _ _ (if_neg z) (Same.refl _) ⟨u.1, rfl, h4⟩⟩
      · intro H4 ys s4 hD4 hp4
        obtain ⟨bs, ey, hb⟩ := isp_all hp4
        subst ey
        rw [show (as.zip (ns'.map fun n => (n, levelAt cs n % lv))).filterMap (fun u => if u.2.2 = 0 then none else some u.2) = (as.zip (ns'.map fun n => (n, levelAt cs n % lv))).filterMap (fun u => (fun (r : Int × Int) => if r.2 = 0 then none else some r) u.2) from rfl, zip_out (fun (r : Int × Int) => if r.2 = 0 then none else some r) hal, List.filterMap_map] at hb
        have hb2 : Paired (fun a (q : Int × Int) => H4 a = some (.tup [.int q.1, .int q.2])) bs (tidy lv (levelAt cs) ns') := hb
        refine ⟨D2, _, rfl, SqL.of hD4, fun t' o nt ho => ?_⟩
        have s5 := same_of (o := .frz o (.tup (bs.map V.ref))) nt
        refine q t' (tidy lv (levelAt cs) ns') _ (s2.trans (s3.trans (s4.trans s5))) ⟨bs, ⟨o, upd_same, ho⟩, L2.Paired.mapP hb2 fun a r z => s5 _ _ z⟩ (tidy_asc h0 (lt_of_le_nodup asc ndn)) (fun p => ?_) (by rw [← hlen2]; exact tidy_len ns')
        rw [tidy_at p ndn]
        by_cases hp : p ∈ ns'
        · rw [if_pos hp]
        · rw [if_neg hp, level_out (fun k => hp ((memo p).mpr k))]
          exact (Int.zero_emod lv).symm
theorem ok_lthen {f : Addr} {fd : FuncData} (F : Fun K "_law_then" "_law_then" sLThen f fd) (Ti : Dr P w K mg base (spTidy K) "_law_tidy" ["_law_p", "_law_chart"] 1) (md : mg "dict" = none) : FnOk P w K mg base CX0 2 f fd ["_law_near", "_law_far"] (spLThen K) := by
  refine F.ok scLThen (fun vs H Q E h => ?_) (fun cdv A outer s H vs Q E hr h => ?_)
  · obtain ⟨l, m, lv, fin, fin', ls, ls', rfl, _⟩ := h
    rfl
  · obtain ⟨l, m, lv, fin, fin', ls, ls', rfl, ⟨⟨t, hl, hB⟩, hrise⟩, ⟨⟨t', hm, hB'⟩, hrise'⟩, h0, h64, q⟩ := h
    have hu := hu_of hr
    refine ⟨_, pss_cons (ps_asg (pv 0) (pg_unl rfl (pgs_cons (pg_name (i := 2) scLThen.nd rfl (.inl rfl)) (pgs_cons (pg_name (i := 3) scLThen.nd rfl (.inl rfl)) (pgs_cons (pg_name (i := 4) scLThen.nd rfl (.inl rfl)) pgs_nil)))))
      (pss_cons (ps_set (i := 5) scLThen.nd rfl (.inl rfl) (pe_callTy (call_dictT rfl) (by rfl) md (by decide +kernel) (pa_cons (pv 3) pa_nil)))
      (pss_cons (ps_for PassesOwn.never rfl (pi_tup (pe_ix ix_list (pv 1) pe_int (fun _ _ => rfl))) (pg_tup rfl (pgs_cons (pg_name (i := 6) scLThen.nd rfl (.inl rfl)) (pgs_cons (pg_name (i := 7) scLThen.nd rfl (.inl rfl)) pgs_nil)))
        (pss_one (ps_dput hu (pv 5) (pe_op op_add (pv 6) (pv 4)) (pe_op op_add (pe_dget2 hu (pv 5) (pe_op op_add (pv 6) (pv 4)) pe_int ⟨rfl, rfl, rfl, rfl⟩) (pv 7)) rfl)))
      (pss_one (ps_ret (pe_lst (pa_cons (pv 2) (pa_cons (pe_dr Ti (Nat.le_refl _) hr rfl (pa_cons (pv 2) (pa_cons (pv 5) pa_nil))) (pa_cons (pe_op op_add (pv 4) (pe_ix ix_list (pv 1) pe_int (fun _ _ => rfl))) pa_nil)))))))), ?_⟩
    refine ⟨_, rfl, l, _, rfl, SqL.of hl, rfl, _, _, rfl, _, _, rfl, _, _, rfl, rfl, ?_⟩
    obtain ⟨as, hbare, hpa⟩ := id hB
    obtain ⟨bs, ht', hbl, hbt⟩ := pair_get hB'.at
    refine ⟨_, rfl, t, as, enc ls, rfl, hbare, pairs_keys hpa, fun c hc => ?_⟩
    rw [show mergeK ([] : List (Key × V)) (enc ls) = enc ls from merge_enc (acc := []) hrise.nd]
    have s1 : Same H (upd H c (.dK (enc ls))) := same_of hc
    refine ⟨_, rfl, m, _, 1, _, rfl, rfl, SqL.of (s1 _ _ hm), rfl, t', rfl, ⟨_, .inl (rd_same ht' s1)⟩, for_tup (xs := bs.map V.ref) (fun j σ' H' => Same H H' ∧ ∃ x6 x7 cs, σ' = [some (.ref l), some (.ref m), some (.int lv), some (.ref t), some (.int fin), some (.ref c), x6, x7] ∧ H' c = some (.dK (enc cs)) ∧ (cs.map (·.1)).Nodup ∧ (∀ p, levelAt cs p = sumAt ls p + sumAt (ls'.take j) (p - fin)) ∧ cs.length ≤ ls.length + j)
      ⟨s1, _, _, ls, rfl, upd_same, hrise.nd, fun p => by rw [List.take_zero, sumAt_nil, Int.add_zero, sum_levelAt hrise.nd], Nat.le_refl _⟩ (fun j σ' H' _ z => .inl (rd_same ht' z.1)) (fun j v σ' H' hv z => ?_) (fun σ' H' z => ?_)⟩
    · obtain ⟨s2, y6, y7, ds, rfl, hds, nd2, hG, hl2⟩ := z
      rw [List.getElem?_map] at hv
      cases ea : bs[j]? with
      | none => rw [ea] at hv; cases hv
      | some a =>
        rw [ea] at hv
        have ex : v = V.ref a := (Option.some.inj hv).symm
        subst ex
        have lj : j < ls'.length := by rw [← hbl]; exact (List.getElem?_eq_some_iff.mp ea).1
        have eq := List.getElem?_eq_getElem lj
        have ha := s2 _ _ (hbt j a _ ea eq)
        refine ⟨a, _, rfl, SqT.of ha, rfl, _, _, rfl, _, _, rfl, rfl, ?_⟩
        refine ⟨_, rfl, c, rfl, .inl ⟨_, .inl hds⟩, _, rfl, _, rfl, _, _, rfl, rfl, _, DGet.k (k := Sum.inl (ls'[j].1 + fin)) hds, ?_⟩
        rw [val_enc]
        refine ⟨_, rfl, _, _, rfl, rfl, ?_⟩
        refine ⟨_, rfl, _, rfl, _, rfl, _, _, rfl, rfl, c, _, rfl, DPut.k (k := Sum.inl (ls'[j].1 + fin)) hds ?_, ?_⟩
        · unfold enc
          rw [List.length_map]
          exact small1000 (by omega)
        · obtain ⟨n1, n2⟩ := nodup_put nd2 (ls'[j].1 + fin) (levelAt ds (ls'[j].1 + fin) + ls'[j].2)
          refine ⟨same_at s2 hc, _, _, putI ds (ls'[j].1 + fin) (levelAt ds (ls'[j].1 + fin) + ls'[j].2), rfl, by rw [upd_same, enc_put], n1, fun p => ?_, by omega⟩
          rw [level_put, sum_take lj]
          by_cases hp : p = ls'[j].1 + fin
          · rw [if_pos hp, if_pos (by omega), hG, hp, Int.add_assoc]
          · rw [if_neg hp, if_neg (by omega), Int.add_zero]
            exact hG p
    · obtain ⟨s2, y6, y7, ds, rfl, hds, nd2, hG, hl2⟩ := z
      rw [List.length_map, hbl] at hG hl2
      rw [List.take_length] at hG
      refine ⟨_, rfl, _, rfl, _, rfl, lv, c, ds, rfl, hds, nd2, by omega, h0, fun t2 ms H3 s3 hpb hri hsum hml => ?_⟩
      refine ⟨_, rfl, _, rfl, m, _, 2, _, rfl, rfl, SqL.of (s3 _ _ (s2 _ _ hm)), rfl, _, _, rfl, rfl, (by show 3 ≤ sizeLine; decide), fun l' nl => ?_⟩
      have s4 := same_of (o := .lst [V.int lv, V.ref t2, V.int (fin + fin')]) nl
      exact q l' ms _ (s2.trans (s3.trans s4)) ⟨⟨t2, upd_same, hpb.same s4⟩, hri⟩ (fun p => by rw [hsum, hG]) (by omega)
theorem ok_mate {f : Addr} {fd : FuncData} (F : Fun K "_law_mate" "_law_mate" sMate f fd) (An : Dr P w K mg base spAny "_law_any_of" ["_law_pail", "_law_some"] 2) (Pl : Dr P w K mg base spPlace "_law_place" ["_law_pail"] 3)
    (Pc : Dr P w K mg base (spPicture K) "_law_picture" ["_law_pail", "_law_p", "_law_many"] 4) : FnOk P w K mg base CX0 5 f fd ["_law_pail", "_law_p"] (spMate K) := by
  refine F.ok scMate (fun vs H Q E h => ?_) (fun cdv A outer s H vs Q E hr h => ?_)
  · obtain ⟨p, lv, rfl, _⟩ := h
    rfl
  · obtain ⟨p, lv, rfl, hg, hp, q⟩ := h
    have h7 := good_pos hg
    have lv2 : 2 ≤ lv := by rcases hg with e | e | e | e <;> omega
    refine ⟨_, pss_cons (ps_set (i := 2) scMate.nd rfl (.inl rfl) (pe_dr Pc (Nat.le_refl _) hr rfl (pa_cons (pv 0) (pa_cons (pv 1) (pa_cons (pe_dr An (by decide) hr rfl (pa_cons (pv 0) (pa_cons (pe_lst (pa_cons pe_int (pa_cons pe_int (pa_cons pe_int (pa_cons pe_int pa_nil))))) pa_nil))) pa_nil)))))
      (pss_one (ps_ret (pe_lst (pa_cons (pv 1) (pa_cons (pv 2) (pa_cons (pe_dr An (by decide) hr rfl (pa_cons (pv 0) (pa_cons (pe_lst (pa_cons pe_int (pa_cons pe_int (pa_cons (pe_un un_neg pe_int) (pa_cons pe_int (pa_cons (pe_dr Pl (by decide) hr rfl (pa_cons (pv 0) pa_nil)) pa_nil)))))) pa_nil))) pa_nil)))))), ?_⟩
    refine ⟨_, rfl, _, rfl, _, rfl, (by show 4 ≤ sizeLine; decide), fun l2 n2 => ⟨p, l2, _, rfl, hp.ne n2, upd_same, by decide, by decide, hp.same (same_of n2), fun v2 H2 hv2 hp2 bt2 => ?_⟩⟩
    have bt2' : But p H H2 := (But.of (same_of n2)).trans bt2
    have hn : ∃ n : Nat, v2 = .int (n : Int) ∧ n ≤ 5 := by
      simp only [List.mem_cons, List.not_mem_nil, or_false] at hv2
      rcases hv2 with rfl | rfl | rfl | rfl
      · exact ⟨0, rfl, by decide⟩
      · exact ⟨1, rfl, by decide⟩
      · exact ⟨2, rfl, by decide⟩
      · exact ⟨3, rfl, by decide⟩
    obtain ⟨n, rfl, hn⟩ := hn
    refine ⟨p, lv, n, rfl, by omega, by omega, hn, hp2, fun t ls H3 pic pat _ hp3 bt3 => ?_⟩
    refine ⟨_, rfl, _, rfl, _, rfl, _, rfl, _, rfl, p, rfl, hp3, fun z H4 z0 z1 hp4 bt4 => ⟨(by show 5 ≤ sizeLine; decide), fun l4 n4 => ?_⟩⟩
    have s4 := same_of (o := .lst [V.int 0, V.int 1, V.int (-1), V.int 2, V.int z]) n4
    refine ⟨p, l4, _, rfl, hp4.ne n4, upd_same, by show 0 < 5; decide, by show 5 < 1000000; decide, hp4.same s4, fun x H5 hx hp5 bt5 => ⟨(by show 3 ≤ sizeLine; decide), fun l3 n3 => ?_⟩⟩
    have eb : big = 1000000000000000000000000000000000000000 := by decide
    have hfin : ∃ k : Int, x = .int k ∧ -big ≤ k ∧ k ≤ big := by
      simp only [List.mem_cons, List.not_mem_nil, or_false] at hx
      rcases hx with rfl | rfl | rfl | rfl | rfl
      · exact ⟨0, rfl, by omega, by omega⟩
      · exact ⟨1, rfl, by omega, by omega⟩
      · exact ⟨-1, rfl, by omega, by omega⟩
      · exact ⟨2, rfl, by omega, by omega⟩
      · exact ⟨z, rfl, by omega, by omega⟩
    obtain ⟨k, rfl, k0, k1⟩ := hfin
    have s3 := same_of (o := .lst [V.int lv, V.ref t, V.int k]) n3
    have bt35 : But p H3 H5 := bt4.trans ((But.of s4).trans bt5)
    exact q l3 t ⟨lv, ls, k⟩ _ rfl ⟨hg, pic, k0, k1⟩ ⟨by rw [delH_ne (hp5.ne n3), upd_same], (pat.same bt35.del).same (But.of s3).del⟩ (hp5.same s3) (bt2'.trans (bt3.trans (bt35.trans (But.of s3))))
end
end Lamp
set_option Elab.async false
set_option linter.all false
set_option maxRecDepth 100000
set_option maxHeartbeats 1000000
namespace Lamp
open PySem PySem.Spec PyProof.Rows L2
/-! exceptions raised, and asked of where they are handled -/
section
variable {X : Cx} {W : WX} {e : Expr} {te : TE} {pos : Pos}
/-- an expression that gives a new exception of the program, as what is raised -/
theorem pmk_xo (noEx : X.ex = []) (he : PE X e te) : PMk X e (fun σ H Q => te σ H fun x H1 => ∃ (a C : Addr) (d : Option Addr), x = .ref a ∧ H1 a = some (exo a C d) ∧ Fr0 X.H_0 a ∧ Raises X (.ref C) ∧ Q (.ref C) d (delH H1 a)) := by
  intro pins s σ H Q I told
  refine wpAny_mono (he.run pins s σ H _ I told) (fun u s1 made => ?_) fun _ _ z => z
  obtain ⟨v, H1, I1, rel, a, C, d, rfl, at_, fr, rs, q⟩ := made
  cases rel
  obtain ⟨t1, there⟩ := exo_at I1.hok at_
  obtain ⟨G, sub, gone, J⟩ := I1.untrack at_ fr noEx
  exact ⟨a, _, _, { s1 with heap := G }, delH H1 a, .ref C, d, rfl, J, sub, gone, there, ⟨rfl, rfl⟩, rfl, rfl, delH_same, rfl, I1.bare, rs, q⟩
theorem raises_ec {C : Addr} {B newId initId : String} {tail : List Value} (T : EC X.K C B newId initId tail) (ty : PySem.W.typeIn X.K (.ref C) = some (.type "type")) : Raises X (.ref C) := raises_own T.exC ty
end
/-! an exception that is handled, at p -/
/-- the exception's class and its dict -/
structure Pinned (p : Addr × Obj) (D dd : Addr) : Prop where
  z : Zc (.ref D) (some dd) p.2
  f : ∃ vs, p.2.data = .fields vs
section
variable {X : Cx} {p : Addr × Obj} {D dd : Addr}
theorem pinned_inst {pins : List (Addr × Obj)} {σ : L2.St} {H : Hp} {s : Shared} {fs : List (Str × V)} (I : Inv X pins σ H s) (hp : p ∈ X.pn) (Z : Pinned p D dd) (hd : H dd = some (exd dd fs)) : ∃ (mA : Str → Option Value) (o : Obj), PySem.W.InstAt s.heap p.1 p.2 D (some o) ∧ s.heap.Ns1 dd mA ∧ (∀ f, RelO (fs.lookup f) (mA f)) ∧ s.heap.get? dd = some o := by
  obtain ⟨⟨h1, h2⟩, vs, h3⟩ := Z
  obtain ⟨mA, nm, rel⟩ := exd_at I.hok hd
  obtain ⟨o, es, ep, ho, r⟩ := id nm
  have pin := (I.pin p (List.mem_append_left _ hp)).1
  exact ⟨mA, o, ⟨pin, h1, by unfold PySem.W.notCls; rw [h3] <;> rfl, by rw [h2]; exact ho⟩, nm, rel, ho⟩
/-- isinstance(e, c) of it -/
def rIsP (K : PySem.W.Frag) (a D dd : Addr) : List V → Hp → VK → Prop := fun xs H Q => ∃ (c : V) (u : Value) (b : Bool) (fs : List (Str × V)), xs = [.ref a, c] ∧ H dd = some (exd dd fs) ∧ ClsV c u ∧ PySem.W.kitOne K (.ref D) u = some b ∧ Q (.bl b) H
theorem call_isP (G : ClsG X.K) (T : ∃ (B newId initId : String) (tail : List Value), EC X.K D B newId initId tail) (hp : p ∈ X.pn) (Z : Pinned p D dd) : CallR X (.builtin "isinstance") (rIsP X.K p.1 D dd) := by
  intro pins s σ H xs us Q I r h
  obtain ⟨c, cv, b, fs, rfl, hd, hc, hk, q⟩ := h
  obtain ⟨u1, u2, rfl, r1, r2⟩ := vals2 r
  have e1 : u1 = Value.ref p.1 := r1
  subst e1
  have e2 := hc.eq r2
  subst e2
  obtain ⟨mA, o, J, _⟩ := pinned_inst I hp Z hd
  obtain ⟨B, newId, initId, tail, T⟩ := T
  have isCls : (PySem.W.clsIn X.K D).isSome = true := by
    obtain ⟨cd, hcd, _⟩ := PySem.W.any_some T.hd
    rw [hcd]
    rfl
  exact PySem.W.kia_one (PySem.W.kitx_exc isCls T.ga T.gg T.exC T.cls G.get G.tak T.obj) I.kIn J hk (fun z => nomatch z) fun tk => ⟨.bl b, H, I.tok tk, rfl, q⟩
/-- e.f of it -/
def tXfP (a dd : Addr) (f : Str) (te : TE) : TE := fun σ H Q => te σ H fun x H1 => x = .ref a ∧ ∃ (fs : List (Str × V)) (y : V), H1 dd = some (exd dd fs) ∧ fs.lookup f = some y ∧ Q y H1
theorem pe_xfP {e : Expr} {te : TE} {pos : Pos} {f : Str} (T : ∃ (B newId initId : String) (tail : List Value), EC X.K D B newId initId tail) (hno : PySem.W.findIn X.K (.ref D) f = some none) (hp : p ∈ X.pn) (Z : Pinned p D dd) (he : PE X e te)
    (hb : attributeBase e f X.env (eval e X.env) = eval e X.env := by rfl) : PE X (.Attribute e f pos) (tXfP p.1 dd f te) := by
  refine ⟨fun pins s σ H Q I h => attr_of hb (thn (he.run pins s σ H _ I h) fun u s1 ⟨x, H1, I1, r1, told⟩ => ?_)⟩
  obtain ⟨ex, fs, y, hd, hl, q⟩ := told
  subst ex
  have eu : u = Value.ref p.1 := r1
  subst eu
  obtain ⟨B, newId, initId, tail, T⟩ := T
  obtain ⟨mA, o, J, named, rel, ho⟩ := pinned_inst I1 hp Z hd
  obtain ⟨od, hod, look⟩ := lookIn_ns named
  rw [ho] at hod
  cases hod
  have rf := rel f
  rw [hl] at rf
  obtain ⟨v, hv, rv⟩ := RelO.some_of (v := y) (o := mA f) rf
  exact HandSPX.exc_get I1.kIn J T.ga T.gg T.exC (PySem.W.findObj_own T.hd hno rfl (by rw [look, hv])) (handed_of rv) ⟨y, H1, I1.tok _, rv, q⟩
end
/-! a def that is called where an exception is handled: what it promises of it -/
abbrev SpP := Addr → Addr → Addr → Sp
structure FnP (P : Program) (w : World) (K : PySem.W.Frag) (mg : Str → Option Value) (base : Heap) (k : Nat) (f : Addr) (fd : FuncData) (ps : List Str) (sp : SpP) : Prop where
  many : ∀ a D dd vs H Q E, sp a D dd vs H Q E → vs.length = ps.length
  goes : ∀ (A : Around) (out : List Env) (s : Shared) (H : Hp) (ar : Args) (us : List Value) (vs : List V) (Q : VK) (p : Addr × Obj) (D dd : Addr), A.guards = some [] → L2H.RoomH k A → L2H.PinOk out H s p → Pinned p D dd → Env0 P w K mg base A out s H →
    BindsTo s fd ar (ps.zip us) → Vals vs us → sp p.1 D dd vs H Q E0 → codeAny (model P w) A (.call (.ref f) ar) (CR CX0 out P w H s Q E0) s
section
variable {P : Program} {w : World} {K : PySem.W.Frag} {mg : Str → Option Value} {base : Heap}
/-- the rule for such a def, by its body -/
theorem okP {x qual : Str} {st : Stmt} {f : Addr} {fd : FuncData} {N ps : List Str} {k : Nat} {sp : SpP} (F : Fun K x qual st f fd) (S : FnScope N ps (defScope st)) (len : ∀ a D dd vs H Q E, sp a D dd vs H Q E → vs.length = ps.length)
    (hbody : ∀ (cdv : Value) (A : Around) (outer : List Env) (s : Shared) (H : Hp) (vs : List V) (Q : VK) (p : Addr × Obj) (D dd : Addr), A.guards = some [] → L2H.RoomH k (A.deeper (envOfC qual (defScope st) s.heap.objs.size f cdv)) → Pinned p D dd → sp p.1 D dd vs H Q E0 →
      ∃ t, PSs (L2H.cxH CX0 P w K mg base N qual (defScope st) f cdv A outer s H E0 p).nox (defBody st) t ∧ t { nx := fun _ H' => Q .non H', rt := Q } (start N vs) H) : FnP P w K mg base (k + 1) f fd ps sp := by
  obtain ⟨oc, od, kV, doc, pm, an, cdv, ct, osl, efd, hlk, hcode⟩ := F.ex
  subst efd
  refine ⟨len, fun A out s H ar us vs Q p D dd hgd hroom hpin hz hst hbind hvals hs => ?_⟩
  have hcount := len _ _ _ _ _ _ _ hs
  have inK : K.In s.heap := hst.mod.kin.keeps fun b o e => (hst.bs b o e).1
  have noLim : s.heap.NoLimit := hst.mod.nolimit.keeps fun b o e => (hst.bs b o e).1
  refine codeAny_call_function hroom.depth (inK _ _ hlk) rfl S.co S.gen rfl (PySem.W.codeRec_of inK hcode) (hbind _ _ _ _ ?_)
  refine wpAny_newFunctionEnv_cells S.kind (fun y hy => ?_) fun env eenv s1 xin => ?_
  · obtain ⟨nm, val⟩ := y
    cases S.par nm (List.of_mem_zip hy).1 with
    | inl isLocal => exact .inl isLocal
    | inr isCell => exact .inr ⟨isCell, PySem.W.cellsFrom_some _ _ _ (.inl isCell)⟩
  subst eenv
  refine ⟨noLim.keeps xin.toInCall.keep, codeAny_func ?_⟩
  obtain ⟨t, ht0, hq⟩ := hbody cdv A out s H vs Q p D dd hgd (hroom.deeper _) hz hs
  have ht := ht0.nox
  have inv0 : Inv (L2H.cxH CX0 P w K mg base N qual (defScope st) f cdv A out s H E0 p) [] (start N vs) H s1 := L2H.inv_startH S hpin hst hcount hvals xin
  have fin : ∀ {σ' : L2.St} {H' : Hp} {v : V} {u : Value} {s' : Shared}, Inv (L2H.cxH CX0 P w K mg base N qual (defScope st) f cdv A out s H E0 p) [] σ' H' s' → RelV v u → Q v H' → CE out P w H s Q u s' := fun J rv q => ⟨_, _, J.os, J.bare, J.base, J.hok, rv, q⟩
  refine wpAny_mono (ht.run [] s1 (start N vs) H _ inv0 hq) (fun flow s' told => ?_) fun e s' told => told
  match flow, told with
  | .ret u, ⟨v, σ', H', J, rv, q⟩ => exact fin J rv q
  | .next, ⟨σ', H', J, q⟩ => exact fin (v := V.non) (u := Value.none) J rfl q
  | .brk, ⟨_, _, _, q⟩ => exact False.elim q
  | .cont, ⟨_, _, _, q⟩ => exact False.elim q
end
section
variable {X : Cx} {k : Nat} {f : Addr} {fd : FuncData} {ps : List Str} {sp : SpP} {x : Str} {q pos : Pos} {e : Expr} {es : List Expr} {t : TA} {p : Addr × Obj} {D dd : Addr}
theorem runP {pins : List (Addr × Obj)} {σ : L2.St} {H : Hp} {s : Shared} {Q : VK} {us : List Value} {vs : List V} (F : FnP X.prog X.w X.K X.mg X.base k f fd ps sp) (hgd : X.A.guards = some []) (hr : L2H.RoomH k X.A) (hp : p ∈ X.pn) (Z : Pinned p D dd) (hb : Binds X.K fd ps [])
    (I : Inv X pins σ H s) (r : Vals vs us) (h : sp p.1 D dd vs H Q E0) : wpAny (model X.prog X.w) X.A (call (.ref f) us) (EP X pins σ Q) X.xe s := by
  have hl : (us ++ []).length = ps.length := by rw [List.append_nil, ← r.length]; exact F.many _ _ _ _ _ _ _ h
  have hbb := hb s us I.kIn hl
  rw [List.append_nil] at hbb
  obtain ⟨g1, g2, g3, g4, g5⟩ := I.pin p (List.mem_append_left _ hp)
  have pin : L2H.PinOk X.stack H s p := ⟨g1, g2, fun hm => (List.mem_cons.mp (I.stkSub p.1 hm)).elim g3 g4, g5⟩
  refine wpAny_call (codeAny_mono (F.goes X.A X.stack s H ⟨us, []⟩ us vs Q p D dd hgd hr pin Z I.env0 hbb r h) fun res s' told => ?_)
  match res, told with
  | .error _, told => exact False.elim told
  | .ok (.ret u), told => exact I.after told
  | .ok .next, told => exact False.elim told
  | .ok .brk, told => exact False.elim told
  | .ok .cont, told => exact False.elim told
/-- f(e, ..), where p is handled -/
theorem pe_callP (F : FnP X.prog X.w X.K X.mg X.base k f fd ps sp) (hgd : X.A.guards = some []) (hr : L2H.RoomH k X.A) (hp : p ∈ X.pn) (Z : Pinned p D dd) (hg : Gl X x) (hm : X.mg x = some (.ref f)) (hk : PySem.W.keepIn X.K (.ref f) = true) (hb : Binds X.K fd ps [])
    (ha : PA X (e :: es) t) (hdb : (x == ("__debug__" : Str)) = false := by decide) (he : starEach (e :: es) X.env = (false, eval e X.env) :: starEach es X.env := by rfl) (hpl : (backTo pos (starEach es X.env)).any (·.1) = false := by rfl) :
    PE X (.Call (.Name x q) (e :: es) [] pos) (tCallG (sp p.1 D dd) t) :=
  ⟨fun pins s σ H Q I h => wpAny_Call_Name_kw (ld_glob I hg hm (PySem.W.callWith_K (h₀ := X.base) I.ok.mod.kin hk (thn (ha.run pos pins s σ H _ I h) fun us s1 ⟨vs, H1, I1, r, q⟩ =>
    ⟨I1.kIn, runP F hgd hr hp Z hb I1 r q⟩) he hpl) hdb)⟩
end
end Lamp
set_option Elab.async false
set_option linter.all false
set_option maxRecDepth 100000
set_option maxHeartbeats 1000000
namespace Lamp
open PySem PySem.Spec PyProof.Rows L2
/-! try: body, except (A, B, C) as n: suite, where all that is raised is one of them -/
/-- a flying exception stays so when objects are laid -/
theorem flying_on {B h h' : Heap} {l : List Env} {a : Addr} {Z : Obj → Prop} (x : HandSPX.FlyingZ B l a Z h) (k : ∀ b o, h.get? b = some o → h'.get? b = some o) : HandSPX.FlyingZ B l a Z h' := by
  obtain ⟨g1, g2, g3, oe, vs, T, oT, ts, e1, e2, e3, e4, e5, e6, e7, e8, e9⟩ := x
  exact ⟨fun b o e => k b o (g1 b o e), g2, g3.of_keeps fun b o e _ => ⟨o, k b o e, rfl⟩, oe, vs, T, oT, ts, k _ _ e1, e2, e3, e4, e5, e6, k _ _ e7, e8, e9⟩
/-- the ends of a suite, behind which slot i is gone -/
def offI (i : Nat) (D : Ends) : Ends := { nx := fun σ' H' => D.nx (σ'.set i none) H', rt := D.rt, bk := fun σ' H' => D.bk (σ'.set i none) H', ct := fun σ' H' => D.ct (σ'.set i none) H' }
def wTup (K : PySem.W.Frag) (c1 c2 c3 : Value) (m i : Nat) (ts : Addr → Value → Option Addr → TS) (D : Ends) : WX := fun cls d σ H => σ.length = m →
  PySem.W.exmAny K cls [c1, c2, c3] = some true ∧ ∀ a, H a = none → ts a cls d (offI i D) (σ.set i (some (.ref a))) H
section
variable {X : Cx} {x1 x2 x3 n : Str} {c1 c2 c3 : Value} {i kk : Nat} {body suite : List Stmt} {b0 : Stmt} {p1 p2 p3 tp pos pos' : Pos} {tb : WX → TS} {ts : Addr → Value → Option Addr → TS}
theorem name_at {Y : Cx} {pins : List (Addr × Obj)} {σ : L2.St} {H : Hp} {s : Shared} {x : Str} {c : Value} {p : Pos} {Q : Value → Shared → Prop} {E : Value → Shared → Prop} (hc : Names Y x c) (I : Inv Y pins σ H s) (q : Q c s) : wpAny (model Y.prog Y.w) Y.A (eval (.Name x p) Y.env) Q E s := by
  obtain ⟨hg, hdbg, hm | ⟨hm, hv, hnn⟩⟩ := hc
  · exact ld_glob I hg hm q hdbg
  · exact ld_blt I hg hm hv q hnn hdbg
theorem ps_try_tup (onTop : X.stack = X.env :: X.outer) (framed : X.env.frame = some X.env.locals) (nodup : X.N.Nodup) (isN : X.N[i]? = some n) (isLoc : X.env.kindOf n = some .local) (n1 : Names X x1 c1) (n2 : Names X x2 c2) (n3 : Names X x3 c3)
    (inBody : ∀ (W : WX) (pn : List (Addr × Obj)) (xe : Value → Shared → Prop), Takes (X.tr pn xe) W → PassesOwn (model X.prog X.w) X.A X.env xe → PSs (X.tr pn xe) body (tb W))
    (inSuite : ∀ (a : Addr) (oe : Obj) (cls : Value) (d : Option Addr) (pn : List (Addr × Obj)), Zc cls d oe → (∃ vs, oe.data = .fields vs) → PSs (X.suite a ((a, oe) :: pn)) (b0 :: suite) (ts a cls d)) :
    PS X (.Try body [.ExceptHandler (some (.Tuple [.Name x1 p1, .Name x2 p2, .Name x3 p3] kk tp)) (some n) (b0 :: suite) pos'] [] [] pos) (fun D σ H => tb (wTup X.K c1 c2 c3 X.N.length i ts D) D σ H) := by
  refine ⟨fun pins s σ H D I told => wpAny_Try_except ?_⟩
  have xok := I.ok
  have frames : X.A.frames = some (X.env :: X.outer) := by rw [xok.frames, onTop]
  have isOwn : Loc X.env.scope n := .inl isLoc
  refine wpAny_mono ((inBody (wTup X.K c1 c2 c3 X.N.length i ts D) (X.pn ++ pins) _ (fun u s' air => ?_) PassesOwn.looking).run [] s σ H D (I.toTry _) told) (fun f s1 ended => ?_) (fun e s1 z => z)
  · obtain ⟨a, B, sI, pins', σ', H', cls, d, rfl, J', ground, ups, sky, na, os, ag, hits0⟩ := air
    have J : Inv X pins σ' H' sI := J'.ofTry xok
    obtain ⟨hits, q⟩ := hits0 J.len
    have sky' : Sky B (X.env :: X.outer) a (Zc cls d) X.env.locals s'.heap := by rw [← onTop]; exact sky
    show wpAny (model X.prog X.w) X.A (noteFrame (.ref a) X.env) _ _ _
    refine Sky.land Zc.steady frames framed sky' fun h3 fl3 up3 => ?_
    have J3 : Inv X pins σ' H' { s' with heap := h3 } := J.landed ground fl3.1 (ups.trans up3) os ag
    obtain ⟨oe3, vs3, he3, hz3, hd3⟩ := fl3.there
    have nfr : a ∉ frs (X.env :: X.outer) := fun hm => by
      obtain ⟨_, o', e', plain⟩ := fl3.2.2.1.mem hm
      rw [he3] at e'
      cases e'
      exact plain _ hd3
    have nL : a ≠ X.env.locals := fun z => nfr (List.mem_filterMap.mpr ⟨X.env, List.mem_cons_self, by rw [framed, z]⟩)
    have nF : a ∉ X.fs := fun hm => by
      obtain ⟨e, he, r⟩ := List.mem_filterMap.mp hm
      exact nfr (List.mem_filterMap.mpr ⟨e, List.mem_cons_of_mem _ he, r⟩)
    have S3 := J3.suite he3 hd3 na nL nF
    refine wpAny_handleBy_cons (codeAny_handlers_test ?_) (by intro q; cases q)
    have kp : ∀ b o, h3.get? b = some o → (h3.push { cls := .type "tuple", data := .seq [c1, c2, c3].toArray }).get? b = some o := fun _ _ z => Heap.get?_push_of_some _ z
    have fl4 := flying_on fl3 kp
    have LT : PySem.W.Looks (model X.prog X.w) (h3.push { cls := .type "tuple", data := .seq [c1, c2, c3].toArray }) (typeOf (.ref a)) cls := fun A Q E s k q => wpAny_typeOf_ref (k _ _ (kp _ _ he3)) (by rw [hz3.1]; exact q)
    have LM := PySem.W.exm_tup3 (M := model X.prog X.w) (J3.kIn.keeps kp) LT (Heap.get?_push_size h3 rfl) hits
    have m1 : Names (X.suite a ((a, oe3) :: (X.pn ++ pins))) x1 c1 := n1
    have m2 : Names (X.suite a ((a, oe3) :: (X.pn ++ pins))) x2 c2 := n2
    have m3 : Names (X.suite a ((a, oe3) :: (X.pn ++ pins))) x3 c3 := n3
    show wpAny (model X.prog X.w) (X.A.mark (some (.ref a))) _ _ _ _
    refine wpAny_Tuple (wpAny_items_cons (name_at m1 S3 (wpAny_items_cons (name_at m2 S3 (wpAny_items_cons (name_at m3 S3 (wpAny_items_nil ⟨by size_fits, ?_⟩)))))))
    refine LM.here ?_
    refine codeAny_handlers_suite_as ?_
    refine HandSPX.lands_againZ fl4 fun h5 fl5 up5 => ?_
    have upK : h3.UpToSlots (h3.push { cls := .type "tuple", data := .seq [c1, c2, c3].toArray }) := Heap.UpToSlots.of_keeps kp
    have J5 : Inv X pins σ' H' { s' with heap := h5 } := J.landed ground fl5.1 (((ups.trans up3).trans upK).trans up5) os ag
    obtain ⟨oe5, vs5, he5, hz5, hd5⟩ := fl5.there
    have S5 := J5.suite he5 hd5 na nL nF
    refine store_ok (X := X.suite a ((a, oe5) :: (X.pn ++ pins))) (v := .ref a) S5 nodup isN isOwn rfl (fun s6 S6 => ?_) (.inr isLoc)
    refine wpAny_mono ((inSuite a oe5 cls d (X.pn ++ pins) hz5 ⟨_, hd5⟩).run [] s6 _ H' _ S6 (q a na)) (fun f s7 ended => ?_) (fun _ _ z => False.elim z)
    have behind : ∀ {σ7 : L2.St} {H7 : Hp} {Q : Shared → Prop}, Inv (X.suite a ((a, oe5) :: (X.pn ++ pins))) [] σ7 H7 s7 → (∀ s8, Inv X pins (σ7.set i none) H7 s8 → Q s8) →
        wpAny (model X.prog X.w) X.A (do bindName X.env n .none; unbindBehindTheSuite X.env n pos') (fun _ s8 => Q s8) X.xe s7 := fun S7 hq => gone_ok (S7.unsuite xok) nodup isN isLoc hq
    match f, ended with
    | .next, ⟨_, _, S7, q7⟩ => exact behind S7 fun s8 J8 => ⟨_, _, J8, q7⟩
    | .brk, ⟨_, _, S7, q7⟩ => exact behind S7 fun s8 J8 => ⟨_, _, J8, q7⟩
    | .cont, ⟨_, _, S7, q7⟩ => exact behind S7 fun s8 J8 => ⟨_, _, J8, q7⟩
    | .ret u, ⟨_, _, _, S7, r7, q7⟩ => exact behind S7 fun s8 J8 => ⟨_, _, _, J8, r7, q7⟩
  · match f, ended with
    | .next, ⟨_, _, J', r⟩ => exact wpAny_execs_nil ⟨_, _, J'.ofTry xok, r⟩
    | .brk, ⟨_, _, J', r⟩ => exact ⟨_, _, J'.ofTry xok, r⟩
    | .cont, ⟨_, _, J', r⟩ => exact ⟨_, _, J'.ofTry xok, r⟩
    | .ret u, ⟨_, _, _, J', v, r⟩ => exact ⟨_, _, _, J'.ofTry xok, v, r⟩
end
end Lamp
set_option Elab.async false
set_option linter.all false
set_option maxRecDepth 100000
set_option maxHeartbeats 1000000
namespace Lamp
open PySem PySem.Spec PyProof.Rows L2
/-! xs.count(True), and what else an error's sorting needs -/
def rCntD (K : PySem.W.Frag) : V → List V → Hp → VK → Prop := fun x xs H Q => ∃ (a : Addr) (vs : List V) (y : V) (ds : List PyData) (d : PyData), x = .ref a ∧ xs = [y] ∧ SqL K H a vs ∧ DpAll K H vs ds ∧ Dp K H y d ∧ PyData.plainAll ds = true ∧ d.plain = true ∧ min (PyData.depthAll ds) d.depth ≤ 60 ∧
  Q (.int ((ds.countP fun z => PyData.eqv z d : Nat) : Int)) H
theorem mt_cntD {X : Cx} (hu : X.A.units + 64 < cLine) : MtR X "list.count" (rCntD X.K) := by
  intro pins s σ H x xs v us Q I rx rxs h
  obtain ⟨a, vs, y, ds, d, rfl, rfl, hs, hds, hd, p1, p2, hdep, q⟩ := h
  cases rx
  obtain ⟨u, rfl, ru⟩ := rxs.one
  obtain ⟨its, rv, ⟨o, n, ho, hc, hdn, hdt⟩, hlen⟩ := I.list hs
  obtain ⟨as, r1⟩ := Dp.readsAll I ds vs its hds rv
  obtain ⟨bs, r2⟩ := Dp.reads I d y u hd ru
  refine PySem.SeqAt.count_list_data (xs := ds) (d := d) ⟨o, ho, hc, n, hdt⟩ (by simpa using r1) r2 p1 p2 (by omega) ?_
  exact ⟨.int ((ds.countP fun z => PyData.eqv z d : Nat) : Int), H, I.tok _, ⟨s.toks, rfl⟩, q⟩
section
variable {K : PySem.W.Frag} {σ : L2.St} {H : Hp} {i : Nat} {a D D' dd : Addr} {b : Bool} {fs : List (Str × V)}
theorem v_isP (h : σ[i]? = some (some (.ref a))) (hd : H dd = some (exd dd fs)) (hk : PySem.W.kitOne K (.ref D) (.ref D') = some b) :
    Val (tCB (rIsP K a D dd) (tCons (tVar i) (tCons (tC (.ref D')) tNil))) σ H (.bl b) := fun Q q => ⟨_, h, _, _, b, fs, rfl, hd, .own D', hk, q⟩
theorem v_isPT {n : String} (h : σ[i]? = some (some (.ref a))) (hd : H dd = some (exd dd fs)) (hk : PySem.W.kitOne K (.ref D) (.type n) = some b) :
    Val (tCB (rIsP K a D dd) (tCons (tVar i) (tCons (tC (.ty n)) tNil))) σ H (.bl b) := fun Q q => ⟨_, h, _, _, b, fs, rfl, hd, .ty n, hk, q⟩
theorem v_xfP {f : Str} {y : V} (h : σ[i]? = some (some (.ref a))) (hd : H dd = some (exd dd [(f, y)])) : Val (tXfP a dd f (tVar i)) σ H y := fun Q q => ⟨_, h, rfl, _, y, hd, by rw [List.lookup_cons, beq_self_eq_true], q⟩
theorem dp_bools {l : Addr} {bs : List Bool} (h : H l = some (.lst (bs.map V.bl))) : Dp K H (.ref l) (.list (bs.map PyData.bool)) := by
  refine .lst (SqL.of h) ?_
  clear h
  induction bs with
  | nil => exact .nil
  | cons c r ih => exact .cons (.bl c) ih
theorem dpAll_bools : ∀ {bs : List Bool}, DpAll K H (bs.map V.bl) (bs.map PyData.bool)
  | [] => .nil
  | c :: r => .cons (.bl c) dpAll_bools
end
end Lamp
set_option Elab.async false
set_option linter.all false
set_option maxRecDepth 100000
set_option maxHeartbeats 1000000
namespace Lamp
open PySem PySem.Spec PyProof.Rows L2 LamX
/-! a def that calls what it got, and tells what it gives back, or what it raises -/
/-- what it makes of the lambda's reading -/
abbrev ansN : List Str := ["_law_call_here", "_law_got", "_law_e"]
def backE (f : Addr) (Q : VK) : VK := fun v H' => tRet (tLst (tCons (tC (.str "back")) (tCons (tVar 1) tNil))) { nx := fun _ H' => Q .non H', rt := Q } ((L2.start ansN [.ref f]).set 1 (some v)) H'
theorem back_run {f : Addr} {Q : VK} {v : V} {H' : Hp} (q : ∀ l, H' l = none → Q (.ref l) (upd H' l (.lst [.str "back", v]))) : backE f Q v H' := ⟨v, rfl, (by show 2 ≤ sizeLine; decide), q⟩
def raisE (K : PySem.W.Frag) (c1 c2 c3 : Value) (sp : SpP) (Q : VK) : XK := fun cls d H' => ∃ D dd, cls = .ref D ∧ d = some dd ∧ PySem.W.exmAny K cls [c1, c2, c3] = some true ∧ ∀ a, H' a = none → sp a D dd [.ref a] H' Q E0
def TTans (K : PySem.W.Frag) (c1 c2 c3 : Value) (sp : SpP) : (XK → Hp → VK → Prop) → Hp → VK → Prop := fun tl H Q => ∀ f, tl (raisE K c1 c2 c3 sp Q) H (backE f Q)
/-- its suite -/
def tSuiteA (sp : SpP) (a : Addr) (cls : Value) (d : Option Addr) : TS := fun D' σ H => ∃ D dd, cls = .ref D ∧ d = some dd ∧ tRet (tCallG (sp a D dd) (tCons (tVar 2) tNil)) D' σ H
section
variable {P : Program} {w : World} {K : PySem.W.Frag} {mg : Str → Option Value} {base : Heap}
/-- what is known of the def that sorts errors -/
structure SortR (P : Program) (w : World) (K : PySem.W.Frag) (mg : Str → Option Value) (base : Heap) (sp : SpP) (k : Nat) : Prop where
  ex : ∃ (f : Addr) (fd : FuncData), FnP P w K mg base k f fd ["_law_e"] sp ∧ Binds K fd ["_law_e"] [] ∧ mg "_law_sort" = some (.ref f) ∧ PySem.W.keepIn K (.ref f) = true
theorem ans_gives {X : Cx} {x q : Str} {sg : Scope} {g cA cB cC : Addr} {cdg : Value} {k j1 j2 : Nat} {sp : SpP} {p1 p2 p3 p4 p5 p6 p7 p8 p9 p10 p11 p12 p13 p14 p15 p16 p17 p18 : Pos} (hgd : X.A.guards = some []) (hr : Room (k + 1) X.A) (S : SortR X.prog X.w X.K X.mg X.base sp k)
    (Sg : FnScope ansN ["_law_call_here"] sg) (mA : X.mg "WrongValue" = some (.ref cA)) (mB : X.mg "WrongName" = some (.ref cB)) (mC : X.mg "NotPossible" = some (.ref cC)) (v1 : sg.names.lookup ("_law_got" : Str) = some NameKind.local) (v2 : sg.names.lookup ("_law_e" : Str) = some NameKind.local)
    (gA : sg.names.lookup ("WrongValue" : Str) = some .globalImplicit) (gB : sg.names.lookup ("WrongName" : Str) = some .globalImplicit) (gC : sg.names.lookup ("NotPossible" : Str) = some .globalImplicit) (gS : sg.names.lookup ("_law_sort" : Str) = some .globalImplicit) :
    GivesTo X ansN x sg g cdg [.Try [.Assign [.Name "_law_got" p1] (.Call (.Name "_law_call_here" p2) [] [] p3) p4] [.ExceptHandler (some (.Tuple [.Name "WrongValue" p5, .Name "WrongName" p6, .Name "NotPossible" p7] j1 p8)) (some "_law_e") [.Return (some (.Call (.Name "_law_sort" p9) [.Name "_law_e" p10] [] p11)) p12] p13] [] [] p14,
      .Return (some (.List [.Constant (.str "back") j2 p15, .Name "_law_got" p16] p17)) p18] "_law_call_here" q (TTans X.K (.ref cA) (.ref cB) (.ref cC) sp) := by
  intro f c' s H Q tl act hc h
  obtain ⟨fS, fdS, F, b, m, kp⟩ := S.ex
  have rm : L2H.RoomH k (X.A.deeper (envOfC x sg s.heap.objs.size g cdg)) := L2H.roomH_of (hr.deeper _)
  refine ⟨_, pss_cons (ps_try_tup (X := (cxOf C8.CX0 X.prog X.w X.K X.mg X.base ansN x sg g cdg X.A X.stack s H C8.E0).nox) (i := 2) (c1 := .ref cA) (c2 := .ref cB) (c3 := .ref cC)
      (tb := fun W D σ H => ∃ Ech : XK, (∀ cls d σ' H', Ech cls d H' → W cls d σ' H') ∧ σ[0]? = some (some (.ref f)) ∧ H c' = some (CodeO c' q) ∧ tl Ech H (fun v H' => D.nx (σ.set 1 (some v)) H')) (ts := tSuiteA sp)
      rfl rfl Sg.nd rfl v2 ⟨gA, rfl, .inl mA⟩ ⟨gB, rfl, .inl mB⟩ ⟨gC, rfl, .inl mC⟩ (fun W pn xe tk _ => ?_) (fun a oe cls d pn hz hf => ?_)) (pss_one (ps_ret (pe_lst (pa_cons pe_str (pa_cons (pv (x := "_law_got") 1 rfl (.inl v1)) pa_nil))))), ?_⟩
  · refine ⟨fun pins s' σ H' D I h' => ?_⟩
    obtain ⟨Ech, hW, h1, h2, h3⟩ := h'
    have hp := act W pn xe Ech p2 p3 tk hW
    have hs : PS ((cxOf C8.CX0 X.prog X.w X.K X.mg X.base ansN x sg g cdg X.A X.stack s H C8.E0).tr pn xe) (.Assign [.Name "_law_got" p1] (.Call (.Name "_law_call_here" p2) [] [] p3) p4) _ := ps_set (i := 1) Sg.nd rfl (.inl v1) hp
    exact (pss_one hs).run pins s' σ H' D I ⟨h1, h2, h3⟩
  · refine ⟨fun pins s' σ H' D I h' => ?_⟩
    obtain ⟨Dc, dd, rfl, rfl, h'⟩ := h'
    refine PSs.run (pss_one (ps_ret (pe_callP (X := ((cxOf C8.CX0 X.prog X.w X.K X.mg X.base ansN x sg g cdg X.A X.stack s H C8.E0).nox).suite a ((a, oe) :: pn)) (p := (a, oe)) (D := Dc) (dd := dd) F hgd ⟨rm.dp, rm.un⟩ (List.mem_cons_self ..) ⟨hz, hf⟩ gS m kp b (pa_cons (pv (x := "_law_e") 2 rfl (.inl v2)) pa_nil)))) pins s' σ H' D I h'
  · refine ⟨raisE X.K (.ref cA) (.ref cB) (.ref cC) sp Q, ?_, rfl, hc, h f⟩
    rintro cls d σ' H' ⟨Dc, dd, rfl, rfl, e, hq⟩ hlen
    refine ⟨e, fun a na => ⟨Dc, dd, rfl, rfl, .ref a, ?_, hq a na⟩⟩
    have l3 : σ'.length = 3 := hlen
    have l2 : 2 < σ'.length := by omega
    exact List.getElem?_set_self l2
/-- what is known of the def -/
structure AnsR (P : Program) (w : World) (K : PySem.W.Frag) (mg : Str → Option Value) (base : Heap) (cA cB cC : Addr) (sp : SpP) (k : Nat) : Prop where
  S : SortR P w K mg base sp k
  mA : mg "WrongValue" = some (.ref cA)
  mB : mg "WrongName" = some (.ref cB)
  mC : mg "NotPossible" = some (.ref cC)
  ex : ∃ (g : Addr) (st : Stmt) (fd : FuncData) (j1 j2 : Nat) (p1 p2 p3 p4 p5 p6 p7 p8 p9 p10 p11 p12 p13 p14 p15 p16 p17 p18 : Pos), Fun K "_law_answer" "_law_answer" st g fd ∧ Binds K fd ["_law_call_here"] [] ∧ mg "_law_answer" = some (.ref g) ∧ PySem.W.keepIn K (.ref g) = true ∧
    FnScope ansN ["_law_call_here"] (defScope st) ∧ ((defScope st).names.lookup ("_law_call_here" : Str) = some NameKind.local ∧ (defScope st).names.lookup ("_law_got" : Str) = some NameKind.local ∧ (defScope st).names.lookup ("_law_e" : Str) = some NameKind.local) ∧
    ((defScope st).names.lookup ("WrongValue" : Str) = some .globalImplicit ∧ (defScope st).names.lookup ("WrongName" : Str) = some .globalImplicit ∧ (defScope st).names.lookup ("NotPossible" : Str) = some .globalImplicit ∧ (defScope st).names.lookup ("_law_sort" : Str) = some .globalImplicit) ∧
    defBody st = [.Try [.Assign [.Name "_law_got" p1] (.Call (.Name "_law_call_here" p2) [] [] p3) p4] [.ExceptHandler (some (.Tuple [.Name "WrongValue" p5, .Name "WrongName" p6, .Name "NotPossible" p7] j1 p8)) (some "_law_e") [.Return (some (.Call (.Name "_law_sort" p9) [.Name "_law_e" p10] [] p11)) p12] p13] [] [] p14,
      .Return (some (.List [.Constant (.str "back") j2 p15, .Name "_law_got" p16] p17)) p18]
/-- _law_answer(lambda: body) -/
theorem pe_ans {X : Cx} {cA cB cC c Pt : Addr} {sp : SpP} {k kS : Nat} {T : List (Addr × Str)} {params : Arguments} {body : Expr} {scope : Scope} {t : XK → TE} {p lpos pos : Pos} (Z : AnsR X.prog X.w X.K X.mg X.base cA cB cC sp kS) (hk : kS ≤ k + 1) (hgd : X.A.guards = some []) (hr : Room (k + 2) X.A) (hg : Gl X "_law_answer")
    (TB : TabB X.base X.mg c Pt) (hcode : X.env.code = .ref c) (hmT : (Pt, X.env.qual ++ "<lambda>") ∈ T) (hu : ∀ p ∈ T, p.1 = Pt → p.2 = X.env.qual ++ "<lambda>") (L : LamS X.env.scope scope) (hdef : defaultsOf params X.env = ([], []))
    (hbind : ∀ (q : Str) (cl : List (Str × Addr)) (pm cv ctv : Value), bindArgs (PySem.W.kla_fn "<lambda>" q params body scope cl pm cv ctv) ⟨[], []⟩ = pure [])
    (hbody : ∀ (A : Around) (outer : List Env) (s : Shared) (H : Hp) (E : XK) (f c' : Addr), Room k (A.deeper (lamEnv X scope s.heap.objs.size f c')) → PE (lamCx X A outer s H E scope f c') body (t E)) :
    PE X (.Call (.Name "_law_answer" p) [.Lambda params body scope lpos] [] pos) (tLam T (TTans X.K (.ref cA) (.ref cB) (.ref cC) sp) t) := by
  obtain ⟨g, st, fd, j1, j2, p1, p2, p3, p4, p5, p6, p7, p8, p9, p10, p11, p12, p13, p14, p15, p16, p17, p18, F, b, m, kp, Sg, ⟨v0, v1, v2⟩, ⟨gA, gB, gC, gS⟩, hbg⟩ := Z.ex
  obtain ⟨oc, od, kV, doc, pm, an, cdv, ct, osl, efd, hlk, hcodeA⟩ := F.ex
  subst efd
  rw [hbg] at hlk b
  exact pe_lamcall (bg := _) (k := k) (a := "_law_call_here") (Ng := ansN) hg m kp hlk hcodeA b Sg rfl (.inl v0) (ans_gives (k := k + 1) hgd hr ⟨by
    obtain ⟨f1, fd1, F1, r1⟩ := Z.S.ex
    exact ⟨f1, fd1, ⟨F1.many, fun A out s H ar us vs Q p D dd h1 h2 => F1.goes A out s H ar us vs Q p D dd h1 (h2.mono hk)⟩, r1⟩⟩ Sg Z.mA Z.mB Z.mC v1 v2 gA gB gC gS) TB hcode hmT hu hr L hdef hbind hbody
end
end Lamp
set_option Elab.async false
set_option linter.all false
set_option maxRecDepth 100000
set_option maxHeartbeats 1000000
namespace Lamp
open PySem PySem.Spec PyProof.Rows L2 LamX
/-! defs that may raise: called by name, within one that lets it out, or within a lambda -/
structure DrX (P : Program) (w : World) (K : PySem.W.Frag) (mg : Str → Option Value) (base : Heap) (sp : Sp) (x : Str) (ps : List Str) (k : Nat) : Prop where
  ex : ∃ (f : Addr) (fd : FuncData), FnOk P w K mg base (L2.CX P w) k f fd ps sp ∧ Binds K fd ps [] ∧ mg x = some (.ref f) ∧ PySem.W.keepIn K (.ref f) = true
def tCallX (sp : Sp) (E : XK) (ta : TA) : TE := fun σ H Q => ta σ H fun vs H1 => sp vs H1 Q E
theorem pe_drX {X : Cx} {sp : Sp} {x : Str} {ps : List Str} {k j : Nat} {e : Expr} {es : List Expr} {t : TA} {p pos : Pos} {E : XK} (Z : DrX X.prog X.w X.K X.mg X.base sp x ps k) (hk : k ≤ j) (hr : Room j X.A) (hg : Gl X x) (hx : Passes (L2.CX X.prog X.w) X E) (ha : PA X (e :: es) t) (hdb : (x == ("__debug__" : Str)) = false := by decide)
    (he : starEach (e :: es) X.env = (false, eval e X.env) :: starEach es X.env := by rfl) (hpl : (backTo pos (starEach es X.env)).any (·.1) = false := by rfl) : PE X (.Call (.Name x p) (e :: es) [] pos) (tCallX sp E t) := by
  obtain ⟨f, fd, F, b, m, kp⟩ := Z.ex
  have z := pe_call (pos := pos) (p := p) F (hr.mono hk) hg m kp b .nil hx ha hdb he hpl
  refine ⟨fun pins s σ H Q I h => z.run pins s σ H Q I ?_⟩
  unfold tCall
  simp only [List.append_nil]
  exact h
/-- what is let out by a callee is let out -/
theorem passes_on {X : Cx} {E : XK} (tk : Takes X (fun cls d _ H => E cls d H)) : Passes (L2.CX X.prog X.w) X E := passes_call tk fun _ _ _ _ h => h
theorem raise_run {X : Cx} {C : Addr} {f : Str} {te : TE} {σ : L2.St} {H : Hp} {y : V} {Q : XK} (h : Val te σ H y) (hs : ∀ a, H a = none → Fr0 X.H_0 a) (rs : Raises X (.ref C)) (k : ∀ dx H', Same H H' → H' dx = some (exd dx [(f, y)]) → Q (.ref C) (some dx) H') :
    tMkE C f te σ H fun x H1 => ∃ (a C' : Addr) (d : Option Addr), x = .ref a ∧ H1 a = some (exo a C' d) ∧ Fr0 X.H_0 a ∧ Raises X (.ref C') ∧ Q (.ref C') d (delH H1 a) := by
  refine h _ fun a dx na nd ne => ⟨a, C, some dx, rfl, upd_same, hs a na, rs, k dx _ (fun b o e => ?_) ?_⟩
  · rw [delH_ne (ne_of_none e na), upd_ne (ne_of_none e na), upd_ne (ne_of_none e nd), upd_ne (ne_of_none e na)]
    exact e
  · rw [delH_ne ne, upd_ne ne, upd_same]
theorem xc_raises {X : Cx} {x f : Str} {C : Addr} (Z : XC X.prog X.w X.K X.mg C x f) (ty : PySem.W.typeIn X.K (.ref C) = some (.type "type")) : Raises X (.ref C) := by
  obtain ⟨B, n, i, t, T⟩ := Z.T
  exact raises_ec T ty
end Lamp
set_option Elab.async false
set_option linter.all false
set_option maxRecDepth 100000
set_option maxHeartbeats 1000000
namespace Lamp
open PySem PySem.Spec PyProof.Rows L2
abbrev sStreet : Stmt := top 39
abbrev sStInit : Stmt := inClass sStreet 0
abbrev sDo : Stmt := inClass sStreet 1
abbrev sUndo : Stmt := inClass sStreet 2
abbrev sStLevels : Stmt := inClass sStreet 3
abbrev sStPlace : Stmt := inClass sStreet 4
abbrev sStLamps : Stmt := inClass sStreet 5
abbrev sStDone : Stmt := inClass sStreet 6
abbrev sStTrip : Stmt := inClass sStreet 7
abbrev sStBool : Stmt := inClass sStreet 10
abbrev sStLen : Stmt := inClass sStreet 11
abbrev sCkLv : Stmt := top 28
/-! streets as objects -/
def fldS (lv : Int) (st l : Addr) : List (Str × V) := [("_levels", .int lv), ("_still", .ref st), ("past", .ref l)]
/-- what is done: the round, and the whole that it came to -/
structure Deed where
  tr : Addr
  wh : Addr
  fin : Int
  ls : List (Int × Int)
  Fin : Int
  Ls : List (Int × Int)
structure DeedAt (K : PySem.W.Frag) (C : Addr) (H : Hp) (lv : Int) (t : Addr) (d : Deed) : Prop where
  at_ : H t = some (.tup [.ref d.tr, .ref d.wh])
  trip : RndW K C H d.tr lv d.fin d.ls
  whole : RndW K C H d.wh lv d.Fin d.Ls
def finOf (ds : List Deed) : Int := match ds.getLast? with
  | some d => d.Fin
  | none => 0
def lsOf (ds : List Deed) : List (Int × Int) := match ds.getLast? with
  | some d => d.Ls
  | none => []
/-- at a: a street of these levels, its list at l, with these deeds -/
structure StAt (K : PySem.W.Frag) (C S : Addr) (H : Hp) (a l : Addr) (lv : Int) (ds : List Deed) : Prop where
  obj : ∃ dx st, H a = some (.ins S dx (fldS lv st l)) ∧ RndW K C H st lv 0 []
  past : ∃ ts : List Addr, H l = some (.lst (ts.map V.ref)) ∧ Paired (DeedAt K C H lv) ts ds
theorem rnd_but {K : PySem.W.Frag} {C : Addr} {H H' : Hp} {a l : Addr} {lv fin : Int} {ls : List (Int × Int)} {xs : List V} (h : RndW K C H a lv fin ls) (hl : H l = some (.lst xs)) (b : But l H H') : RndW K C H' a lv fin ls := by
  obtain ⟨⟨t, ⟨dx, h1⟩, as, h2, h3⟩, h4, h5⟩ := h
  refine ⟨⟨t, ⟨dx, b _ _ (fun z => by rw [z, hl] at h1; cases h1) h1⟩, as, ?_, L2.Paired.mapP h3 fun a q z => b _ _ (fun k => by rw [k, hl] at z; cases z) z⟩, h4, h5⟩
  rcases h2 with h2 | ⟨o, h2⟩
  · exact .inl (b _ _ (fun z => by rw [z, hl] at h2; cases h2) h2)
  · exact .inr ⟨o, b _ _ (fun z => by rw [z, hl] at h2; cases h2) h2⟩
theorem DeedAt.same {K : PySem.W.Frag} {C : Addr} {H H' : Hp} {lv : Int} {t : Addr} {d : Deed} (h : DeedAt K C H lv t d) (s : Same H H') : DeedAt K C H' lv t d := ⟨s _ _ h.at_, h.trip.same s, h.whole.same s⟩
theorem DeedAt.but {K : PySem.W.Frag} {C : Addr} {H H' : Hp} {lv : Int} {t l : Addr} {d : Deed} {xs : List V} (h : DeedAt K C H lv t d) (hl : H l = some (.lst xs)) (b : But l H H') : DeedAt K C H' lv t d :=
  ⟨b _ _ (fun z => by have := h.at_; rw [z, hl] at this; cases this) h.at_, rnd_but h.trip hl b, rnd_but h.whole hl b⟩
theorem StAt.same {K : PySem.W.Frag} {C S : Addr} {H H' : Hp} {a l : Addr} {lv : Int} {ds : List Deed} (h : StAt K C S H a l lv ds) (s : Same H H') : StAt K C S H' a l lv ds := by
  obtain ⟨⟨dx, st, h1, h2⟩, ts, h3, h4⟩ := h
  exact ⟨⟨dx, st, s _ _ h1, h2.same s⟩, ts, s _ _ h3, L2.Paired.mapP h4 fun t d z => z.same s⟩
theorem paired_last {α β : Type} {R : α → β → Prop} : ∀ {as : List α} {bs : List β} {b : β}, Paired R as (bs ++ [b]) → ∃ cs a, as = cs ++ [a] ∧ Paired R cs bs ∧ R a b
  | [], [], _, h => (nomatch h)
  | [], _ :: _, _, h => (nomatch h)
  | _ :: _, [], _, .cons h .nil => ⟨[], _, rfl, .nil, h⟩
  | _ :: as, _ :: bs, b, .cons h t => by
    obtain ⟨cs, a, e, p, r⟩ := paired_last t
    exact ⟨_ :: cs, a, by rw [e]; rfl, .cons h p, r⟩
theorem finOf_last (ds : List Deed) (d : Deed) : finOf (ds ++ [d]) = d.Fin := by
  unfold finOf
  rw [List.getLast?_concat]
theorem lsOf_last (ds : List Deed) (d : Deed) : lsOf (ds ++ [d]) = d.Ls := by
  unfold lsOf
  rw [List.getLast?_concat]
theorem last_cases {α : Type} (ds : List α) : ds = [] ∨ ∃ es d, ds = es ++ [d] := by
  rcases List.eq_nil_or_concat ds with h | ⟨es, d, h⟩
  · exact .inl h
  · exact .inr ⟨es, d, by rw [h, List.concat_eq_append]⟩
structure SCls (K : PySem.W.Frag) (S : Addr) : Prop where
  cl : Cls K S
  n1 : NoAttr K S "_levels"
  n2 : NoAttr K S "_still"
  n3 : NoAttr K S "past"
section
variable {P : Program} {w : World} {K : PySem.W.Frag} {mg : Str → Option Value} {base : Heap} {C S : Addr}
theorem f_lv {σ : L2.St} {H : Hp} {a st l dx : Addr} {lv : Int} {ta : TE} (R : SCls K S) (h : Val ta σ H (.ref a)) (hr : H a = some (.ins S dx (fldS lv st l))) : Val (tFld K ta "_levels") σ H (.int lv) := val_fld h hr R.cl R.n1 rfl
theorem f_still {σ : L2.St} {H : Hp} {a st l dx : Addr} {lv : Int} {ta : TE} (R : SCls K S) (h : Val ta σ H (.ref a)) (hr : H a = some (.ins S dx (fldS lv st l))) : Val (tFld K ta "_still") σ H (.ref st) := val_fld h hr R.cl R.n2 rfl
theorem f_past {σ : L2.St} {H : Hp} {a st l dx : Addr} {lv : Int} {ta : TE} (R : SCls K S) (h : Val ta σ H (.ref a)) (hr : H a = some (.ins S dx (fldS lv st l))) : Val (tFld K ta "past") σ H (.ref l) := val_fld h hr R.cl R.n3 rfl
def spStLevels (K : PySem.W.Frag) (C S : Addr) : Sp := fun vs H Q _ => ∃ (a l : Addr) (lv : Int) (ds : List Deed), vs = [.ref a] ∧ StAt K C S H a l lv ds ∧ Q (.int lv) H
def spStTrip (K : PySem.W.Frag) (C S : Addr) : Sp := fun vs H Q _ => ∃ (a l : Addr) (lv : Int) (ds : List Deed), vs = [.ref a] ∧ StAt K C S H a l lv ds ∧ ∀ r, RndW K C H r lv (finOf ds) (lsOf ds) → Q (.ref r) H
def spStPlace (K : PySem.W.Frag) (C S : Addr) : Sp := fun vs H Q _ => ∃ (a l : Addr) (lv : Int) (ds : List Deed), vs = [.ref a] ∧ StAt K C S H a l lv ds ∧ Q (.int (finOf ds)) H
def spStLamps (K : PySem.W.Frag) (C S : Addr) : Sp := fun vs H Q _ => ∃ (a l : Addr) (lv : Int) (ds : List Deed), vs = [.ref a] ∧ StAt K C S H a l lv ds ∧ ∀ t, PicAt K H t (lsOf ds) → IsPicW lv (lsOf ds) → Q (.ref t) H
def spStLen (K : PySem.W.Frag) (C S : Addr) : Sp := fun vs H Q _ => ∃ (a l : Addr) (lv : Int) (ds : List Deed), vs = [.ref a] ∧ StAt K C S H a l lv ds ∧ Q (.int (ds.length : Int)) H
theorem scStLevels : FnScope ["self"] ["self"] (defScope sStLevels) := ⟨rfl, rfl, rfl, by decide +kernel, rfl, by decide +kernel, by decide +kernel⟩
theorem scStPlace : FnScope ["self"] ["self"] (defScope sStPlace) := ⟨rfl, rfl, rfl, by decide +kernel, rfl, by decide +kernel, by decide +kernel⟩
theorem scStLamps : FnScope ["self"] ["self"] (defScope sStLamps) := ⟨rfl, rfl, rfl, by decide +kernel, rfl, by decide +kernel, by decide +kernel⟩
theorem scStTrip : FnScope ["self"] ["self"] (defScope sStTrip) := ⟨rfl, rfl, rfl, by decide +kernel, rfl, by decide +kernel, by decide +kernel⟩
theorem scStBool : FnScope ["self"] ["self"] (defScope sStBool) := ⟨rfl, rfl, rfl, by decide +kernel, rfl, by decide +kernel, by decide +kernel⟩
theorem scStLen : FnScope ["self"] ["self"] (defScope sStLen) := ⟨rfl, rfl, rfl, by decide +kernel, rfl, by decide +kernel, by decide +kernel⟩
theorem scStInit : FnScope ["self", "levels"] ["self", "levels"] (defScope sStInit) := ⟨rfl, rfl, rfl, by decide +kernel, rfl, by decide +kernel, by decide +kernel⟩
theorem scDo : FnScope ["self", "trip", "whole"] ["self", "trip"] (defScope sDo) := ⟨rfl, rfl, rfl, by decide +kernel, rfl, by decide +kernel, by decide +kernel⟩
theorem scUndo : FnScope ["self"] ["self"] (defScope sUndo) := ⟨rfl, rfl, rfl, by decide +kernel, rfl, by decide +kernel, by decide +kernel⟩
theorem ok_stLevels {f : Addr} {fd : FuncData} (F : Fun K "levels" "Street.levels" sStLevels f fd) (R : SCls K S) : FnOk P w K mg base CX0 1 f fd ["self"] (spStLevels K C S) := by
  refine F.ok scStLevels (fun vs H Q E h => ?_) (fun cdv A outer s H vs Q E hr h => ?_)
  · obtain ⟨a, l, lv, ds, rfl, _⟩ := h
    rfl
  · obtain ⟨a, l, lv, ds, rfl, ⟨⟨dx, st, h1, h2⟩, _⟩, q⟩ := h
    exact ⟨_, pss_one (ps_ret (pe_fld (pv 0) rfl)), st_ret (f_lv R (val_var rfl) h1) q⟩
theorem ok_stBool {f : Addr} {fd : FuncData} (F : Fun K "__bool__" "Street.__bool__" sStBool f fd) : FnOk P w K mg base CX0 1 f fd ["self"] spBool := by
  refine F.ok scStBool (fun vs H Q E h => ?_) (fun cdv A outer s H vs Q E hr h => ?_)
  · obtain ⟨a, rfl, _⟩ := h
    rfl
  · obtain ⟨a, rfl, q⟩ := h
    exact ⟨_, pss_one (ps_ret pe_bl), st_ret val_c q⟩
theorem ok_stLen {f : Addr} {fd : FuncData} (F : Fun K "__len__" "Street.__len__" sStLen f fd) (R : SCls K S) (ml : mg "len" = none) : FnOk P w K mg base CX0 1 f fd ["self"] (spStLen K C S) := by
  refine F.ok scStLen (fun vs H Q E h => ?_) (fun cdv A outer s H vs Q E hr h => ?_)
  · obtain ⟨a, l, lv, ds, rfl, _⟩ := h
    rfl
  · obtain ⟨a, l, lv, ds, rfl, ⟨⟨dx, st, h1, h2⟩, ts, h3, h4⟩, q⟩ := h
    refine ⟨_, pss_one (ps_ret (pe_callB call_len_seq (by rfl) ml PySem.boot_len (pa_cons (pe_fld (pv 0) rfl) pa_nil))), ?_⟩
    refine f_past R (val_var rfl) h1 _ ⟨l, _, rfl, .inl (SqL.of h3), ?_⟩
    rw [List.length_map, Paired.length h4]
    exact q
theorem ok_stTrip {f : Addr} {fd : FuncData} (F : Fun K "trip" "Street.trip" sStTrip f fd) (R : SCls K S) : FnOk P w K mg base CX0 1 f fd ["self"] (spStTrip K C S) := by
  refine F.ok scStTrip (fun vs H Q E h => ?_) (fun cdv A outer s H vs Q E hr h => ?_)
  · obtain ⟨a, l, lv, ds, rfl, _⟩ := h
    rfl
  · obtain ⟨a, l, lv, ds, rfl, ⟨⟨dx, st, h1, h2⟩, ts, h3, h4⟩, q⟩ := h
    refine ⟨_, pss_one (ps_ret (pe_ifExp (pt_truth (pe_fld (pv 0) rfl) (fun _ => rfl)) (pe_ix ix_tup (pe_ix ix_list (pe_fld (pv 0) rfl) (pe_un un_neg pe_int) (fun _ _ => rfl)) pe_int (fun _ _ => rfl)) (pe_fld (pv 0) rfl))), ?_⟩
    rcases last_cases ds with rfl | ⟨es, d, rfl⟩
    · cases h4
      exact st_ret (lv_if (b := false) (ans_tru (f_past R (val_var rfl) h1) (.inl ⟨_, SqL.of h3, rfl⟩)) (fun z => Bool.noConfusion z) (fun _ => f_still R (val_var rfl) h1)) (q _ h2)
    · obtain ⟨us, t, rfl, _, hd⟩ := paired_last h4
      refine st_ret (v := .ref d.wh) (lv_if (b := true) (ans_tru (f_past R (val_var rfl) h1) (.inl ⟨_, SqL.of h3, ?_⟩)) (fun _ => val_op (x := .ref t) (val_op (f_past R (val_var rfl) h1) (y := .int (-1)) (fun Q q => ⟨1, rfl, q⟩) fun Q q => ⟨l, _, -1, .ref t, rfl, rfl, SqL.of h3, ?_, q⟩) val_c fun Q q => ⟨t, _, 1, _, rfl, rfl, SqT.of hd.at_, rfl, q⟩) (fun z => Bool.noConfusion z)) (q _ (by rw [finOf_last, lsOf_last]; exact hd.whole))
      · rw [List.map_append]
        cases us <;> rfl
      · rw [List.map_append]
        unfold atI ixN
        rw [if_neg (by decide), if_pos (by rw [List.length_append]; show -(((us.map V.ref).length + 1 : Nat) : Int) ≤ -1; omega)]
        show (us.map V.ref ++ [V.ref t])[(-1 + (((us.map V.ref ++ [V.ref t]).length : Nat) : Int)).toNat]? = _
        rw [List.length_append, show (-1 + (((us.map V.ref).length + [V.ref t].length : Nat) : Int)).toNat = (us.map V.ref).length by rw [show [V.ref t].length = 1 from rfl]; omega, List.getElem?_append_right (Nat.le_refl _), Nat.sub_self]
        rfl
end
end Lamp
set_option Elab.async false
set_option linter.all false
set_option maxRecDepth 100000
set_option maxHeartbeats 1000000
namespace Lamp
open PySem PySem.Spec PyProof.Rows L2
/-- a property of streets -/
theorem pe_prS {X : Cx} {S : Addr} {k j : Nat} {x : Str} {sp : Sp} {e : Expr} {ta : TE} {pos : Pos} (Z : PrR X.prog X.w X.K X.mg X.base S x sp k) (R : SCls X.K S) (hk : k + 1 ≤ j) (hr : Room j X.A) (he : PE X e ta) (hab : attributeBase e x X.env (eval e X.env) = eval e X.env := by rfl) :
    PE X (.Attribute e x pos) (tProp S sp [] E0 ta) := by
  obtain ⟨p, g, fd, hp, F, b⟩ := Z.ex
  exact pe_prop he R.cl hp F (hr.mono hk) b .nil pass0 hab
def spCkLv : Sp := fun vs H Q _ => ∃ lv : Int, vs = [.int lv] ∧ goodLv lv ∧ Q .non H
def spStInit (K : PySem.W.Frag) (C S : Addr) : Sp := fun vs H Q _ => ∃ (a : Addr) (lv : Int) (dx : Addr), vs = [.ref a, .int lv] ∧ H a = some (.ins S dx []) ∧ goodLv lv ∧
  ∀ l H', But a H H' → H l = none → l ≠ a → StAt K C S H' a l lv [] → Q .non H'
def spStDone (K : PySem.W.Frag) (C S : Addr) : Sp := fun vs H Q _ => ∃ (a l : Addr) (lv : Int) (ds : List Deed), vs = [.ref a] ∧ StAt K C S H a l lv ds ∧ ds.length ≤ 64 ∧ ∀ t H', Same H H' → Bare H' t (ds.map fun d => V.ref d.tr) → Q (.ref t) H'
theorem rnd_ins {K : PySem.W.Frag} {C S : Addr} {H : Hp} {a b dx : Addr} {lv fin : Int} {ls : List (Int × Int)} {fs : List (Str × V)} {o : HO} (h : RndW K C H b lv fin ls) (ha : H a = some (.ins S dx fs)) (ne : b ≠ a) : RndW K C (upd H a o) b lv fin ls := by
  obtain ⟨⟨t, ⟨d, h1⟩, as, h2, h3⟩, h4, h5⟩ := h
  refine ⟨⟨t, ⟨d, by rw [upd_ne ne]; exact h1⟩, as, ?_, L2.Paired.mapP h3 fun x q z => by rw [upd_ne (fun k => by rw [k, ha] at z; cases z)]; exact z⟩, h4, h5⟩
  rcases h2 with h2 | ⟨o', h2⟩
  · exact .inl (by rw [upd_ne (fun k => by rw [k, ha] at h2; cases h2)]; exact h2)
  · exact .inr ⟨o', by rw [upd_ne (fun k => by rw [k, ha] at h2; cases h2)]; exact h2⟩
theorem zipF {α β : Type} {g : α → V} : ∀ {as : List α} {bs : List β}, as.length = bs.length → (as.zip bs).map (fun p => g p.1) = as.map g
  | [], [], _ => rfl
  | [], _ :: _, h => by cases h
  | _ :: _, [], h => by cases h
  | a :: as, b :: bs, h => by
    exact congrArg (g a :: ·) (zipF (Nat.succ.inj h))
theorem zipO {α β γ : Type} {g : β → γ} : ∀ {as : List α} {bs : List β}, as.length = bs.length → (as.zip bs).filterMap (fun p => some (g p.2)) = bs.map g
  | [], [], _ => rfl
  | [], _ :: _, h => by cases h
  | _ :: _, [], h => by cases h
  | a :: as, b :: bs, h => by
    exact congrArg (g b :: ·) (zipO (Nat.succ.inj h))
theorem refs_of {ys : List V} {ds : List Deed} (h : Paired (fun v (b : Addr) => v = V.ref b) ys (ds.map (·.tr))) : ys = ds.map fun d => V.ref d.tr := by
  induction ds generalizing ys with
  | nil => cases h; rfl
  | cons d ds ih =>
    cases h with
    | cons e t => rw [e, ih t]; rfl
section
variable {K : PySem.W.Frag} {C : Addr} {σ : L2.St} {H : Hp} {tl te : TE} {lv e : Int}
theorem mk0n (hg : goodLv lv) (hl : ∀ H, Val tl σ H (.int lv)) (he : ∀ H, Val te σ H (.int e)) : ∀ Q : VK, (∀ a H', Same H H' → H a = none → RndW K C H' a lv e [] → Q (.ref a) H') → tMkR K C (tCons tl (tCons (tTup tNil) (tCons te tNil))) σ H Q := fun Q q => by
  refine hl _ _ ⟨(by show 0 ≤ sizeLine; decide), fun t nt => he _ _ ?_⟩
  have s1 := same_of (o := .tup []) nt
  have p : PicAt K (upd H t (.tup [])) t [] := ⟨[], .inl upd_same, .nil⟩
  have w : IsPicW lv [] := ⟨.nil, fun q h => (nomatch h), by decide⟩
  exact ⟨lv, t, e, rfl, [], hg, p, w, fun a H2 s2 na hR => q a H2 (s1.trans s2) (by
    cases ea : H a with
    | none => rfl
    | some o => rw [s1 _ _ ea] at na; cases na) ⟨⟨t, hR, p.same s2⟩, hg, w⟩⟩
end
section
variable {P : Program} {w : World} {K : PySem.W.Frag} {mg : Str → Option Value} {base : Heap} {C S : Addr}
theorem scStDone : FnScope ["self", "trip", "whole"] ["self"] (defScope sStDone) := ⟨rfl, rfl, rfl, by decide +kernel, rfl, by decide +kernel, by decide +kernel⟩
theorem scCkLv : FnScope ["value"] ["value"] (defScope sCkLv) := ⟨rfl, rfl, rfl, by decide +kernel, rfl, by decide +kernel, by decide +kernel⟩
theorem ok_ckLv {f : Addr} {fd : FuncData} (F : Fun K "check_levels" "check_levels" sCkLv f fd) (Il : Dr P w K mg base spIsLevels "is_levels" ["value"] 2) : FnOk P w K mg base CX0 3 f fd ["value"] spCkLv := by
  refine F.ok scCkLv (fun vs H Q E h => ?_) (fun cdv A outer s H vs Q E hr h => ?_)
  · obtain ⟨lv, rfl, _⟩ := h
    rfl
  · obtain ⟨lv, rfl, hg, q⟩ := h
    refine ⟨_, pss_one (ps_if (pt_not (pt_val (pe_dr Il (by decide) hr rfl (pa_cons (pv 0) pa_nil)))) pss_never pss_nil), ?_⟩
    exact st_no (ans_not (b := true) (ans_val fun Q q => ⟨_, rfl, lv, rfl, hg, q⟩)) q
theorem ok_stInit {f : Addr} {fd : FuncData} (F : Fun K "__init__" "Street.__init__" sStInit f fd) (R : SCls K S) (Cl : Dr P w K mg base spCkLv "check_levels" ["value"] 3) (M : MkR P w K mg base C) (mR : mg "Round" = some (.ref C)) : FnOk P w K mg base CX0 6 f fd ["self", "levels"] (spStInit K C S) := by
  refine F.ok scStInit (fun vs H Q E h => ?_) (fun cdv A outer s H vs Q E hr h => ?_)
  · obtain ⟨a, lv, dx, rfl, _⟩ := h
    rfl
  · obtain ⟨a, lv, dx, rfl, ha, hg, q⟩ := h
    refine ⟨_, pss_cons (ps_expr (pe_dr Cl (by decide) hr rfl (pa_cons (pv 1) pa_nil)))
      (pss_cons (ps_fld (pv 0) (pv 1) (by rfl)) (pss_cons (ps_fld (pv 0) (pe_mkR M hr rfl mR (pa_cons (pv 1) (pa_cons (pe_tup pa_nil) (pa_cons pe_int pa_nil)))) (by rfl)) (pss_one (ps_fld (pv 0) (pe_lst pa_nil) (by rfl))))), ?_⟩
    refine ⟨_, rfl, lv, rfl, hg, ?_⟩
    refine st_seq (st_fld (y := .int lv) (val_var rfl) (val_var rfl) ha R.cl R.n1 (by show 0 < 1000; decide) ?_)
    refine st_seq ?_
    refine mk0n hg (fun _ => val_var rfl) (fun _ => val_c) _ fun b H1 s1 nb hB => ?_
    have h1a := s1 _ _ (upd_same (H := H) (a := a))
    have ba : b ≠ a := fun z => by rw [z, upd_same] at nb; cases nb
    refine ⟨_, rfl, a, S, dx, _, rfl, h1a, R.cl, R.n2, (by show 1 < 1000; decide), ?_⟩
    refine ⟨(by show 0 ≤ sizeLine; decide), fun l nl => ?_⟩
    have la : l ≠ a := fun z => by rw [z, upd_same] at nl; cases nl
    have s2 := same_of (o := .lst []) nl
    have h2a := s2 _ _ (upd_same (a := a))
    refine ⟨_, rfl, a, S, dx, _, rfl, h2a, R.cl, R.n3, (by show 2 < 1000; decide), ?_⟩
    have hB2 := (rnd_ins (o := .ins S dx (putF "_still" (V.ref b) (putF "_levels" (V.int lv) []))) hB h1a ba).same s2
    refine q l _ (((But.at.trans (But.of s1)).trans But.at).trans ((But.of s2).trans But.at)) ?_ la ⟨⟨dx, b, upd_same, rnd_ins hB2 h2a ba⟩, [], ?_, .nil⟩
    · cases el : H l with
      | none => rfl
      | some o =>
        have z : H1 l = some o := s1 _ _ (by rw [upd_ne la]; exact el)
        rw [upd_ne la, z] at nl
        cases nl
    · rw [upd_ne la, upd_same]
      rfl
theorem ok_stPlace {f : Addr} {fd : FuncData} (F : Fun K "place" "Street.place" sStPlace f fd) (R : RCls K C) (RS : SCls K S) (Z : Ask3 P w K mg base C) (Tr : PrR P w K mg base S "trip" (spStTrip K C S) 1) : FnOk P w K mg base CX0 3 f fd ["self"] (spStPlace K C S) := by
  refine F.ok scStPlace (fun vs H Q E h => ?_) (fun cdv A outer s H vs Q E hr h => ?_)
  · obtain ⟨a, l, lv, ds, rfl, _⟩ := h
    rfl
  · obtain ⟨a, l, lv, ds, rfl, hS, q⟩ := h
    obtain ⟨⟨dx, st, h1, h2⟩, _⟩ := id hS
    refine ⟨_, pss_one (ps_ret (pe_prR Z.en R (by decide) hr (pe_prS Tr RS (by decide) hr (pv 0)))), ?_⟩
    refine ⟨_, rfl, a, dx, _, rfl, h1, a, l, lv, ds, rfl, hS, fun r hR => ?_⟩
    obtain ⟨⟨t, hr1, hp⟩, _, _⟩ := hR
    obtain ⟨dr, hr2⟩ := id hr1
    exact ⟨r, dr, _, rfl, hr2, r, t, lv, _, rfl, hr1, q⟩
theorem ok_stLamps {f : Addr} {fd : FuncData} (F : Fun K "lamps" "Street.lamps" sStLamps f fd) (R : RCls K C) (RS : SCls K S) (Z : Ask3 P w K mg base C) (Tr : PrR P w K mg base S "trip" (spStTrip K C S) 1) : FnOk P w K mg base CX0 3 f fd ["self"] (spStLamps K C S) := by
  refine F.ok scStLamps (fun vs H Q E h => ?_) (fun cdv A outer s H vs Q E hr h => ?_)
  · obtain ⟨a, l, lv, ds, rfl, _⟩ := h
    rfl
  · obtain ⟨a, l, lv, ds, rfl, hS, q⟩ := h
    obtain ⟨⟨dx, st, h1, h2⟩, _⟩ := id hS
    refine ⟨_, pss_one (ps_ret (pe_prR Z.la R (by decide) hr (pe_prS Tr RS (by decide) hr (pv 0)))), ?_⟩
    refine ⟨_, rfl, a, dx, _, rfl, h1, a, l, lv, ds, rfl, hS, fun r hR => ?_⟩
    obtain ⟨⟨t, hr1, hp⟩, _, hi⟩ := hR
    obtain ⟨dr, hr2⟩ := id hr1
    exact ⟨r, dr, _, rfl, hr2, r, t, lv, _, rfl, hr1, q t hp hi⟩
theorem ok_stDone {f : Addr} {fd : FuncData} (F : Fun K "done" "Street.done" sStDone f fd) (R : SCls K S) (mt : mg "tuple" = none) : FnOk P w K mg base CX0 1 f fd ["self"] (spStDone K C S) := by
  refine F.ok scStDone (fun vs H Q E h => ?_) (fun cdv A outer s H vs Q E hr h => ?_)
  · obtain ⟨a, l, lv, ds, rfl, _⟩ := h
    rfl
  · obtain ⟨a, l, lv, ds, rfl, ⟨⟨dx, st, h1, h2⟩, ts, h3, h4⟩, few, q⟩ := h
    have hlen := Paired.length h4
    refine ⟨_, pss_one (ps_ret (pe_callTy call_tupB (by rfl) mt (by decide +kernel) (pa_cons (pe_lc (own := [("trip", 1), ("whole", 2)]) (g := gTup K 2 (gCons (gName 1) (gCons (gName 2) gNil))) (tt := tYes) rfl scStDone.nd (pi_list (pe_fld (pv 0) rfl))
          (blkOk_by (own := [("trip", 1), ("whole", 2)]) (N := ["self", "trip", "whole"]) (sc := defScope sStDone) (by decide +kernel)) (fun _ _ _ _ _ => pg_tup rfl (pgs_cons (pg_name (i := 1) scStDone.nd rfl (Or.inl rfl)) (pgs_cons (pg_name (i := 2) scStDone.nd rfl (Or.inl rfl)) pgs_nil))) (fun _ _ _ _ _ => pts_nil)
          (fun _ _ _ _ _ => pv 1)) pa_nil))), ?_⟩
    refine ⟨_, rfl, a, S, dx, _, _, rfl, h1, R.cl, R.n3, rfl, l, rfl, ⟨_, SqL.of h3⟩, fun D hD => ?_⟩
    refine lc_genL (us := ts.zip ds) (enc := fun u => V.ref u.1) (out := fun u => some u.2.tr) (Rel := fun (b : Addr) v _ => v = V.ref b) (fun _ _ _ _ _ z => z) hD (by rw [zipF hlen]; exact SqL.of h3) (by rw [List.length_zip]; omega) ?_ ?_
    · intro i u H2 hu s2 R' Z' hR hZ
      rw [List.getElem?_zip_eq_some] at hu
      obtain ⟨d', hd', hat⟩ := paired_get h4 hu.1
      rw [hu.2] at hd'
      cases hd'
      refine ⟨u.1, _, rfl, SqT.of (s2 _ _ hat.at_), rfl, _, _, rfl, _, _, rfl, rfl, rfl, ?_⟩
      exact ⟨_, rfl, hR _ _ _ rfl (Same.refl _) rfl⟩
    · intro H2 ys s2 hD2 hp2
      have ey : ys = ds.map fun d => V.ref d.tr := refs_of (by rw [zipO hlen] at hp2; exact hp2)
      subst ey
      refine ⟨D, _, rfl, SqL.of hD2, fun t' o nt ho => ?_⟩
      exact q t' _ (s2.trans (same_of (o := .frz o (.tup (ds.map fun d => V.ref d.tr))) nt)) ⟨o, upd_same, ho⟩
end
end Lamp
set_option Elab.async false
set_option linter.all false
set_option maxRecDepth 100000
set_option maxHeartbeats 1000000
namespace Lamp
open PySem PySem.Spec PyProof.Rows L2
/-! an exception that is handled, at p: with a dict of its own, or without -/
/-- the exception's class and its dict -/
structure PinO (p : Addr × Obj) (D : Addr) (d : Option Addr) : Prop where
  z : Zc (.ref D) d p.2
  f : ∃ vs, p.2.data = .fields vs
theorem PinO.some {p : Addr × Obj} {D dd : Addr} (h : PinO p D (some dd)) : Pinned p D dd := ⟨h.z, h.f⟩
/-- what stands where its dict is told to be -/
def DictO (H : Hp) : Option Addr → Prop
  | none => True
  | some dd => ∃ fs, H dd = some (exd dd fs)
section
variable {X : Cx} {p : Addr × Obj} {D : Addr} {d : Option Addr}
/-- isinstance(e, c) of it -/
def rIsO (K : PySem.W.Frag) (a D : Addr) (d : Option Addr) : List V → Hp → VK → Prop := fun xs H Q => ∃ (c : V) (u : Value) (b : Bool), xs = [.ref a, c] ∧ DictO H d ∧ ClsV c u ∧ PySem.W.kitOne K (.ref D) u = some b ∧ Q (.bl b) H
theorem call_isO (G : ClsG X.K) (T : ∃ (B newId initId : String) (tail : List Value), EC X.K D B newId initId tail) (hp : p ∈ X.pn) (Z : PinO p D d) : CallR X (.builtin "isinstance") (rIsO X.K p.1 D d) := by
  cases d with
  | some dd =>
    intro pins s σ H xs us Q I r h
    obtain ⟨c, cv, b, rfl, ⟨fs, hd⟩, hc, hk, q⟩ := h
    exact call_isP G T hp Z.some pins s σ H _ us Q I r ⟨c, cv, b, fs, rfl, hd, hc, hk, q⟩
  | none =>
    intro pins s σ H xs us Q I r h
    obtain ⟨c, cv, b, rfl, _, hc, hk, q⟩ := h
    obtain ⟨u1, u2, rfl, r1, r2⟩ := vals2 r
    have e1 : u1 = Value.ref p.1 := r1
    subst e1
    have e2 := hc.eq r2
    subst e2
    obtain ⟨⟨h1, h2⟩, vs, h3⟩ := Z
    have pin := (I.pin p (List.mem_append_left _ hp)).1
    have J : PySem.W.InstAt s.heap p.1 p.2 D none := ⟨pin, h1, by unfold PySem.W.notCls; rw [h3] <;> rfl, by rw [h2]; trivial⟩
    obtain ⟨B, newId, initId, tail, T⟩ := T
    have isCls : (PySem.W.clsIn X.K D).isSome = true := by
      obtain ⟨cd, hcd, _⟩ := PySem.W.any_some T.hd
      rw [hcd]
      rfl
    exact PySem.W.kia_one (PySem.W.kitx_exc isCls T.ga T.gg T.exC T.cls G.get G.tak T.obj) I.kIn J hk (fun z => nomatch z) fun tk => ⟨.bl b, H, I.tok tk, rfl, q⟩
end
/-! a def that is called where an exception is handled: what it promises of it -/
abbrev SpO := Addr → Addr → Option Addr → Sp
structure FnO (P : Program) (w : World) (K : PySem.W.Frag) (mg : Str → Option Value) (base : Heap) (k : Nat) (f : Addr) (fd : FuncData) (ps : List Str) (sp : SpO) : Prop where
  many : ∀ a D d vs H Q E, sp a D d vs H Q E → vs.length = ps.length
  goes : ∀ (A : Around) (out : List Env) (s : Shared) (H : Hp) (ar : Args) (us : List Value) (vs : List V) (Q : VK) (p : Addr × Obj) (D : Addr) (d : Option Addr), A.guards = some [] → L2H.RoomH k A → L2H.PinOk out H s p → PinO p D d → Env0 P w K mg base A out s H →
    BindsTo s fd ar (ps.zip us) → Vals vs us → sp p.1 D d vs H Q E0 → codeAny (model P w) A (.call (.ref f) ar) (CR CX0 out P w H s Q E0) s
section
variable {P : Program} {w : World} {K : PySem.W.Frag} {mg : Str → Option Value} {base : Heap}
/-- the rule for such a def, by its body -/
theorem okO {x qual : Str} {st : Stmt} {f : Addr} {fd : FuncData} {N ps : List Str} {k : Nat} {sp : SpO} (F : Fun K x qual st f fd) (S : FnScope N ps (defScope st)) (len : ∀ a D d vs H Q E, sp a D d vs H Q E → vs.length = ps.length)
    (hbody : ∀ (cdv : Value) (A : Around) (outer : List Env) (s : Shared) (H : Hp) (vs : List V) (Q : VK) (p : Addr × Obj) (D : Addr) (d : Option Addr), A.guards = some [] → L2H.RoomH k (A.deeper (envOfC qual (defScope st) s.heap.objs.size f cdv)) → PinO p D d → sp p.1 D d vs H Q E0 →
      ∃ t, PSs (L2H.cxH CX0 P w K mg base N qual (defScope st) f cdv A outer s H E0 p).nox (defBody st) t ∧ t { nx := fun _ H' => Q .non H', rt := Q } (start N vs) H) : FnO P w K mg base (k + 1) f fd ps sp := by
  obtain ⟨oc, od, kV, doc, pm, an, cdv, ct, osl, efd, hlk, hcode⟩ := F.ex
  subst efd
  refine ⟨len, fun A out s H ar us vs Q p D d hgd hroom hpin hz hst hbind hvals hs => ?_⟩
  have hcount := len _ _ _ _ _ _ _ hs
  have inK : K.In s.heap := hst.mod.kin.keeps fun b o e => (hst.bs b o e).1
  have noLim : s.heap.NoLimit := hst.mod.nolimit.keeps fun b o e => (hst.bs b o e).1
  refine codeAny_call_function hroom.depth (inK _ _ hlk) rfl S.co S.gen rfl (PySem.W.codeRec_of inK hcode) (hbind _ _ _ _ ?_)
  refine wpAny_newFunctionEnv_cells S.kind (fun y hy => ?_) fun env eenv s1 xin => ?_
  · obtain ⟨nm, val⟩ := y
    cases S.par nm (List.of_mem_zip hy).1 with
    | inl isLocal => exact .inl isLocal
    | inr isCell => exact .inr ⟨isCell, PySem.W.cellsFrom_some _ _ _ (.inl isCell)⟩
  subst eenv
  refine ⟨noLim.keeps xin.toInCall.keep, codeAny_func ?_⟩
  obtain ⟨t, ht0, hq⟩ := hbody cdv A out s H vs Q p D d hgd (hroom.deeper _) hz hs
  have ht := ht0.nox
  have inv0 : Inv (L2H.cxH CX0 P w K mg base N qual (defScope st) f cdv A out s H E0 p) [] (start N vs) H s1 := L2H.inv_startH S hpin hst hcount hvals xin
  have fin : ∀ {σ' : L2.St} {H' : Hp} {v : V} {u : Value} {s' : Shared}, Inv (L2H.cxH CX0 P w K mg base N qual (defScope st) f cdv A out s H E0 p) [] σ' H' s' → RelV v u → Q v H' → CE out P w H s Q u s' := fun J rv q => ⟨_, _, J.os, J.bare, J.base, J.hok, rv, q⟩
  refine wpAny_mono (ht.run [] s1 (start N vs) H _ inv0 hq) (fun flow s' told => ?_) fun e s' told => told
  match flow, told with
  | .ret u, ⟨v, σ', H', J, rv, q⟩ => exact fin J rv q
  | .next, ⟨σ', H', J, q⟩ => exact fin (v := V.non) (u := Value.none) J rfl q
  | .brk, ⟨_, _, _, q⟩ => exact False.elim q
  | .cont, ⟨_, _, _, q⟩ => exact False.elim q
end
section
variable {X : Cx} {k : Nat} {f : Addr} {fd : FuncData} {ps : List Str} {sp : SpO} {x : Str} {q pos : Pos} {e : Expr} {es : List Expr} {t : TA} {p : Addr × Obj} {D : Addr} {d : Option Addr}
theorem runO {pins : List (Addr × Obj)} {σ : L2.St} {H : Hp} {s : Shared} {Q : VK} {us : List Value} {vs : List V} (F : FnO X.prog X.w X.K X.mg X.base k f fd ps sp) (hgd : X.A.guards = some []) (hr : L2H.RoomH k X.A) (hp : p ∈ X.pn) (Z : PinO p D d) (hb : Binds X.K fd ps [])
    (I : Inv X pins σ H s) (r : Vals vs us) (h : sp p.1 D d vs H Q E0) : wpAny (model X.prog X.w) X.A (call (.ref f) us) (EP X pins σ Q) X.xe s := by
  have hl : (us ++ []).length = ps.length := by rw [List.append_nil, ← r.length]; exact F.many _ _ _ _ _ _ _ h
  have hbb := hb s us I.kIn hl
  rw [List.append_nil] at hbb
  obtain ⟨g1, g2, g3, g4, g5⟩ := I.pin p (List.mem_append_left _ hp)
  have pin : L2H.PinOk X.stack H s p := ⟨g1, g2, fun hm => (List.mem_cons.mp (I.stkSub p.1 hm)).elim g3 g4, g5⟩
  refine wpAny_call (codeAny_mono (F.goes X.A X.stack s H ⟨us, []⟩ us vs Q p D d hgd hr pin Z I.env0 hbb r h) fun res s' told => ?_)
  match res, told with
  | .error _, told => exact False.elim told
  | .ok (.ret u), told => exact I.after told
  | .ok .next, told => exact False.elim told
  | .ok .brk, told => exact False.elim told
  | .ok .cont, told => exact False.elim told
/-- f(e, ..), where p is handled -/
theorem pe_callO (F : FnO X.prog X.w X.K X.mg X.base k f fd ps sp) (hgd : X.A.guards = some []) (hr : L2H.RoomH k X.A) (hp : p ∈ X.pn) (Z : PinO p D d) (hg : Gl X x) (hm : X.mg x = some (.ref f)) (hk : PySem.W.keepIn X.K (.ref f) = true) (hb : Binds X.K fd ps [])
    (ha : PA X (e :: es) t) (hdb : (x == ("__debug__" : Str)) = false := by decide) (he : starEach (e :: es) X.env = (false, eval e X.env) :: starEach es X.env := by rfl) (hpl : (backTo pos (starEach es X.env)).any (·.1) = false := by rfl) :
    PE X (.Call (.Name x q) (e :: es) [] pos) (tCallG (sp p.1 D d) t) :=
  ⟨fun pins s σ H Q I h => wpAny_Call_Name_kw (ld_glob I hg hm (PySem.W.callWith_K (h₀ := X.base) I.ok.mod.kin hk (thn (ha.run pos pins s σ H _ I h) fun us s1 ⟨vs, H1, I1, r, q⟩ =>
    ⟨I1.kIn, runO F hgd hr hp Z hb I1 r q⟩) he hpl) hdb)⟩
end
end Lamp
set_option Elab.async false
set_option linter.all false
set_option maxRecDepth 100000
set_option maxHeartbeats 1000000
namespace Lamp
open PySem PySem.Spec PyProof.Rows L2 LamX
/-! as LampB, the exception with a dict of its own or without -/
def raisO (K : PySem.W.Frag) (c1 c2 c3 : Value) (sp : SpO) (Q : VK) : XK := fun cls d H' => ∃ D, cls = .ref D ∧ PySem.W.exmAny K cls [c1, c2, c3] = some true ∧ ∀ a, H' a = none → sp a D d [.ref a] H' Q E0
def TTanO (K : PySem.W.Frag) (c1 c2 c3 : Value) (sp : SpO) : (XK → Hp → VK → Prop) → Hp → VK → Prop := fun tl H Q => ∀ f, tl (raisO K c1 c2 c3 sp Q) H (backE f Q)
/-- its suite -/
def tSuiteO (sp : SpO) (a : Addr) (cls : Value) (d : Option Addr) : TS := fun D' σ H => ∃ D, cls = .ref D ∧ tRet (tCallG (sp a D d) (tCons (tVar 2) tNil)) D' σ H
section
variable {P : Program} {w : World} {K : PySem.W.Frag} {mg : Str → Option Value} {base : Heap}
/-- what is known of the def that sorts errors -/
structure SortO (P : Program) (w : World) (K : PySem.W.Frag) (mg : Str → Option Value) (base : Heap) (sp : SpO) (k : Nat) : Prop where
  ex : ∃ (f : Addr) (fd : FuncData), FnO P w K mg base k f fd ["_law_e"] sp ∧ Binds K fd ["_law_e"] [] ∧ mg "_law_sort" = some (.ref f) ∧ PySem.W.keepIn K (.ref f) = true
theorem ans_givesO {X : Cx} {x q : Str} {sg : Scope} {g cA cB cC : Addr} {cdg : Value} {k j1 j2 : Nat} {sp : SpO} {p1 p2 p3 p4 p5 p6 p7 p8 p9 p10 p11 p12 p13 p14 p15 p16 p17 p18 : Pos} (hgd : X.A.guards = some []) (hr : Room (k + 1) X.A) (S : SortO X.prog X.w X.K X.mg X.base sp k)
    (Sg : FnScope ansN ["_law_call_here"] sg) (mA : X.mg "WrongValue" = some (.ref cA)) (mB : X.mg "WrongName" = some (.ref cB)) (mC : X.mg "NotPossible" = some (.ref cC)) (v1 : sg.names.lookup ("_law_got" : Str) = some NameKind.local) (v2 : sg.names.lookup ("_law_e" : Str) = some NameKind.local)
    (gA : sg.names.lookup ("WrongValue" : Str) = some .globalImplicit) (gB : sg.names.lookup ("WrongName" : Str) = some .globalImplicit) (gC : sg.names.lookup ("NotPossible" : Str) = some .globalImplicit) (gS : sg.names.lookup ("_law_sort" : Str) = some .globalImplicit) :
    GivesTo X ansN x sg g cdg [.Try [.Assign [.Name "_law_got" p1] (.Call (.Name "_law_call_here" p2) [] [] p3) p4] [.ExceptHandler (some (.Tuple [.Name "WrongValue" p5, .Name "WrongName" p6, .Name "NotPossible" p7] j1 p8)) (some "_law_e") [.Return (some (.Call (.Name "_law_sort" p9) [.Name "_law_e" p10] [] p11)) p12] p13] [] [] p14,
      .Return (some (.List [.Constant (.str "back") j2 p15, .Name "_law_got" p16] p17)) p18] "_law_call_here" q (TTanO X.K (.ref cA) (.ref cB) (.ref cC) sp) := by
  intro f c' s H Q tl act hc h
  obtain ⟨fS, fdS, F, b, m, kp⟩ := S.ex
  have rm : L2H.RoomH k (X.A.deeper (envOfC x sg s.heap.objs.size g cdg)) := L2H.roomH_of (hr.deeper _)
  refine ⟨_, pss_cons (ps_try_tup (X := (cxOf C8.CX0 X.prog X.w X.K X.mg X.base ansN x sg g cdg X.A X.stack s H C8.E0).nox) (i := 2) (c1 := .ref cA) (c2 := .ref cB) (c3 := .ref cC)
      (tb := fun W D σ H => ∃ Ech : XK, (∀ cls d σ' H', Ech cls d H' → W cls d σ' H') ∧ σ[0]? = some (some (.ref f)) ∧ H c' = some (CodeO c' q) ∧ tl Ech H (fun v H' => D.nx (σ.set 1 (some v)) H')) (ts := tSuiteO sp)
      rfl rfl Sg.nd rfl v2 ⟨gA, rfl, .inl mA⟩ ⟨gB, rfl, .inl mB⟩ ⟨gC, rfl, .inl mC⟩ (fun W pn xe tk _ => ?_) (fun a oe cls d pn hz hf => ?_)) (pss_one (ps_ret (pe_lst (pa_cons pe_str (pa_cons (pv (x := "_law_got") 1 rfl (.inl v1)) pa_nil))))), ?_⟩
  · refine ⟨fun pins s' σ H' D I h' => ?_⟩
    obtain ⟨Ech, hW, h1, h2, h3⟩ := h'
    have hp := act W pn xe Ech p2 p3 tk hW
    have hs : PS ((cxOf C8.CX0 X.prog X.w X.K X.mg X.base ansN x sg g cdg X.A X.stack s H C8.E0).tr pn xe) (.Assign [.Name "_law_got" p1] (.Call (.Name "_law_call_here" p2) [] [] p3) p4) _ := ps_set (i := 1) Sg.nd rfl (.inl v1) hp
    exact (pss_one hs).run pins s' σ H' D I ⟨h1, h2, h3⟩
  · refine ⟨fun pins s' σ H' D I h' => ?_⟩
    obtain ⟨Dc, rfl, h'⟩ := h'
    refine PSs.run (pss_one (ps_ret (pe_callO (X := ((cxOf C8.CX0 X.prog X.w X.K X.mg X.base ansN x sg g cdg X.A X.stack s H C8.E0).nox).suite a ((a, oe) :: pn)) (p := (a, oe)) (D := Dc) (d := d) F hgd ⟨rm.dp, rm.un⟩ (List.mem_cons_self ..) ⟨hz, hf⟩ gS m kp b (pa_cons (pv (x := "_law_e") 2 rfl (.inl v2)) pa_nil)))) pins s' σ H' D I h'
  · refine ⟨raisO X.K (.ref cA) (.ref cB) (.ref cC) sp Q, ?_, rfl, hc, h f⟩
    rintro cls d σ' H' ⟨Dc, rfl, e, hq⟩ hlen
    refine ⟨e, fun a na => ⟨Dc, rfl, .ref a, ?_, hq a na⟩⟩
    have l3 : σ'.length = 3 := hlen
    have l2 : 2 < σ'.length := by omega
    exact List.getElem?_set_self l2
/-- what is known of the def -/
structure AnsO (P : Program) (w : World) (K : PySem.W.Frag) (mg : Str → Option Value) (base : Heap) (cA cB cC : Addr) (sp : SpO) (k : Nat) : Prop where
  S : SortO P w K mg base sp k
  mA : mg "WrongValue" = some (.ref cA)
  mB : mg "WrongName" = some (.ref cB)
  mC : mg "NotPossible" = some (.ref cC)
  ex : ∃ (g : Addr) (st : Stmt) (fd : FuncData) (j1 j2 : Nat) (p1 p2 p3 p4 p5 p6 p7 p8 p9 p10 p11 p12 p13 p14 p15 p16 p17 p18 : Pos), Fun K "_law_answer" "_law_answer" st g fd ∧ Binds K fd ["_law_call_here"] [] ∧ mg "_law_answer" = some (.ref g) ∧ PySem.W.keepIn K (.ref g) = true ∧
    FnScope ansN ["_law_call_here"] (defScope st) ∧ ((defScope st).names.lookup ("_law_call_here" : Str) = some NameKind.local ∧ (defScope st).names.lookup ("_law_got" : Str) = some NameKind.local ∧ (defScope st).names.lookup ("_law_e" : Str) = some NameKind.local) ∧
    ((defScope st).names.lookup ("WrongValue" : Str) = some .globalImplicit ∧ (defScope st).names.lookup ("WrongName" : Str) = some .globalImplicit ∧ (defScope st).names.lookup ("NotPossible" : Str) = some .globalImplicit ∧ (defScope st).names.lookup ("_law_sort" : Str) = some .globalImplicit) ∧
    defBody st = [.Try [.Assign [.Name "_law_got" p1] (.Call (.Name "_law_call_here" p2) [] [] p3) p4] [.ExceptHandler (some (.Tuple [.Name "WrongValue" p5, .Name "WrongName" p6, .Name "NotPossible" p7] j1 p8)) (some "_law_e") [.Return (some (.Call (.Name "_law_sort" p9) [.Name "_law_e" p10] [] p11)) p12] p13] [] [] p14,
      .Return (some (.List [.Constant (.str "back") j2 p15, .Name "_law_got" p16] p17)) p18]
/-- _law_answer(lambda: body) -/
theorem pe_ansO {X : Cx} {cA cB cC c Pt : Addr} {sp : SpO} {k kS : Nat} {T : List (Addr × Str)} {params : Arguments} {body : Expr} {scope : Scope} {t : XK → TE} {p lpos pos : Pos} (Z : AnsO X.prog X.w X.K X.mg X.base cA cB cC sp kS) (hk : kS ≤ k + 1) (hgd : X.A.guards = some []) (hr : Room (k + 2) X.A) (hg : Gl X "_law_answer")
    (TB : TabB X.base X.mg c Pt) (hcode : X.env.code = .ref c) (hmT : (Pt, X.env.qual ++ "<lambda>") ∈ T) (hu : ∀ p ∈ T, p.1 = Pt → p.2 = X.env.qual ++ "<lambda>") (L : LamS X.env.scope scope) (hdef : defaultsOf params X.env = ([], []))
    (hbind : ∀ (q : Str) (cl : List (Str × Addr)) (pm cv ctv : Value), bindArgs (PySem.W.kla_fn "<lambda>" q params body scope cl pm cv ctv) ⟨[], []⟩ = pure [])
    (hbody : ∀ (A : Around) (outer : List Env) (s : Shared) (H : Hp) (E : XK) (f c' : Addr), Room k (A.deeper (lamEnv X scope s.heap.objs.size f c')) → PE (lamCx X A outer s H E scope f c') body (t E)) :
    PE X (.Call (.Name "_law_answer" p) [.Lambda params body scope lpos] [] pos) (tLam T (TTanO X.K (.ref cA) (.ref cB) (.ref cC) sp) t) := by
  obtain ⟨g, st, fd, j1, j2, p1, p2, p3, p4, p5, p6, p7, p8, p9, p10, p11, p12, p13, p14, p15, p16, p17, p18, F, b, m, kp, Sg, ⟨v0, v1, v2⟩, ⟨gA, gB, gC, gS⟩, hbg⟩ := Z.ex
  obtain ⟨oc, od, kV, doc, pm, an, cdv, ct, osl, efd, hlk, hcodeA⟩ := F.ex
  subst efd
  rw [hbg] at hlk b
  exact pe_lamcall (bg := _) (k := k) (a := "_law_call_here") (Ng := ansN) hg m kp hlk hcodeA b Sg rfl (.inl v0) (ans_givesO (k := k + 1) hgd hr ⟨by
    obtain ⟨f1, fd1, F1, r1⟩ := Z.S.ex
    exact ⟨f1, fd1, ⟨F1.many, fun A out s H ar us vs Q p D d h1 h2 => F1.goes A out s H ar us vs Q p D d h1 (h2.mono hk)⟩, r1⟩⟩ Sg Z.mA Z.mB Z.mC v1 v2 gA gB gC gS) TB hcode hmT hu hr L hdef hbind hbody
end
end Lamp
set_option Elab.async false
set_option linter.all false
set_option maxRecDepth 100000
set_option maxHeartbeats 1000000
namespace Lamp
open PySem PySem.Spec PyProof.Rows L2
/-! checks, then, do, undo that raise; streets made -/
def spCkRsX (C xO : Addr) : Sp := fun vs H Q E => ∃ (a b t u : Addr) (lv lv' fin fin' : Int), vs = [.ref a, .ref b] ∧ RoundAt C H a lv t fin ∧ RoundAt C H b lv' u fin' ∧ (lv' = lv → Q .non H) ∧ (lv' ≠ lv → ∀ d H', Same H H' → H' d = some (exd d [("given", .int lv')]) → E (.ref xO) (some d) H')
def spThenX (K : PySem.W.Frag) (C xO : Addr) : Sp := fun vs H Q E => ∃ (a b : Addr) (lv lv' fin fin' : Int) (ls ls' : List (Int × Int)), vs = [.ref a, .ref b] ∧ RndW K C H a lv fin ls ∧ RndW K C H b lv' fin' ls' ∧ ls.length + ls'.length < 401 ∧
  (lv' = lv → ∀ (r : Addr) (ms : List (Int × Int)) H', Same H H' → RndW K C H' r lv (fin + fin') ms → (∀ p, sumAt ms p = partsAt [⟨ls, 0, 1⟩, ⟨ls', fin, 1⟩] p % lv) → ms.length ≤ ls.length + ls'.length → Q (.ref r) H') ∧
  (lv' ≠ lv → ∀ d H', Same H H' → H' d = some (exd d [("given", .int lv')]) → E (.ref xO) (some d) H')
def spDoX (K : PySem.W.Frag) (C S xO : Addr) : Sp := fun vs H Q E => ∃ (a l b : Addr) (lv lv' fin : Int) (ls : List (Int × Int)) (ds : List Deed), vs = [.ref a, .ref b] ∧ StAt K C S H a l lv ds ∧ RndW K C H b lv' fin ls ∧ (lsOf ds).length + ls.length < 401 ∧ ds.length ≤ 64 ∧
  (lv' = lv → ∀ (d : Deed) H', But l H H' → d.tr = b → d.fin = fin → d.ls = ls → d.Fin = finOf ds + fin → (∀ p, sumAt d.Ls p = partsAt [⟨lsOf ds, 0, 1⟩, ⟨ls, finOf ds, 1⟩] p % lv) → d.Ls.length ≤ (lsOf ds).length + ls.length → StAt K C S H' a l lv (ds ++ [d]) → Q (.int (finOf ds + fin)) H') ∧
  (lv' ≠ lv → ∀ d H', Same H H' → H' d = some (exd d [("given", .int lv')]) → E (.ref xO) (some d) H')
theorem StAt.push {K : PySem.W.Frag} {C S : Addr} {H H' : Hp} {a l t : Addr} {lv : Int} {ds : List Deed} {d : Deed} {xs : List V} (h : StAt K C S H a l lv ds) (hl : H l = some (.lst xs)) (b : But l H H') (hl' : H' l = some (.lst (xs ++ [.ref t]))) (hd : DeedAt K C H' lv t d) : StAt K C S H' a l lv (ds ++ [d]) := by
  obtain ⟨⟨dx, st, h1, h2⟩, ts, h3, h4⟩ := h
  rw [hl] at h3
  cases Option.some.inj h3
  refine ⟨⟨dx, st, b _ _ (fun z => by rw [z, hl] at h1; cases h1) h1, rnd_but h2 hl b⟩, ts ++ [t], ?_, ?_⟩
  · rw [hl', List.map_append]
    rfl
  · exact paired_app (L2.Paired.mapP h4 fun t d z => z.but hl b) (.cons hd .nil)
theorem v_pLv {σ : L2.St} {H : Hp} {C a t : Addr} {lv fin : Int} {ta : TE} (h : Val ta σ H (.ref a)) (hr : RoundAt C H a lv t fin) : Val (tProp C (spLevels C) [] E0 ta) σ H (.int lv) := by
  obtain ⟨dx, hA⟩ := id hr
  exact fun Q q => h _ ⟨a, dx, _, rfl, hA, a, t, lv, fin, rfl, hr, q⟩
section
variable {P : Program} {w : World} {K : PySem.W.Frag} {mg : Str → Option Value} {base : Heap} {C S xO xU : Addr}
theorem ok_ckRsX {f : Addr} {fd : FuncData} (F : Fun K "check_rounds" "check_rounds" sCkRs f fd) (R : RCls K C) (Z : Ask3 P w K mg base C) (Cr : Dr P w K mg base (spCkR C) "check_round" ["value"] 1) (ZO : XC P w K mg xO "OtherLevels" "given") (yO : PySem.W.typeIn K (.ref xO) = some (.type "type")) : FnOk P w K mg base (L2.CX P w) 3 f fd ["trip", "second"] (spCkRsX C xO) := by
  refine F.okX scCkRs (fun vs H Q E h => ?_) (fun cdv A outer s H vs Q E hr h => ?_)
  · obtain ⟨a, b, t, u, lv, lv', fin, fin', rfl, _⟩ := h
    rfl
  · obtain ⟨a, b, t, u, lv, lv', fin, fin', rfl, ha, hb, q, qx⟩ := h
    refine ⟨_, pss_cons (ps_expr (pe_dr Cr (by decide) hr rfl (pa_cons (pv 0) pa_nil)))
      (pss_cons (ps_expr (pe_dr Cr (by decide) hr rfl (pa_cons (pv 1) pa_nil)))
      (pss_one (ps_if (pt_cmpR op_ne (pe_prR Z.lv R (Nat.le_refl _) hr (pv 1)) (pe_prR Z.lv R (Nat.le_refl _) hr (pv 0)) (nomark _)) (pss_one (ps_raise rfl (takes_of rfl rfl rfl rfl) (pmk_xo rfl (pe_xc ZO hr rfl (pe_prR Z.lv R (Nat.le_refl _) hr (pv 1)))))) pss_nil))), ?_⟩
    refine ⟨_, rfl, a, t, lv, fin, rfl, ha, ?_⟩
    refine ⟨_, rfl, b, u, lv', fin', rfl, hb, ?_⟩
    dsimp only
    by_cases e : lv' = lv
    · exact st_no (ans_ne (v_pLv (val_var rfl) hb) (v_pLv (val_var rfl) ha) rfl (by rw [decide_eq_true (by rw [e])]; rfl)) (q e)
    · refine st_yes (ans_ne (v_pLv (val_var rfl) hb) (v_pLv (val_var rfl) ha) rfl (by rw [decide_eq_false (fun z => e (V.int.inj z))]; rfl)) ?_
      exact raise_run (v_pLv (val_var rfl) hb) (fun a na => fr0_none na) (xc_raises ZO yO) fun d H' s1 hd => qx e d H' s1 hd
theorem ok_thenX {f : Addr} {fd : FuncData} (F : Fun K "then" "then" sThen f fd) (R : RCls K C) (Z : Ask3 P w K mg base C) (Cs : DrX P w K mg base (spCkRsX C xO) "check_rounds" ["trip", "second"] 3) (To : Dr P w K mg base (spTotal K) "total" ["levels", "parts"] 1) (Ro : Dr P w K mg base (spRol K C) "round_of_lamps" ["levels", "lamps", "end"] 6) : FnOk P w K mg base (L2.CX P w) 7 f fd ["trip", "second"] (spThenX K C xO) := by
  refine F.okX scThen (fun vs H Q E h => ?_) (fun cdv A outer s H vs Q E hr h => ?_)
  · obtain ⟨a, b, lv, lv', fin, fin', ls, ls', rfl, _⟩ := h
    rfl
  · obtain ⟨a, b, lv, lv', fin, fin', ls, ls', rfl, ⟨⟨t, ha, hp⟩, hg, hi⟩, ⟨⟨u, hb, hp'⟩, _, hi'⟩, h64, q, qx⟩ := h
    refine ⟨_, pss_cons (ps_expr (pe_drX Cs (by decide) hr rfl (passes_on (takes_of rfl rfl rfl rfl)) (pa_cons (pv 0) (pa_cons (pv 1) pa_nil))))
      (pss_cons (ps_set (i := 2) scThen.nd rfl (.inl rfl) (pe_dr To (by decide) hr rfl (pa_cons (pe_prR Z.lv R (by decide) hr (pv 0)) (pa_cons (pe_tup (pa_cons (pe_tup (pa_cons (pe_prR Z.la R (by decide) hr (pv 0)) (pa_cons pe_int (pa_cons pe_int pa_nil))))
          (pa_cons (pe_tup (pa_cons (pe_prR Z.la R (by decide) hr (pv 1)) (pa_cons (pe_prR Z.en R (by decide) hr (pv 0)) (pa_cons pe_int pa_nil)))) pa_nil))) pa_nil))))
      (pss_one (ps_ret (pe_dr Ro (Nat.le_refl _) hr rfl (pa_cons (pe_prR Z.lv R (by decide) hr (pv 0)) (pa_cons (pv 2) (pa_cons (pe_op op_add (pe_prR Z.en R (by decide) hr (pv 0)) (pe_prR Z.en R (by decide) hr (pv 1))) pa_nil))))))), ?_⟩
    obtain ⟨dx, hA⟩ := id ha
    obtain ⟨dy, hB⟩ := id hb
    refine ⟨_, rfl, _, rfl, a, b, t, u, lv, lv', fin, fin', rfl, ha, hb, fun eLv => ?_, qx⟩
    subst eLv
    replace q := q rfl
    refine ⟨_, rfl, a, dx, _, rfl, hA, a, t, lv', fin, rfl, ha, ?_⟩
    refine ⟨_, rfl, a, dx, _, rfl, hA, a, t, lv', fin, rfl, ha, (by show 3 ≤ sizeLine; decide), fun r1 n1 => ?_⟩
    have s1 := same_of (o := .tup [V.ref t, V.int 0, V.int 1]) n1
    refine ⟨_, rfl, b, dy, _, rfl, s1 _ _ hB, b, u, lv', fin', rfl, hb.same s1, ?_⟩
    refine ⟨_, rfl, a, dx, _, rfl, s1 _ _ hA, a, t, lv', fin, rfl, ha.same s1, (by show 3 ≤ sizeLine; decide), fun r2 n2 => ?_⟩
    have s2 := s1.trans (same_of (o := .tup [V.ref u, V.int fin, V.int 1]) n2)
    refine ⟨(by show 2 ≤ sizeLine; decide), fun pt npt => ?_⟩
    have s3' := same_of (o := .tup [V.ref r1, V.ref r2]) npt
    have s3 := s2.trans s3'
    have e : partsLen [⟨ls, 0, 1⟩, ⟨ls', fin, 1⟩] = ls.length + ls'.length := by
      unfold partsLen
      rw [List.map_cons, List.map_cons, List.map_nil, List.sum_cons, List.sum_cons, List.sum_nil]
      rfl
    refine ⟨lv', pt, [r1, r2], [⟨ls, 0, 1⟩, ⟨ls', fin, 1⟩], rfl, upd_same, .cons ⟨t, ?_, hp.same s3⟩ (.cons ⟨u, ?_, hp'.same s3⟩ .nil), (good_pos hg).1, ?_, by omega, fun tt ms H' s4 hpb hri hsum hl => ?_⟩
    · exact (Same.trans (same_of n2) s3') _ _ upd_same
    · exact s3' _ _ upd_same
    · intro x hx
      simp only [List.mem_cons, List.not_mem_nil, or_false] at hx
      rcases hx with rfl | rfl
      · exact lev_small hg hi
      · exact lev_small hg hi'
    · have s5 := s3.trans s4
      have few : ms.length ≤ 400 := by omega
      refine ⟨_, rfl, a, dx, _, rfl, s5 _ _ hA, a, t, lv', fin, rfl, ha.same s5, _, rfl, ?_⟩
      refine ⟨_, rfl, a, dx, _, rfl, s5 _ _ hA, a, t, lv', fin, rfl, ha.same s5, ?_⟩
      refine ⟨_, rfl, b, dy, _, rfl, s5 _ _ hB, b, u, lv', fin', rfl, hb.same s5, _, _, rfl, rfl, ?_⟩
      refine ⟨tt, lv', fin + fin', ms, rfl, hg, hpb.at, hri.w few, fun r H6 s6 nr hR => ?_⟩
      exact q r ms H6 (s5.trans s6) ⟨⟨tt, hR, hpb.at.same s6⟩, hg, hri.w few⟩ hsum (by omega)
theorem ok_doX {f : Addr} {fd : FuncData} (F : Fun K "do" "Street.do" sDo f fd) (R : RCls K C) (RS : SCls K S) (Z : Ask3 P w K mg base C) (Tr : PrR P w K mg base S "trip" (spStTrip K C S) 1) (Th : DrX P w K mg base (spThenX K C xO) "then" ["trip", "second"] 7) : FnOk P w K mg base (L2.CX P w) 8 f fd ["self", "trip"] (spDoX K C S xO) := by
  refine F.okX scDo (fun vs H Q E h => ?_) (fun cdv A outer s H vs Q E hr h => ?_)
  · obtain ⟨a, l, b, lv, lv', fin, ls, ds, rfl, _⟩ := h
    rfl
  · obtain ⟨a, l, b, lv, lv', fin, ls, ds, rfl, hS, hB, few, fd64, q, qx⟩ := h
    obtain ⟨⟨dx, st, h1, h2⟩, ts, h3, h4⟩ := id hS
    refine ⟨_, pss_cons (ps_set (i := 2) scDo.nd rfl (.inl rfl) (pe_drX Th (Nat.le_refl _) hr rfl (passes_on (takes_of rfl rfl rfl rfl)) (pa_cons (pe_prS Tr RS (by decide) hr (pv 0)) (pa_cons (pv 1) pa_nil))))
      (pss_cons (ps_expr (pe_bm PySem.F.plainAttrs_list PySem.F.slot_list_append PySem.F.type_list_append mt_append (pe_fld (pv 0) rfl) (pa_cons (pe_tup (pa_cons (pv 1) (pa_cons (pv 2) pa_nil))) pa_nil)))
      (pss_one (ps_ret (pe_prR Z.en R (by decide) hr (pv 2))))), ?_⟩
    refine ⟨_, rfl, a, dx, _, rfl, h1, a, l, lv, ds, rfl, hS, fun r hR => ?_⟩
    refine ⟨_, rfl, r, b, lv, lv', finOf ds, fin, lsOf ds, ls, rfl, hR, hB, few, fun eLv wh Ls H1 s1 hW hsum hlen => ?_, qx⟩
    subst eLv
    replace q := q rfl
    have h1' := s1 _ _ h1
    have h3' := s1 _ _ h3
    refine ⟨_, rfl, a, S, dx, _, _, rfl, h1', RS.cl, RS.n3, rfl, .inl ⟨rfl, _, SqL.of h3'⟩, _, rfl, _, rfl, (by show 2 ≤ sizeLine; decide), fun t nt => ?_⟩
    have s2 := same_of (o := .tup [V.ref b, V.ref wh]) nt
    have h3'' := s2 _ _ h3'
    have tl : t ≠ l := fun z => by rw [z, h3'] at nt; cases nt
    refine ⟨l, _, _, rfl, rfl, h3'', ?_, ?_⟩
    · rw [List.length_map, Paired.length h4]
      exact small1000 (by omega)
    · have s12 := s1.trans s2
      have bt : But l (upd H1 t (.tup [V.ref b, V.ref wh])) (upd (upd H1 t (.tup [V.ref b, V.ref wh])) l (.lst (ts.map V.ref ++ [V.ref t]))) := But.at
      have hB2 := rnd_but (hB.same s12) h3'' bt
      have hW2 := rnd_but (hW.same s2) h3'' bt
      obtain ⟨⟨tw, hw1, hw2⟩, _, _⟩ := id hW2
      obtain ⟨dw, hw3⟩ := id hw1
      refine ⟨_, rfl, wh, dw, _, rfl, hw3, wh, tw, _, _, rfl, hw1, ?_⟩
      exact q ⟨b, wh, fin, ls, finOf ds + fin, Ls⟩ _ ((But.of s12).trans bt) rfl rfl rfl rfl hsum hlen ((hS.same s12).push h3'' bt upd_same ⟨by rw [upd_ne tl, upd_same], hB2, hW2⟩)
end
end Lamp
set_option Elab.async false
set_option linter.all false
set_option maxRecDepth 100000
set_option maxHeartbeats 1000000
namespace Lamp
open PySem PySem.Spec PyProof.Rows L2
/-! a tuple that is written out has no dict of its own -/
def tTupB (t : TA) : TE := fun σ H Q => t σ H fun xs H1 => xs.length ≤ sizeLine ∧ ∀ (p : Addr) (o : Obj), H1 p = none → o.dict = none → Q (.ref p) (upd H1 p (.frz o (.tup xs)))
section
variable {X : Cx} {es : List Expr} {t : TA} {pos : Pos}
theorem pe_tupB {x1} (h : PA X es t) : PE X (.Tuple es x1 pos) (tTupB t) := by
  refine ⟨fun pins s σ H Q I hq => ?_⟩
  refine wpAny_Tuple_spliced (thn (h.run pos pins s σ H _ I hq) fun us s1 ⟨xs, H1, I1, r, z, q⟩ => ⟨by rw [← r.length]; exact z, ?_⟩)
  have hf : H1 s1.heap.objs.size = none := I1.hok.fresh (Nat.le_refl _)
  obtain ⟨o, eo⟩ : ∃ o : Obj, o = { cls := .type "tuple", data := .seq us.toArray } := ⟨_, rfl⟩
  refine ⟨.ref s1.heap.objs.size, upd H1 s1.heap.objs.size (.frz o (.tup xs)), I1.laid (t' := s1.toks) (fun b u e => Heap.get?_push_of_some _ e) (Nat.le_refl _) (show ObjOk X.prog X.w _ _ _ (.frz o (.tup xs)) from ⟨by rw [eo]; exact Heap.get?_push_size _ rfl, z, us, r, ⟨_, Heap.get?_push_size _ rfl, rfl, _, rfl⟩⟩), rfl, q _ o hf (by rw [eo])⟩
end
end Lamp
set_option Elab.async false
set_option linter.all false
set_option maxRecDepth 100000
set_option maxHeartbeats 2000000
namespace Lamp
open PySem PySem.Spec PyProof.Rows L2
open TL (tl)
abbrev sShows : Stmt := top 53
/-! what a street tells, beside what the law reckons -/
/-- each whole comes of the one before it -/
inductive Chain (lv : Int) : List Deed → Prop
  | nil : Chain lv []
  | snoc {es : List Deed} {d : Deed} : Chain lv es → IsPic lv d.ls → -big ≤ d.fin → d.fin ≤ big → d.Fin = finOf es + d.fin → (∀ p, sumAt d.Ls p = partsAt [⟨lsOf es, 0, 1⟩, ⟨d.ls, finOf es, 1⟩] p % lv) → d.Ls.length ≤ (lsOf es).length + d.ls.length → Chain lv (es ++ [d])
theorem paired_get' {α β : Type} {R : α → β → Prop} : ∀ {as : List α} {bs : List β} {i : Nat} {b : β}, Paired R as bs → bs[i]? = some b → ∃ a, as[i]? = some a ∧ R a b
  | _, _, 0, _, .cons h _, e => ⟨_, rfl, by cases Option.some.inj e; exact h⟩
  | _, _, i + 1, b, .cons _ t, e => paired_get' (i := i) t e
  | _, _, _, _, .nil, e => by cases e
theorem snoc_inj {α : Type} {es fs : List α} {d e : α} (h : es ++ [d] = fs ++ [e]) : es = fs ∧ d = e := by
  have := List.append_inj' h rfl
  exact ⟨this.1, List.cons.inj this.2 |>.1⟩
theorem Chain.last {lv : Int} {es : List Deed} {d : Deed} (h : Chain lv (es ++ [d])) : Chain lv es ∧ IsPic lv d.ls ∧ -big ≤ d.fin ∧ d.fin ≤ big ∧ d.Fin = finOf es + d.fin ∧ (∀ p, sumAt d.Ls p = partsAt [⟨lsOf es, 0, 1⟩, ⟨d.ls, finOf es, 1⟩] p % lv) ∧ d.Ls.length ≤ (lsOf es).length + d.ls.length := by
  generalize e : es ++ [d] = xs at h
  cases h with
  | nil => cases es <;> cases e
  | snoc a b c g i j k =>
    obtain ⟨rfl, rfl⟩ := snoc_inj e
    exact ⟨a, b, c, g, i, j, k⟩
theorem Chain.take {lv : Int} {ds : List Deed} (h : Chain lv ds) : ∀ k : Nat, Chain lv (ds.take k) := by
  induction h with
  | nil => intro k; rw [List.take_nil]; exact .nil
  | snoc a b c g i j l ih =>
    rename_i es d
    intro k
    by_cases hk : k ≤ es.length
    · rw [List.take_append_of_le_length hk]
      exact ih k
    · rw [List.take_of_length_le (by rw [List.length_append]; show es.length + 1 ≤ k; omega)]
      exact .snoc a b c g i j l
/-- how far the whole lies -/
theorem Chain.far {lv : Int} (h0 : 0 < lv) {ds : List Deed} (h : Chain lv ds) : (∀ d ∈ ds, Rising lv d.Ls) → (finOf ds).natAbs ≤ ds.length * 10 ^ 39 ∧ (∀ q ∈ lsOf ds, q.1.natAbs ≤ (ds.length + 1) * 10 ^ 39) ∧ (lsOf ds).length ≤ 5 * ds.length := by
  have eb : big = 1000000000000000000000000000000000000000 := by decide
  have e39 : (10 : Nat) ^ 39 = 1000000000000000000000000000000000000000 := by decide
  induction h with
  | nil => intro _; exact ⟨Nat.zero_le _, (fun q h => nomatch h), Nat.le_refl _⟩
  | snoc a b c g i j l ih =>
    rename_i es d
    intro hr
    obtain ⟨h1, h2, h3⟩ := ih fun x hx => hr x (List.mem_append_left _ hx)
    have rd := hr d (List.mem_append_right _ (List.mem_cons_self ..))
    have few := b.few
    refine ⟨?_, fun q hq => ?_, ?_⟩
    · rw [finOf_last, i, List.length_append]
      show _ ≤ (es.length + 1) * 10 ^ 39
      rw [e39] at h1 ⊢
      omega
    · rw [lsOf_last] at hq
      rw [List.length_append]
      show _ ≤ (es.length + 1 + 1) * 10 ^ 39
      have z := rd.lv q hq
      have e := rd.mem hq
      rw [j, then_sum] at e
      rw [e39] at h1 h2 ⊢
      by_cases y1 : sumAt (lsOf es) q.1 = 0
      · by_cases y2 : sumAt d.ls (q.1 - finOf es) = 0
        · rw [y1, y2, Int.add_zero, Int.zero_emod] at e
          omega
        · obtain ⟨s, hs, es'⟩ := sum_mem y2
          have := b.pl s hs
          omega
      · obtain ⟨s, hs, es'⟩ := sum_mem y1
        have := h2 s hs
        omega
    · rw [lsOf_last, List.length_append]
      show _ ≤ 5 * (es.length + 1)
      omega
def toldD (lv fin : Int) (ls : List (Int × Int)) (n : Nat) (s : Str) : PyData := .list [.int lv, .int fin, .tuple (ls.map pairD), .int (n : Int), .bool true, .str s]
theorem told_ok {lv fin : Int} {ls : List (Int × Int)} {n : Nat} (hf : Fit lv ls fin) (hn : n ≤ 64) : (toldD lv fin ls n (sheetS lv ls fin)).showable = true ∧ (toldD lv fin ls n (sheetS lv ls fin)).depth ≤ 60 ∧ (toldD lv fin ls n (sheetS lv ls fin)).shown.length ≤ sizeLine := by
  obtain ⟨h1, h2, h3⟩ := pairs_facts hf.all
  have w1 := wt_i hf.lv
  have w2 := wt_i hf.fin
  have hnn : ((n : Int)).natAbs < 10 ^ 42 := by
    have : (64 : Nat) < 10 ^ 42 := by decide
    omega
  have w3 := wt_i hnn
  have few := hf.few
  have sl := sheet_len hf.lv hf.fin hf.all
  have ac := asc_sheet lv ls fin
  have hd := (lay_pairs ls).2
  refine ⟨?_, ?_, ?_⟩
  · show (decide (lv.natAbs.log2 < 1920) && (decide (fin.natAbs.log2 < 1920) && (PyData.showableAll (ls.map pairD) && (decide ((n : Int).natAbs.log2 < 1920) && (true && (true && true)))))) = true
    rw [h3, decide_eq_true (fits_log hf.lv), decide_eq_true (fits_log hf.fin), decide_eq_true (fits_log hnn)]
    rfl
  · show max 0 (max 0 (max (PyData.depthAll (ls.map pairD) + 1) (max 0 (max 0 (max 0 0))))) + 1 ≤ 60
    omega
  · have hs : PyData.leavesShort 43 (toldD lv fin ls n (sheetS lv ls fin)) = true := by
      show (decide ((nS lv).length ≤ 43) && (decide ((nS fin).length ≤ 43) && (PyData.leavesShortAll 43 (ls.map pairD) && (decide ((nS (n : Int)).length ≤ 43) && (true && (((sheetS lv ls fin).cps.toList.all fun c => decide (c < 16 ^ 8)) && true)))))) = true
      rw [h1, decide_eq_true (nS_lenW hf.lv), decide_eq_true (nS_lenW hf.fin), decide_eq_true (nS_lenW hnn)]
      have : ((sheetS lv ls fin).cps.toList.all fun c => decide (c < 16 ^ 8)) = true := by
        rw [List.all_eq_true]
        intro c hc
        exact decide_eq_true (Nat.lt_of_lt_of_le (ac c hc) (by decide))
      rw [this]
      rfl
    have z := PyData.shown_le 43 (by decide) _ hs
    have e : (toldD lv fin ls n (sheetS lv ls fin)).weight = PyData.weight (.int lv) + 1 + (PyData.weight (.int fin) + 1 + (PyData.weightAll (ls.map pairD) + 1 + (PyData.weight (.int (n : Int)) + 1 + (0 + 1 + ((sheetS lv ls fin).cps.size + 1 + 0))))) := rfl
    have e2 : (sheetS lv ls fin).cps.size = (sheetS lv ls fin).length := rfl
    have hl : (16000000 : Nat) ≤ sizeLine := by decide
    have hw : (toldD lv fin ls n (sheetS lv ls fin)).weight ≤ 80002 := by omega
    have : (43 + 2) * (toldD lv fin ls n (sheetS lv ls fin)).weight ≤ 45 * 80002 := Nat.mul_le_mul (Nat.le_refl _) hw
    omega
theorem strs_rel {ys : List V} {zs : List Str} (h : Paired (fun v (z : Str) => v = V.str z) ys zs) : ys = zs.map V.str := by
  induction zs generalizing ys with
  | nil => cases h; rfl
  | cons z zs ih =>
    cases h with
    | cons e t => rw [e, ih t]; rfl
theorem eqv_strs (xs : List Str) : PyData.eqv (.list (strsD xs)) (.list (strsD xs)) = true := by
  show PyData.eqvAll (strsD xs) (strsD xs) = true
  induction xs with
  | nil => rfl
  | cons x xs ih =>
    show ((x == x) && PyData.eqvAll (strsD xs) (strsD xs)) = true
    rw [ih, beq_self_eq_true]
    rfl
/-- the law's parts beside the street's deeds -/
def PartOf (K : PySem.W.Frag) (H : Hp) (lv : Int) (p : Addr) (d : Deed) : Prop := PartsB K H p lv d.fin d.ls
def spShows (K : PySem.W.Frag) (C S : Addr) : Sp := fun vs H Q _ => ∃ (a l m : Addr) (lv : Int) (ds : List Deed) (ps : List Addr), vs = [.ref a, .int lv, .ref m] ∧ goodLv lv ∧ StAt K C S H a l lv ds ∧ Chain lv ds ∧ ds.length ≤ 20 ∧ H m = some (.lst (ps.map V.ref)) ∧ Paired (PartOf K H lv) ps ds ∧ ∀ H', Same H H' → Q (.bl true) H'
abbrev showsN : List Str := ["_law_mine", "_law_p", "_law_done_here", "_law_whole", "_law_parts", "_law_told", "_law_each"]
section
variable {P : Program} {w : World} {K : PySem.W.Frag} {mg : Str → Option Value} {base : Heap} {C S : Addr}
theorem scShows : FnScope showsN ["_law_mine", "_law_p", "_law_done_here"] (defScope sShows) := ⟨rfl, rfl, rfl, by decide +kernel, rfl, by decide +kernel, by decide +kernel⟩
theorem ok_shows {f : Addr} {fd : FuncData} (F : Fun K "_law_shows" "_law_shows" sShows f fd) (R : RCls K C) (RS : SCls K S) (LT : Dr P w K mg base (spLThen K) "_law_then" ["_law_near", "_law_far"] 2) (Sh : Dr P w K mg base (spSheet K) "_law_sheet" ["_law_parts"] 1)
    (Lv : PrR P w K mg base S "levels" (spStLevels K C S) 1) (Pl : PrR P w K mg base S "place" (spStPlace K C S) 3) (La : PrR P w K mg base S "lamps" (spStLamps K C S) 3) (Tr : PrR P w K mg base S "trip" (spStTrip K C S) 1) (Dn : PrR P w K mg base S "done" (spStDone K C S) 1) (Tx : PrR P w K mg base C "text" (spText K C) 2)
    (Ln : OwnM P w K mg base S "__len__" (spStLen K C S) 1) (Bo : OwnM P w K mg base S "__bool__" spBool 1) (ml : mg "len" = none) (mb : mg "bool" = none) (mp : mg "repr" = none) : FnG P w K mg base 6 f fd ["_law_mine", "_law_p", "_law_done_here"] (spShows K C S) := by
  refine okG F scShows (fun vs H Q E h => ?_) (fun cdv A outer s H vs Q E hgd hr h => ?_)
  · obtain ⟨a, l, m, lv, ds, ps, rfl, _⟩ := h
    rfl
  · obtain ⟨a, l, m, lv, ds, ps, rfl, hg, hS, hC, hlen, hm, hps, q⟩ := h
    have hu := hr.units
    have hr2 : Room 2 _ := hr.mono (by decide)
    have hr3 : Room 3 _ := hr.mono (by decide)
    refine ⟨_, pss_cons (ps_set (i := 3) scShows.nd rfl (.inl rfl) (pe_lst (pa_cons (pv 1) (pa_cons (pe_tupB pa_nil) (pa_cons pe_int pa_nil)))))
      (pss_cons (ps_for PassesOwn.never rfl (pi_list (pv 2)) (pg_name (i := 4) scShows.nd rfl (.inl rfl)) (pss_one (ps_set (i := 3) scShows.nd rfl (.inl rfl) (pe_dr LT (by decide) hr rfl (pa_cons (pv 3) (pa_cons (pv 4) pa_nil))))))
      (pss_cons (ps_set (i := 5) scShows.nd rfl (.inl rfl) (pe_lst (pa_cons (pe_prS Lv RS (by decide) hr (pv 0)) (pa_cons (pe_prS Pl RS (by decide) hr (pv 0)) (pa_cons (pe_prS La RS (by decide) hr (pv 0)) (pa_cons (pe_callB (call_lenO Ln hr2) (by rfl) ml (by decide +kernel) (pa_cons (pv 0) pa_nil)) (pa_cons (pe_callTy (call_boolO Bo hr3) (by rfl) mb (by decide +kernel) (pa_cons (pv 0) pa_nil)) (pa_cons (pe_prR Tx R (by decide) hr (pe_prS Tr RS (by decide) hr (pv 0))) pa_nil))))))))
      (pss_cons (ps_if (pt_cmpR op_ne (pe_callB (call_reprD hgd hu) (by rfl) mp (by decide +kernel) (pa_cons (pv 5) pa_nil)) (pe_callB (call_reprD hgd hu) (by rfl) mp (by decide +kernel) (pa_cons (pe_lst (pa_cons (pv 1) (pa_cons (pe_ix ix_list (pv 3) pe_int (fun _ _ => rfl)) (pa_cons (pe_ix ix_list (pv 3) pe_int (fun _ _ => rfl)) (pa_cons (pe_callB call_len_seq (by rfl) ml PySem.boot_len (pa_cons (pv 2) pa_nil)) (pa_cons pe_bl (pa_cons (pe_dr Sh (by decide) hr rfl (pa_cons (pv 3) pa_nil)) pa_nil))))))) pa_nil)) (nomark _)) pss_never pss_nil)
      (pss_one (ps_ret (pe_cmpR (op_eqD hu) (pe_lc (own := [("_law_parts", 4)]) (g := gName 4) (tt := tYes) rfl scShows.nd (pi_list (pv 2))
          (blkOk_by (own := [("_law_parts", 4)]) (N := showsN) (sc := defScope sShows) (by decide +kernel)) (fun _ _ _ _ _ => pg_name (i := 4) scShows.nd rfl (Or.inl rfl)) (fun _ _ _ _ _ => pts_nil) (fun _ _ _ _ _ => pe_dr Sh (by decide) hr rfl (pa_cons (pv 4) pa_nil)))
        (pe_lc (own := [("_law_each", 6)]) (g := gName 6) (tt := tYes) rfl scShows.nd (pi_tup (pe_prS Dn RS (by decide) hr (pv 0)))
          (blkOk_by (own := [("_law_each", 6)]) (N := showsN) (sc := defScope sShows) (by decide +kernel)) (fun _ _ _ _ _ => pg_name (i := 6) scShows.nd rfl (Or.inl rfl)) (fun _ _ _ _ _ => pts_nil) (fun _ _ _ _ _ => pe_prR Tx R (by decide) hr (pv 6))) (nomark _))))))), ?_⟩
    have h7 := good_pos hg
    have h0 := h7.1
    have hrise : ∀ d ∈ ds, Rising lv d.Ls ∧ RndW K C H d.tr lv d.fin d.ls ∧ IsPic lv d.ls ∧ -big ≤ d.fin ∧ d.fin ≤ big := fun d hd => by
      obtain ⟨_, ts, _, h4⟩ := hS
      have c : IsPic lv d.ls ∧ -big ≤ d.fin ∧ d.fin ≤ big := by
        clear q hlen hm hps h4
        induction hC with
        | nil => cases hd
        | snoc a b c g i j k ih =>
          rcases List.mem_append.mp hd with z | z
          · exact ih z
          · simp only [List.mem_cons, List.not_mem_nil, or_false] at z
            rw [z]
            exact ⟨b, c, g⟩
      obtain ⟨i, hi⟩ := List.getElem?_of_mem hd
      obtain ⟨t, ht, hD⟩ := paired_get' h4 hi
      exact ⟨hD.whole.pic.rise, hD.trip, c⟩
    obtain ⟨f1, f2, f3⟩ := hC.far h0 fun d hd => (hrise d hd).1
    have hplen := Paired.length hps
    have fitW : ∀ (ls : List (Int × Int)) (fin : Int), Rising lv ls → fin.natAbs ≤ 20 * 10 ^ 39 → (∀ q ∈ ls, q.1.natAbs ≤ 21 * 10 ^ 39) → ls.length ≤ 100 → Fit lv ls fin := fun ls fin r a b c => by
      have e39 : (10 : Nat) ^ 39 = 1000000000000000000000000000000000000000 := by decide
      have e42 : (10 : Nat) ^ 42 = 1000000000000000000000000000000000000000000 := by decide
      refine ⟨by omega, by omega, by omega, fun q hq => ⟨?_, ?_⟩⟩
      · have := b q hq
        omega
      · have := r.lv q hq
        omega
    have riseL : Rising lv (lsOf ds) := by
      rcases last_cases ds with rfl | ⟨es, d, rfl⟩
      · exact ⟨.nil, fun q h => (nomatch h)⟩
      · rw [lsOf_last]
        exact (hrise d (List.mem_append_right _ (List.mem_cons_self ..))).1
    have fit : Fit lv (lsOf ds) (finOf ds) := fitW _ _ riseL (Nat.le_trans f1 (Nat.mul_le_mul hlen (Nat.le_refl _))) (fun q hq => Nat.le_trans (f2 q hq) (Nat.mul_le_mul (by omega) (Nat.le_refl _))) (by omega)
    have fitD : ∀ d ∈ ds, Fit lv d.ls d.fin := fun d hd => by
      obtain ⟨_, _, c, c1, c2⟩ := hrise d hd
      have eb : big = 1000000000000000000000000000000000000000 := by decide
      have e39 : (10 : Nat) ^ 39 = 1000000000000000000000000000000000000000 := by decide
      have cf := c.few
      exact fitW _ _ c.w.rise (by omega) (fun q hq => by have := c.pl q hq; omega) (by omega)
    -- the whole
    refine ⟨_, rfl, (by show 0 ≤ sizeLine; decide), fun te o nte ho => ⟨(by show 3 ≤ sizeLine; decide), fun w0 nw0 => ?_⟩⟩
    have s1 := same_of (o := .frz o (.tup [])) nte
    have s2 := same_of (o := .lst [V.int lv, V.ref te, V.int 0]) nw0
    have s12 := s1.trans s2
    dsimp only [gName]
    refine ⟨_, rfl, m, rfl, ⟨_, SqL.of (s12 _ _ hm)⟩, for_list (xs := ps.map V.ref) (fun k σ' H' => ∃ wk x4, σ' = [some (.ref a), some (.int lv), some (.ref m), some (.ref wk), x4, none, none] ∧ Same H H' ∧ PartsB K H' wk lv (finOf (ds.take k)) (lsOf (ds.take k)))
      ⟨w0, _, rfl, s12, by rw [List.take_zero]; exact ⟨⟨te, upd_same, [], ⟨o, s2 _ _ upd_same, ho⟩, .nil⟩, .nil, fun q h => (nomatch h)⟩⟩ (fun k σ' H' _ z => ?_) (fun k v σ' H' hv z => ?_) (fun σ' H3 z => ?_)⟩
    · obtain ⟨_, _, _, s3, _⟩ := z
      exact SqL.of (s3 _ _ hm)
    · obtain ⟨wk, x4, rfl, s3, hw⟩ := z
      rw [List.getElem?_map] at hv
      cases ep : ps[k]? with
      | none => rw [ep] at hv; cases hv
      | some p =>
        rw [ep] at hv
        have ex : v = V.ref p := (Option.some.inj hv).symm
        subst ex
        obtain ⟨d, hd, hP⟩ := paired_get hps ep
        have hdm := List.mem_of_getElem? hd
        have et : ds.take (k + 1) = ds.take k ++ [d] := by rw [List.take_add_one, hd]; rfl
        have ct := hC.take (k + 1)
        rw [et] at ct
        obtain ⟨ck, cp, _, _, cf, cs, cl⟩ := ct.last
        obtain ⟨_, _, g3⟩ := ck.far h0 fun x hx => (hrise x (List.mem_of_mem_take hx)).1
        rw [List.length_take] at g3
        have cfew := cp.few
        dsimp only [gName]
        refine ⟨_, rfl, _, rfl, wk, p, lv, finOf (ds.take k), d.fin, lsOf (ds.take k), d.ls, rfl, hw, PartsB.same hP s3, h0, by omega, fun l' ms H'' s4 hP' hs' hl' => ?_⟩
        have eL : ms = d.Ls := hP'.rise.same (hrise d hdm).1 h0 fun x => Cg.of (by rw [hs', cs, then_sum])
        refine ⟨l', _, rfl, s3.trans s4, ?_⟩
        rw [et, finOf_last, lsOf_last, cf, ← eL]
        exact hP'
    · obtain ⟨wk, x4, rfl, s3, hw⟩ := z
      rw [List.length_map, hplen, List.take_length] at hw
      obtain ⟨⟨tw, hw1, hwp⟩, _⟩ := id hw
      have hS3 := hS.same s3
      have hm3 := s3 _ _ hm
      obtain ⟨⟨dx, st, h1, h2⟩, _⟩ := id hS3
      dsimp only
      refine ⟨_, rfl, a, dx, _, rfl, h1, a, l, lv, ds, rfl, hS3, ?_⟩
      refine ⟨_, rfl, a, dx, _, rfl, h1, a, l, lv, ds, rfl, hS3, ?_⟩
      refine ⟨_, rfl, a, dx, _, rfl, h1, a, l, lv, ds, rfl, hS3, fun tb hpb hib => ?_⟩
      refine ⟨_, rfl, a, dx, _, rfl, h1, a, l, lv, ds, rfl, hS3, ⟨_, rfl, by omega, by omega⟩, ?_⟩
      refine ⟨_, rfl, a, dx, _, rfl, h1, a, rfl, ⟨true, rfl⟩, ?_⟩
      refine ⟨_, rfl, a, dx, _, rfl, h1, a, l, lv, ds, rfl, hS3, fun r hR => ?_⟩
      obtain ⟨⟨tr, hr1, hrp⟩, _, _⟩ := hR
      obtain ⟨dr, hr2⟩ := id hr1
      refine ⟨r, dr, _, rfl, hr2, r, tr, lv, finOf ds, lsOf ds, rfl, hr1, hrp, fit, fun H4 s4 => ⟨(by show 6 ≤ sizeLine; decide), fun tl ntl => ?_⟩⟩
      have s5 := same_of (o := .lst [V.int lv, V.int (finOf ds), V.ref tb, V.int (ds.length : Int), V.bl true, V.str (sheetS lv (lsOf ds) (finOf ds))]) ntl
      have s45 := s4.trans s5
      have ok := told_ok (n := ds.length) fit (by omega)
      dsimp only [gName]
      refine ⟨_, rfl, _, toldD lv (finOf ds) (lsOf ds) ds.length (sheetS lv (lsOf ds) (finOf ds)), rfl, .plain (.lst (SqL.of upd_same) (.cons (.int _) (.cons (.int _) (.cons (dp_pic (hpb.same s45)) (.cons (.int _) (.cons (.bl true) (.cons (.str _) .nil))))))), ok.1, ok.2.1, ok.2.2, ?_⟩
      have hw5 := s45 _ _ hw1
      refine ⟨_, rfl, _, rfl, wk, _, 2, _, rfl, rfl, SqL.of hw5, rfl, _, rfl, wk, _, 1, _, rfl, rfl, SqL.of hw5, rfl, _, rfl, m, _, rfl, .inl (SqL.of (s45 _ _ hm3)), ?_⟩
      refine ⟨_, rfl, wk, tw, lv, finOf ds, lsOf ds, rfl, hw5, (hwp.at).same s45, fit, fun H6 s6 => ⟨(by show 6 ≤ sizeLine; decide), fun l7 n7 => ?_⟩⟩
      have s7 := same_of (o := .lst [V.int lv, V.int (finOf ds), V.ref tw, V.int ((ps.map V.ref).length : Int), V.bl true, V.str (sheetS lv (lsOf ds) (finOf ds))]) n7
      have s67 := s6.trans s7
      have e7 : (ps.map V.ref).length = ds.length := by rw [List.length_map, hplen]
      have s07 : Same H _ := s3.trans (s45.trans s67)
      refine ⟨_, toldD lv (finOf ds) (lsOf ds) ds.length (sheetS lv (lsOf ds) (finOf ds)), rfl, .plain (.lst (SqL.of upd_same) (.cons (.int _) (.cons (.int _) (.cons (dp_pic ((hwp.at.same s45).same s67)) (.cons ?_ (.cons (.bl true) (.cons (.str _) .nil))))))), ok.1, ok.2.1, ok.2.2, rfl, false, ?_, iteF ?_⟩
      · rw [e7]
        exact .int _
      · rw [decide_eq_true rfl]
        rfl
      dsimp only [tNext]
      -- the rounds that were done
      have hS7 := hS.same s07
      have hm7 := s07 _ _ hm
      revert hS7 hm7 s07
      generalize (upd H6 l7 (.lst [V.int lv, V.int (finOf ds), V.ref tw, V.int ((ps.map V.ref).length : Int), V.bl true, V.str (sheetS lv (lsOf ds) (finOf ds))])) = H7
      intro s07 hS7 hm7
      obtain ⟨⟨dx7, st7, h17, _⟩, _⟩ := id hS7
      refine ⟨_, rfl, m, rfl, ⟨_, SqL.of hm7⟩, fun D hD => ?_⟩
      refine lc_genL (us := ps.zip ds) (enc := fun u => V.ref u.1) (out := fun u => some (sheetS lv u.2.ls u.2.fin)) (Rel := fun (s : Str) v _ => v = V.str s) (fun _ _ _ _ _ z => z) hD (by rw [zipF hplen]; exact SqL.of hm7) (by rw [List.length_zip]; omega) ?_ ?_
      · intro i u K1 hu k1 R' Z' hR hZ
        rw [List.getElem?_zip_eq_some] at hu
        obtain ⟨d', hd', hP⟩ := paired_get hps hu.1
        rw [hu.2] at hd'
        cases hd'
        obtain ⟨⟨t', hp1, hp2⟩, _⟩ := PartsB.same (PartsB.same hP s07) k1
        refine ⟨rfl, ?_⟩
        exact ⟨_, rfl, u.1, t', lv, u.2.fin, u.2.ls, rfl, hp1, hp2.at, fitD _ (List.mem_of_getElem? hu.2), fun K2 k2 => hR _ _ _ rfl k2 rfl⟩
      · intro K2 ys k2 hD2 hp2
        rw [zipO (g := fun d : Deed => sheetS lv d.ls d.fin) hplen] at hp2
        have ey := strs_rel hp2
        subst ey
        have hS2 := hS7.same k2
        refine ⟨_, rfl, a, dx7, _, rfl, k2 _ _ h17, a, l, lv, ds, rfl, hS2, by omega, fun td K3 k3 hB => ?_⟩
        refine ⟨td, rfl, ⟨_, .inl hB.rd⟩, fun D2 hD2' => ?_⟩
        refine lc_genT (us := ds) (enc := fun d => V.ref d.tr) (out := fun d => some (sheetS lv d.ls d.fin)) (Rel := fun (s : Str) v _ => v = V.str s) (fun _ _ _ _ _ z => z) hD2' (.inl hB.rd) (by omega) ?_ ?_
        · intro i d K4 hd k4 R' Z' hR hZ
          have hdm := List.mem_of_getElem? hd
          obtain ⟨⟨tr', hr1', hrp'⟩, _, _⟩ := (hrise d hdm).2.1.same (s07.trans (k2.trans (k3.trans k4)))
          obtain ⟨dr', hr2'⟩ := id hr1'
          refine ⟨rfl, ?_⟩
          exact ⟨_, rfl, d.tr, dr', _, rfl, hr2', d.tr, tr', lv, d.fin, d.ls, rfl, hr1', hrp', fitD d hdm, fun K5 k5 => hR _ _ _ rfl k5 rfl⟩
        · intro K5 ys k5 hD5 hp5
          rw [List.filterMap_eq_map'] at hp5
          have ey := strs_rel hp5
          subst ey
          have asc : ∀ x ∈ ds.map (fun d => sheetS lv d.ls d.fin), Asc x := fun x hx => by
            obtain ⟨d, _, rfl⟩ := List.mem_map.mp hx
            exact asc_sheet _ _ _
          have hD5' := (k3.trans k5) _ _ hD2
          refine ⟨.list (strsD (ds.map fun d => sheetS lv d.ls d.fin)), .list (strsD (ds.map fun d => sheetS lv d.ls d.fin)), .lst (SqL.of hD5') (dp_strs _), .lst (SqL.of hD5) (dp_strs _), shaped_strs asc, shaped_strs asc, ?_⟩
          rw [eqv_strs]
          exact q _ (s07.trans (k2.trans (k3.trans k5)))
end
end Lamp
set_option Elab.async false
set_option linter.all false
set_option maxRecDepth 100000
set_option maxHeartbeats 1000000
namespace Lamp
open PySem PySem.Spec PyProof.Rows L2 LamX
/-! the end of a law whose defs make lambdas: the tables of their code objects -/
abbrev tabO : Obj := { cls := .none, data := .fields #[] }
abbrev MainB (mg : Str → Option Value) (h : Heap) : Prop := ∃ (bm : Addr) (ob : Obj), mg "__builtins__" = some (.ref bm) ∧ bm ≠ builtinsNs ∧ h.get? bm = some ob ∧ ob.cls = .type "module" ∧ ob.dict = some builtinsNs ∧ ob.data = .plain
theorem law_goesT {P : Program} {w : World} {K : PySem.W.Frag} {mg mb : Str → Option Value} {k : Nat} {fa a : Addr} {cs : List (Addr × Addr)} {fd : FuncData} {x : Str} {sp : Sp} {sh : Shared} {vs : List Value} {H : Hp}
    (inK : K.In sh.heap) (nsG : sh.heap.Ns mainGlobals mg) (nsB : sh.heap.Ns builtinsNs mb) (bltn : ∀ x : Str, x ≠ "__name__" → mb x = bootBuiltins x) (noLim : sh.heap.NoLimit) (noGen : sh.gens = #[])
    (tabs : ∀ p ∈ cs, sh.heap.get? p.2 = some tabO) (codes : ∀ p ∈ cs, PySem.W.CodeHd sh.heap p.1 p.2) (mainB : MainB mg sh.heap)
    (there : sh.heap.get? a = some { cls := .type "list", data := .seq vs.toArray }) (room : Room k callerA)
    (F : ∀ base : Heap, K.In base → base.Ns mainGlobals mg → (∀ p ∈ cs, TabB base mg p.1 p.2) → FnG P w K mg base k fa fd [x] sp) (hbind : ∀ (s : Shared) (u : Value), BindsTo s fd ⟨[u], []⟩ [(x, u)])
    (asked : sp [.ref a] H (fun v _ => v = .bl true) E0) (hok : HOk P w H sh.heap) (hH : ∀ p ∈ cs, H p.2 = some (.tbl #[]))
    (kinds : ∀ b u, H b = some u → K.lookup b = none ∧ ((b = a ∧ ∃ o xs, u = .frz o (.lst xs)) ∨ ∃ p ∈ cs, p.2 = b)) :
    codeAny (model P w) callerA (.call (.ref fa) ⟨[.ref a], []⟩) (fun r s' => r = .ok (.ret (.bool true)) ∧ OldK sh.heap s'.heap ∧ s'.os = sh.os ∧ AllBare s'.gens) sh := by
  have untold : ∀ {b : Addr} {o : Obj}, sh.heap.get? b = some o → o.cls ≠ .type "list" → o.cls ≠ .none → H b = none := fun {b o} e n1 n2 => by
    cases q : H b with
    | none => rfl
    | some u =>
      rcases (kinds b u q).2 with ⟨eb, _⟩ | ⟨p, hp, eb⟩
      · rw [eb, there] at e
        cases e
        exact absurd rfl n1
      · have z := tabs p hp
        rw [eb, e] at z
        cases z
        exact absurd rfl n2
  have notDict : ∀ {b : Addr} {o : Obj} {es : Array DictEntry} {ep : Nat}, sh.heap.get? b = some o → o.data = .dict es ep → H b = none := fun {b o es ep} e d => by
    cases q : H b with
    | none => rfl
    | some u =>
      rcases (kinds b u q).2 with ⟨eb, _⟩ | ⟨p, hp, eb⟩
      · rw [eb, there] at e
        cases e
        cases d
      · have z := tabs p hp
        rw [eb, e] at z
        cases z
        cases d
  have nsKeep : ∀ {b : Addr} {m : Str → Option Value}, sh.heap.Ns b m → (hidT sh.heap H).Ns b m := fun {b m} ⟨o, es, ep, e, d, r⟩ => ⟨o, es, ep, hidT_get e (notDict e d), d, r⟩
  have inK' : K.In (hidT sh.heap H) := fun b o e => hidT_get (inK b o e) (by
    cases q : H b with
    | none => rfl
    | some u =>
      have z := (kinds b u q).1
      rw [z] at e
      cases e)
  obtain ⟨mc, lim1, lim2⟩ := noLim
  have isMod : L2.Mod K mg (hidT sh.heap H) := ⟨inK', nsKeep nsG, ⟨mb, nsKeep nsB, bltn⟩, ⟨mc, nsKeep lim1, lim2⟩⟩
  have mainG : ∀ b, sh.heap.get? b = some tabO → mainGlobals ≠ b := fun b e z => by
    obtain ⟨o, es, ep, e1, d, _⟩ := nsG
    rw [z, e] at e1
    cases e1
    cases d
  have tabB : ∀ p ∈ cs, TabB (hidT sh.heap H) mg p.1 p.2 := fun p hp => by
    refine ⟨?_, ?_, mainG _ (tabs p hp)⟩
    · obtain ⟨o, us, file, tf, flags, tg, inF, text, tt, e1, r1, r2, more⟩ := codes p hp
      exact ⟨o, us, file, tf, flags, tg, inF, text, tt, hidT_get e1 (untold e1 (by rw [r1]; decide) (by rw [r1]; intro z; cases z)), r1, r2, more⟩
    · obtain ⟨bm, ob, b1, b2, b3, b4, b5, b6⟩ := mainB
      refine ⟨bm, ob, b1, b2, fun q => ?_, fun q => ?_, hidT_get b3 (untold b3 (by rw [b4]; decide) (by rw [b4]; intro z; cases z)), b4, b5, b6⟩
      · obtain ⟨o, es, ep, e, d, _⟩ := nsG
        rw [q, e] at b3
        cases b3
        rw [d] at b6
        cases b6
      · rw [q, tabs p hp] at b3
        cases b3
        cases b6
  have start0 : Env0 P w K mg (hidT sh.heap H) callerA [] sh H :=
    { frames := rfl, mod := isMod, bs := fun b o e => of_hidT e, bsz := Nat.le_of_eq (hidT_size _ _), funs := trivial, frf := (fun b hb => nomatch hb), hok := hok, bare := .of_eq noGen }
  refine codeAny_mono ((F _ inK' (nsKeep nsG) tabB).goes callerA [] sh H ⟨[.ref a], []⟩ [.ref a] [.ref a] _ _ rfl room start0 (hbind sh (.ref a)) (.cons rfl .nil) asked) fun res s' told => ?_
  match res, told with
  | .error _, told => exact False.elim told
  | .ok .next, told => exact False.elim told
  | .ok .brk, told => exact False.elim told
  | .ok .cont, told => exact False.elim told
  | .ok (.ret u), ⟨v, H', os, bare, un, hok', rv, ev⟩ =>
    have ev' : v = .bl true := ev
    subst ev'
    have eu : u = Value.bool true := rv
    subst eu
    have grown : ∀ p ∈ cs, ∃ more : Array Value, s'.heap.get? p.2 = some { cls := .none, data := .fields more } := fun p hp => by
      obtain ⟨more, z⟩ := un.tbls p.2 #[] (hH p hp)
      exact ⟨_, hok' p.2 _ z⟩
    have kept : ∀ b o, (∀ p ∈ cs, p.2 ≠ b) → sh.heap.get? b = some o → s'.heap.get? b = some o := fun b o nb e => by
      cases q : H b with
      | none => exact un.keep b o e q (fun z => nomatch z) (fun z => nomatch z)
      | some u =>
        rcases (kinds b u q).2 with ⟨_, ob, xs, rfl⟩ | ⟨p, hp, eb⟩
        · have old := (hok b _ q).1
          have new := (hok' b _ (un.frzs b ob _ q)).1
          rw [e] at old
          cases old
          exact new
        · exact absurd eb (nb p hp)
    refine ⟨rfl, ⟨fun b o e => ?_, fun b o e => ?_⟩, os, bare⟩
    · by_cases hb : ∃ p ∈ cs, p.2 = b
      · obtain ⟨p, hp, rfl⟩ := hb
        obtain ⟨more, hm⟩ := grown p hp
        have z := tabs p hp
        rw [e] at z
        cases z
        exact .inr (.inl ⟨((codes p hp).tab (tabs p hp)).isCodeTable, rfl, #[], more, rfl, by rw [Array.empty_append]; exact hm⟩)
      · exact .inl (kept b o (fun p hp z => hb ⟨p, hp, z⟩) e)
    · by_cases hb : ∃ p ∈ cs, p.2 = b
      · obtain ⟨p, hp, rfl⟩ := hb
        obtain ⟨more, hm⟩ := grown p hp
        exact ⟨_, hm⟩
      · exact ⟨o, kept b o (fun p hp z => hb ⟨p, hp, z⟩) e⟩
/-- the place of a code object, and of its table -/
def codeA : Value → Addr
  | .ref c => c
  | _ => 0
def tabIn (K : PySem.W.Frag) (c : Addr) : Option Addr := match K.lookup c with
  | some ⟨_, _, .fields vs, _⟩ => (match (vs[11]? : Option Value) with
    | some (Value.ref q) => some q
    | _ => none)
  | _ => none
def tabA (K : PySem.W.Frag) (v : Value) : Addr := (tabIn K (codeA v)).getD 0
def isStrV : Value → Bool
  | .str _ _ => true
  | _ => false
def isIntV : Value → Bool
  | .int _ _ => true
  | _ => false
def isBoolV : Value → Bool
  | .bool _ => true
  | _ => false
def isRefV : Value → Bool
  | .ref _ => true
  | _ => false
def codeB (K : PySem.W.Frag) (v : Value) : Bool := isRefV v && (match K.lookup (codeA v) with
  | some ⟨.type t, _, .fields vs, _⟩ => decide (t = "code") && (decide (vs[11]? = some (.ref (tabA K v))) && (isStrV (vs.getD 18 .none) && (isIntV (vs.getD 7 .none) && (isBoolV (vs.getD 9 .none) && (isIntV (vs.getD 10 .none) && (decide (codeA v ≠ tabA K v) && (K.lookup (tabA K v)).isNone))))))
  | _ => false)
theorem codeB_ok {K : PySem.W.Frag} {v : Value} (h : codeB K v = true) : v = .ref (codeA v) ∧ K.lookup (tabA K v) = none ∧ ∃ dd vs sl, K.lookup (codeA v) = some ⟨.type "code", dd, .fields vs, sl⟩ ∧ vs[11]? = some (.ref (tabA K v)) ∧ ∀ hp : Heap, K.In hp → PySem.W.CodeHd hp (codeA v) (tabA K v) := by
  unfold codeB at h
  simp only [Bool.and_eq_true] at h
  obtain ⟨h1, h⟩ := h
  have isR : v = .ref (codeA v) := by
    cases v <;> first | rfl | (cases h1)
  refine ⟨isR, ?_⟩
  split at h
  · rename_i t dd vs sl look
    simp only [Bool.and_eq_true, decide_eq_true_eq] at h
    obtain ⟨rfl, h2, h3, h4, h5, h6, h7, h8⟩ := h
    refine ⟨Option.isNone_iff_eq_none.mp h8, dd, vs, sl, look, h2, fun hp inK => ?_⟩
    have e11 : vs.getD 11 .none = .ref (tabA K v) := by
      obtain ⟨l, e⟩ := Array.getElem?_eq_some_iff.mp h2
      unfold Array.getD
      rw [dif_pos l]
      exact e
    obtain ⟨s1, s2, es⟩ : ∃ a b, vs.getD 18 .none = .str a b := by
      generalize vs.getD 18 .none = z at h3 ⊢
      cases z <;> first | exact ⟨_, _, rfl⟩ | (cases h3)
    obtain ⟨i1, i2, ei⟩ : ∃ a b, vs.getD 7 .none = .int a b := by
      generalize vs.getD 7 .none = z at h4 ⊢
      cases z <;> first | exact ⟨_, _, rfl⟩ | (cases h4)
    obtain ⟨b1, eb⟩ : ∃ a, vs.getD 9 .none = .bool a := by
      generalize vs.getD 9 .none = z at h5 ⊢
      cases z <;> first | exact ⟨_, rfl⟩ | (cases h5)
    obtain ⟨j1, j2, ej⟩ : ∃ a b, vs.getD 10 .none = .int a b := by
      generalize vs.getD 10 .none = z at h6 ⊢
      cases z <;> first | exact ⟨_, _, rfl⟩ | (cases h6)
    exact ⟨_, vs, s1, s2, i1, i2, b1, j1, j2, inK _ _ look, rfl, rfl, h2, e11, es, ei, eb, ej, h7⟩
  · cases h
/-- a def of the top with its code object's table -/
def TabOf (K : PySem.W.Frag) (mg : Str → Option Value) (xs : List Str) (p : Addr × Addr) : Prop := ∃ x ∈ xs, ∃ (f : Addr) (o : Obj) (fd : FuncData) (v : Value), mg x = some (.ref f) ∧ K.lookup f = some o ∧ o.data = .func fd ∧ fd.code = v ∧ codeB K v = true ∧ p = (codeA v, tabA K v)
open PySem.W in
theorem walk_ofGT {l : PySem.W.OpenLaw} {n k : Nat} {q : Program} {loose : List Str} {XP : (Str → Option Value) → Heap → Prop} {YP : World → Heap → Prop} {d : DefRec} {K : Params → PySem.W.Frag} {x : Str} (xs : List Str)
    (hn : l.most = some n) (hn2 : n ≤ sizeLine) (hdf : d.params.defaults = []) (hr : Room k callerA) (hrec : ∀ x ∈ xs, ((recsOf q).any fun e => e.name == x) = true) (hY : ∀ (w : World) (h : Heap), YP w h → (K w.params).In h)
    (F : ∀ (w : World) (mg : Str → Option Value) (fa : Addr) (h : Heap), (K w.params).In h → h.Ns mainGlobals mg → mg d.name = some (.ref fa) → ∃ (fd : FuncData) (cs : List (Addr × Addr)) (sp : Sp), (∀ p ∈ cs, TabOf (K w.params) mg xs p) ∧ (∀ (s : Shared) (u : Value), BindsTo s fd ⟨[u], []⟩ [(x, u)]) ∧
      (∀ (H : Hp) (a : Addr) (ns : List Int), ns.length ≤ n → (∀ z ∈ ns, Builtin.Int.intBits z ≤ 1048576) → (∀ p ∈ cs, H p.2 = some (.tbl #[])) → SqL (K w.params) H a (ns.map V.int) → sp [.ref a] H (fun v _ => v = .bl true) E0) ∧
        ∀ base : Heap, (K w.params).In base → base.Ns mainGlobals mg → (∀ p ∈ cs, TabB base mg p.1 p.2) → FnG l.prog w (K w.params) mg base k fa fd [x] sp) :
    PySem.W.WalkO q loose XP YP l.row.toRowW d [] (fun f vs => PySem.call f vs) :=
  Att.attach_callB hn hdf fun w s₀ s₁ mg mb fa o pm cd doc a vs ns G Y ho hd hcd hmg hobj hints hlen hbits hg => by
    have inK := hY w _ Y
    obtain ⟨fd, cs, sp, tabs, hb, hsp, hF⟩ := F w mg fa _ inK G.T.g hmg
    have facts : ∀ p ∈ cs, s₁.heap.get? p.2 = some tabO ∧ (K w.params).lookup p.2 = none ∧ PySem.W.CodeHd s₁.heap p.1 p.2 := fun p hp => by
      obtain ⟨y, hy, f, o1, fd1, v, m1, k1, k2, k3, cb, rfl⟩ := tabs p hp
      obtain ⟨ev, noTab, dd, vs1, sl, k4, k5, hd1⟩ := codeB_ok cb
      refine ⟨?_, noTab, hd1 _ inK⟩
      obtain ⟨dL, hm, hn1⟩ := List.any_eq_true.mp (hrec y hy)
      have hn2 : dL.name = y := beq_iff_eq.mp hn1
      obtain ⟨a', o', fd', c', P', h1, h2, h3, h4, h5, h6⟩ := G.T.tab dL hm
      rw [hn2, m1] at h1
      cases h1
      have g1 := inK _ _ k1
      rw [g1] at h2
      cases h2
      rw [k2] at h3
      cases h3
      rw [k3, ev] at h4
      cases h4
      obtain ⟨⟨oc, vc, e1, _, e3, e4⟩, hP⟩ := h6
      have g2 := inK _ _ k4
      rw [g2] at e1
      cases e1
      cases e3
      rw [k5] at e4
      cases e4
      exact hP
    have same := hints.length
    have vals := vals_ints hints
    have short : ns.length ≤ sizeLine := Nat.le_trans hlen hn2
    have notA : ∀ p ∈ cs, p.2 ≠ a := fun p hp z => by
      have e := (facts p hp).1
      rw [z, hobj] at e
      cases e
    cases look : (K w.params).lookup a with
    | some ob =>
      have e := inK a ob look
      rw [hobj] at e
      cases e
      let H : Hp := fun b => if b ∈ cs.map (·.2) then some (.tbl #[]) else none
      have on : ∀ p ∈ cs, H p.2 = some (.tbl #[]) := fun p hp => if_pos (List.mem_map.mpr ⟨p, hp, rfl⟩)
      refine law_goesT (H := H) (cs := cs) inK G.T.g G.T.b G.T.builtins G.T.nolimit hg (fun p hp => (facts p hp).1) (fun p hp => (facts p hp).2.2) G.T.bmain hobj hr hF hb (hsp H a ns hlen hbits on ?_) (fun b u z => ?_) on (fun b u z => ?_)
      · exact .inr ⟨_, vs.toArray, _, look, rfl, rfl, rfl, by rw [List.size_toArray, same]; exact short, vals⟩
      · by_cases hb : b ∈ cs.map (·.2)
        · have z2 := (if_pos hb).symm.trans z
          cases z2
          obtain ⟨p, hp, rfl⟩ := List.mem_map.mp hb
          exact (facts p hp).1
        · have z2 := (if_neg hb).symm.trans z
          cases z2
      · by_cases hb : b ∈ cs.map (·.2)
        · obtain ⟨p, hp, rfl⟩ := List.mem_map.mp hb
          exact ⟨(facts p hp).2.1, .inr ⟨p, hp, rfl⟩⟩
        · have z2 := (if_neg hb).symm.trans z
          cases z2
    | none =>
      let held : HO := .frz { cls := .type "list", data := .seq vs.toArray } (.lst (ns.map V.int))
      let H : Hp := fun b => if b = a then some held else if b ∈ cs.map (·.2) then some (.tbl #[]) else none
      have on : ∀ p ∈ cs, H p.2 = some (.tbl #[]) := fun p hp => (if_neg (notA p hp)).trans (if_pos (List.mem_map.mpr ⟨p, hp, rfl⟩))
      have atA : H a = some held := if_pos rfl
      refine law_goesT (H := H) (cs := cs) inK G.T.g G.T.b G.T.builtins G.T.nolimit hg (fun p hp => (facts p hp).1) (fun p hp => (facts p hp).2.2) G.T.bmain hobj hr hF hb (hsp H a ns hlen hbits on (.inl (.inr ⟨_, atA⟩))) (fun b u z => ?_) on (fun b u z => ?_)
      · by_cases hb : b = a
        · subst hb
          rw [atA] at z
          cases z
          exact ⟨hobj, by rw [List.length_map]; exact short, vs, _, vals, hobj⟩
        · have z1 := (if_neg hb).symm.trans z
          by_cases hb2 : b ∈ cs.map (·.2)
          · have z2 := (if_pos hb2).symm.trans z1
            cases z2
            obtain ⟨p, hp, rfl⟩ := List.mem_map.mp hb2
            exact (facts p hp).1
          · have z2 := (if_neg hb2).symm.trans z1
            cases z2
      · by_cases hb : b = a
        · subst hb
          rw [atA] at z
          cases z
          exact ⟨look, .inl ⟨rfl, _, _, rfl⟩⟩
        · have z1 := (if_neg hb).symm.trans z
          by_cases hb2 : b ∈ cs.map (·.2)
          · obtain ⟨p, hp, rfl⟩ := List.mem_map.mp hb2
            exact ⟨(facts p hp).2.1, .inr ⟨p, hp, rfl⟩⟩
          · have z2 := (if_neg hb2).symm.trans z1
            cases z2
end Lamp
set_option Elab.async false
set_option linter.all false
set_option maxRecDepth 100000
set_option maxHeartbeats 1000000
namespace Lamp
open PySem PySem.Spec PyProof.Rows L2
/-! parts of tuples, tuples behind one another: whatever object it is -/
theorem cut_lo (xs : List V) {k : Nat} (h : k ≤ xs.length) : cutV xs none (some (k : Int)) = xs.take k := by
  unfold cutV
  rw [HT.sIx_none, HT.sIx_nat, Nat.min_eq_left h]
  rfl
theorem cut_hi (xs : List V) (k : Nat) : cutV xs (some (k : Int)) none = xs.drop k := by
  unfold cutV
  rw [HT.sIx_none, HT.sIx_nat]
  by_cases h : k ≤ xs.length
  · rw [Nat.min_eq_left h]
    exact List.take_of_length_le (by rw [List.length_drop]; exact Nat.le_refl _)
  · rw [Nat.min_eq_right (by omega), List.drop_length, List.drop_of_length_le (by omega)]
    exact List.take_nil
theorem paired_take {α β : Type} {R : α → β → Prop} : ∀ (n : Nat) {xs : List α} {ys : List β}, Paired R xs ys → Paired R (xs.take n) (ys.take n)
  | 0, _, _, _ => by simp only [List.take_zero]; exact .nil
  | n + 1, _, _, .nil => .nil
  | n + 1, _, _, .cons h t => .cons h (paired_take n t)
theorem paired_drop {α β : Type} {R : α → β → Prop} : ∀ (n : Nat) {xs : List α} {ys : List β}, Paired R xs ys → Paired R (xs.drop n) (ys.drop n)
  | 0, _, _, h => h
  | n + 1, _, _, .nil => .nil
  | n + 1, _, _, .cons _ t => paired_drop n t
theorem sl_any {K : PySem.W.Frag} {H : Hp} {a : Addr} {xs : List V} {lo hi : Option Int} {Q : VK} (h : H a = some (.tup xs)) (k : ∀ b H', Same H H' → H' b = some (.tup (cutV xs lo hi)) → Q (.ref b) H') : rSlA K (.ref a) lo hi H Q := by
  refine ⟨a, xs, rfl, SqT.of h, fun w => ?_, fun _ p np => k p _ (same_of np) upd_same⟩
  have e : cutV xs lo hi = xs := by
    unfold cutV
    rw [w.1, w.2]
    exact List.take_of_length_le (by rw [List.length_drop]; omega)
  exact k a H (Same.refl H) (by rw [e]; exact h)
theorem cat_any {K : PySem.W.Frag} {H : Hp} {a b : Addr} {xs ys : List V} {Q : VK} (h1 : H a = some (.tup xs)) (h2 : H b = some (.tup ys)) (hl : xs.length + ys.length ≤ sizeLine) (k : ∀ c H', Same H H' → H' c = some (.tup (xs ++ ys)) → Q (.ref c) H') : rCatA K (.ref a) (.ref b) H Q := by
  refine ⟨a, b, xs, ys, rfl, rfl, SqT.of h1, SqT.of h2, hl, fun e => ?_, fun _ e => ?_, fun _ _ p np => k p _ (same_of np) upd_same⟩
  · subst e
    exact k b H (Same.refl H) h2
  · subst e
    exact k a H (Same.refl H) (by rw [List.append_nil]; exact h1)
end Lamp
set_option Elab.async false
set_option linter.all false
set_option maxRecDepth 100000
set_option maxHeartbeats 1000000
namespace Lamp
open PySem PySem.Spec PyProof.Rows L2 LamX
/-! values of any kind -/
inductive T
  | non
  | bl (b : Bool)
  | int (i : Int)
  | str (x : Str)
  | tup (ts : List T)
  | lst
  | dct
mutual
inductive An (K : PySem.W.Frag) (H : Hp) : V → T → Prop
  | non : An K H .non .non
  | bl (b : Bool) : An K H (.bl b) (.bl b)
  | int (i : Int) : An K H (.int i) (.int i)
  | str (x : Str) : An K H (.str x) (.str x)
  | tup {a : Addr} {xs : List V} {ts : List T} : SqT K H a xs → AnAll K H xs ts → An K H (.ref a) (.tup ts)
  | lst {a : Addr} {xs : List V} : SqL K H a xs → An K H (.ref a) .lst
  | dct {a : Addr} {kvs : List (Key × V)} : H a = some (.dK kvs) → An K H (.ref a) .dct
inductive AnAll (K : PySem.W.Frag) (H : Hp) : List V → List T → Prop
  | nil : AnAll K H [] []
  | cons {v : V} {vs : List V} {t : T} {ts : List T} : An K H v t → AnAll K H vs ts → AnAll K H (v :: vs) (t :: ts)
end
theorem sqT_ext {K : PySem.W.Frag} {H H' : Hp} {a : Addr} {xs : List V} (e : ExtN H H') (h : SqT K H a xs) : SqT K H' a xs := by
  rcases h with (h | ⟨o, h⟩) | h
  · exact .inl (.inl (e _ _ h fun _ z => by cases z))
  · exact .inl (.inr ⟨o, e _ _ h fun _ z => by cases z⟩)
  · exact .inr h
theorem sqL_ext {K : PySem.W.Frag} {H H' : Hp} {a : Addr} {xs : List V} (e : ExtN H H') (h : SqL K H a xs) : SqL K H' a xs := by
  rcases h with (h | ⟨o, h⟩) | h
  · exact .inl (.inl (e _ _ h fun _ z => by cases z))
  · exact .inl (.inr ⟨o, e _ _ h fun _ z => by cases z⟩)
  · exact .inr h
mutual
theorem an_ext {K : PySem.W.Frag} {H H' : Hp} (e : ExtN H H') : ∀ (t : T) (v : V), An K H v t → An K H' v t
  | .non, _, h => by cases h; exact .non
  | .bl _, _, h => by cases h; exact .bl _
  | .int _, _, h => by cases h; exact .int _
  | .str _, _, h => by cases h; exact .str _
  | .lst, _, h => by
    cases h with
    | lst hs => exact .lst (sqL_ext e hs)
  | .dct, _, h => by
    cases h with
    | dct hs => exact .dct (e _ _ hs fun _ z => by cases z)
  | .tup ts, _, h => by
    cases h with
    | tup hs ha => exact .tup (sqT_ext e hs) (anAll_ext e ts _ ha)
theorem anAll_ext {K : PySem.W.Frag} {H H' : Hp} (e : ExtN H H') : ∀ (ts : List T) (vs : List V), AnAll K H vs ts → AnAll K H' vs ts
  | [], _, h => by cases h; exact .nil
  | t :: ts, _, h => by
    cases h with
    | cons h1 h2 => exact .cons (an_ext e t _ h1) (anAll_ext e ts _ h2)
theorem dp_ext {K : PySem.W.Frag} {H H' : Hp} (e : ExtN H H') : ∀ (d : PyData) (v : V), Dp K H v d → Dp K H' v d
  | .none, _, h => by cases h; exact .non
  | .bool _, _, h => by cases h; exact .bl _
  | .int _, _, h => by cases h; exact .int _
  | .str _, _, h => by cases h; exact .str _
  | .list ds, _, h => by
    cases h with
    | lst hs ha => exact .lst (sqL_ext e hs) (dpAll_ext e ds _ ha)
  | .tuple ds, _, h => by
    cases h with
    | tup hs ha => exact .tup (sqT_ext e hs) (dpAll_ext e ds _ ha)
  | .dict _, _, h => by cases h
theorem dpAll_ext {K : PySem.W.Frag} {H H' : Hp} (e : ExtN H H') : ∀ (ds : List PyData) (vs : List V), DpAll K H vs ds → DpAll K H' vs ds
  | [], _, h => by cases h; exact .nil
  | d :: ds, _, h => by
    cases h with
    | cons h1 h2 => exact .cons (dp_ext e d _ h1) (dpAll_ext e ds _ h2)
end
theorem ext_same {H H' : Hp} (e : Same H H') : ExtN H H' := ExtN.of e
theorem dq_ext {K : PySem.W.Frag} {H H' : Hp} (e : ExtN H H') {d : PyData} {v : V} (h : Dq K H v d) : Dq K H' v d := by
  cases h with
  | plain h => exact .plain (dp_ext e d v h)
  | dict h1 h2 => exact .dict (e _ _ h1 fun _ z => by cases z) h2
theorem an_same {K : PySem.W.Frag} {H H' : Hp} (e : Same H H') {t : T} {v : V} (h : An K H v t) : An K H' v t := an_ext (ext_same e) t v h
theorem anAll_same {K : PySem.W.Frag} {H H' : Hp} (e : Same H H') {ts : List T} {vs : List V} (h : AnAll K H vs ts) : AnAll K H' vs ts := anAll_ext (ext_same e) ts vs h
theorem Pail.ext {H H' : Hp} {p : Addr} (h : Pail H p) (s : ExtN H H') : Pail H' p := by
  obtain ⟨x, y, z, e, r⟩ := h
  exact ⟨x, y, z, s _ _ e (fun _ z => by cases z), r⟩
/-- all but p and the tables stands as it stood -/
def ButN (p : Addr) (H H' : Hp) : Prop := ExtN (delH H p) (delH H' p)
theorem ButN.of {p : Addr} {H H' : Hp} (b : But p H H') : ButN p H H' := ext_same b.del
theorem ButN.trans {p : Addr} {H H1 H2 : Hp} (a : ButN p H H1) (b : ButN p H1 H2) : ButN p H H2 := ExtN.trans a b
theorem ButN.ext {p : Addr} {H H' : Hp} (e : ExtN H H') : ButN p H H' := fun a o h n => by
  by_cases z : a = p
  · rw [z, delH_same] at h; cases h
  · rw [delH_ne z] at h ⊢
    exact e a o h n
/-! data among them -/
mutual
def tOf : PyData → T
  | .none => .non
  | .bool b => .bl b
  | .int i => .int i
  | .str x => .str x
  | .tuple ds => .tup (tOfAll ds)
  | .list _ => .lst
  | .dict _ => .dct
def tOfAll : List PyData → List T
  | [] => []
  | d :: ds => tOf d :: tOfAll ds
end
mutual
theorem an_dp {K : PySem.W.Frag} {H : Hp} : ∀ (d : PyData) (v : V), Dp K H v d → An K H v (tOf d)
  | .none, _, h => by cases h; simp only [tOf]; exact .non
  | .bool _, _, h => by cases h; simp only [tOf]; exact .bl _
  | .int _, _, h => by cases h; simp only [tOf]; exact .int _
  | .str _, _, h => by cases h; simp only [tOf]; exact .str _
  | .list ds, _, h => by
    cases h with
    | lst hs ha => simp only [tOf]; exact .lst hs
  | .tuple ds, _, h => by
    cases h with
    | tup hs ha => simp only [tOf]; exact .tup hs (anAll_dp ds _ ha)
  | .dict _, _, h => by cases h
theorem anAll_dp {K : PySem.W.Frag} {H : Hp} : ∀ (ds : List PyData) (vs : List V), DpAll K H vs ds → AnAll K H vs (tOfAll ds)
  | [], _, h => by cases h; simp only [tOfAll]; exact .nil
  | d :: ds, _, h => by
    cases h with
    | cons h1 h2 => simp only [tOfAll]; exact .cons (an_dp d _ h1) (anAll_dp ds _ h2)
end
theorem an_dq {K : PySem.W.Frag} {H : Hp} {d : PyData} {v : V} (h : Dq K H v d) : An K H v (tOf d) := by
  cases h with
  | plain h => exact an_dp d v h
  | dict h1 h2 => simp only [tOf]; exact .dct h1
/-! rows of them -/
section
variable {K : PySem.W.Frag} {H : Hp}
theorem anAll_len : ∀ {ts : List T} {vs : List V}, AnAll K H vs ts → vs.length = ts.length
  | [], _, h => by cases h; rfl
  | t :: ts, _, h => by
    cases h with
    | cons h1 h2 => rw [List.length_cons, List.length_cons, anAll_len h2]
theorem anAll_get : ∀ {ts : List T} {vs : List V} {i : Nat} {v : V}, AnAll K H vs ts → vs[i]? = some v → ∃ t, ts[i]? = some t ∧ An K H v t
  | [], _, _, _, h, e => by cases h; simp at e
  | t :: ts, _, i, v, h, e => by
    cases h with
    | @cons v' vs' _ _ h1 h2 =>
      cases i with
      | zero => simp only [List.getElem?_cons_zero] at e ⊢; cases e; exact ⟨t, rfl, h1⟩
      | succ i => simp only [List.getElem?_cons_succ] at e ⊢; exact anAll_get h2 e
theorem anAll_take : ∀ (n : Nat) {ts : List T} {vs : List V}, AnAll K H vs ts → AnAll K H (vs.take n) (ts.take n)
  | 0, _, _, _ => by simp only [List.take_zero]; exact .nil
  | n + 1, _, _, .nil => .nil
  | n + 1, _, _, .cons h t => .cons h (anAll_take n t)
theorem anAll_drop : ∀ (n : Nat) {ts : List T} {vs : List V}, AnAll K H vs ts → AnAll K H (vs.drop n) (ts.drop n)
  | 0, _, _, h => h
  | n + 1, _, _, .nil => .nil
  | n + 1, _, _, .cons _ t => anAll_drop n t
theorem anAll_app : ∀ {ts us : List T} {vs ws : List V}, AnAll K H vs ts → AnAll K H ws us → AnAll K H (vs ++ ws) (ts ++ us)
  | _, _, _, _, .nil, s => s
  | _, _, _, _, .cons r t, s => .cons r (anAll_app t s)
theorem anAll_rev : ∀ {ts : List T} {vs : List V}, AnAll K H vs ts → AnAll K H vs.reverse ts.reverse
  | _, _, .nil => .nil
  | _, _, .cons r t => by rw [List.reverse_cons, List.reverse_cons]; exact anAll_app (anAll_rev t) (.cons r .nil)
end
/-! how deep, how long, how great they are -/
def Fits (w : Nat) (b : Int) : Nat → T → Prop
  | _, .int i => -b ≤ i ∧ i ≤ b
  | 0, .tup ts => ts = []
  | n + 1, .tup ts => ts.length ≤ w ∧ ∀ t ∈ ts, Fits w b n t
  | _, _ => True
theorem fits_int {w n : Nat} {b i : Int} : Fits w b n (.int i) = (-b ≤ i ∧ i ≤ b) := by cases n <;> rfl
theorem fits_non {w n : Nat} {b : Int} : Fits w b n .non := by cases n <;> exact True.intro
theorem fits_bl {w n : Nat} {b : Int} {c : Bool} : Fits w b n (.bl c) := by cases n <;> exact True.intro
theorem fits_str {w n : Nat} {b : Int} {x : Str} : Fits w b n (.str x) := by cases n <;> exact True.intro
theorem fits_lst {w n : Nat} {b : Int} : Fits w b n .lst := by cases n <;> exact True.intro
theorem fits_dct {w n : Nat} {b : Int} : Fits w b n .dct := by cases n <;> exact True.intro
theorem fits_tup {w n : Nat} {b : Int} {ts : List T} (h : Fits w b n (.tup ts)) : ts = [] ∨ ∃ m, n = m + 1 ∧ ts.length ≤ w ∧ ∀ t ∈ ts, Fits w b m t := by
  cases n with
  | zero => exact .inl h
  | succ m => exact .inr ⟨m, rfl, h⟩
theorem fits_mono {w w' : Nat} {b b' : Int} (hw : w ≤ w') (hb : b ≤ b') : ∀ (n n' : Nat) (t : T), n ≤ n' → Fits w b n t → Fits w' b' n' t := by
  intro n
  induction n with
  | zero =>
    intro n' t hn h
    cases t with
    | int i => rw [fits_int] at h ⊢; omega
    | tup ts =>
      have e : ts = [] := h
      subst e
      cases n' with
      | zero => rfl
      | succ m => exact ⟨Nat.zero_le _, fun t ht => by cases ht⟩
    | non => exact fits_non
    | bl _ => exact fits_bl
    | str _ => exact fits_str
    | lst => exact fits_lst
    | dct => exact fits_dct
  | succ n ih =>
    intro n' t hn h
    cases t with
    | int i => rw [fits_int] at h ⊢; omega
    | tup ts =>
      obtain ⟨l, all⟩ := h
      cases n' with
      | zero => omega
      | succ m => exact ⟨by omega, fun t ht => ih m t (by omega) (all t ht)⟩
    | non => exact fits_non
    | bl _ => exact fits_bl
    | str _ => exact fits_str
    | lst => exact fits_lst
    | dct => exact fits_dct
end Lamp
set_option Elab.async false
set_option linter.all false
set_option maxRecDepth 100000
set_option maxHeartbeats 1000000
namespace Lamp
open PySem PySem.Spec PyProof.Rows L2 LamX
/-! laws whose defs make lambdas -/
section
variable {K : PySem.W.Frag}
/-- what is changed is a list -/
theorem tabs_butL {T : List (Addr × Str)} {H H' : Hp} {p : Addr} {xs : List V} (hp : H p = some (.lst xs)) (b : But p H H') (t : Tabs T H) : Tabs T H' := fun x hx => by
  obtain ⟨ps, h1, h2, h3⟩ := t x hx
  have n1 : x.1 ≠ p := fun z => by rw [z, hp] at h1; cases h1
  refine ⟨ps, b _ _ n1 h1, h2, fun pos cv hc => ?_⟩
  obtain ⟨c', e1, e2⟩ := h3 pos cv hc
  have n2 : c' ≠ p := fun z => by rw [z, hp] at e2; unfold CodeO at e2; cases e2
  exact ⟨c', e1, b _ _ n2 e2⟩
theorem tabs_upd {T : List (Addr × Str)} {H : Hp} {l : Addr} {xs ys : List V} (h : H l = some (.lst xs)) (t : Tabs T H) : Tabs T (upd H l (.lst ys)) := fun x hx => by
  obtain ⟨ps, h1, h2, h3⟩ := t x hx
  have n1 : x.1 ≠ l := fun z => by rw [z, h] at h1; cases h1
  refine ⟨ps, by rw [upd_ne n1]; exact h1, h2, fun pos cv hc => ?_⟩
  obtain ⟨c', e1, e2⟩ := h3 pos cv hc
  have n2 : c' ≠ l := fun z => by rw [z, h] at e2; unfold CodeO at e2; cases e2
  exact ⟨c', e1, by rw [upd_ne n2]; exact e2⟩
end
section
variable {P : Program} {w : World} {K : PySem.W.Frag} {mg : Str → Option Value} {base : Heap}
/-- the rule for a def whose code object is asked -/
theorem okGC {x qual : Str} {st : Stmt} {f : Addr} {fd : FuncData} {N ps : List Str} {k : Nat} {sp : Sp} (F : Fun K x qual st f fd) (S : FnScope N ps (defScope st)) (len : ∀ vs H Q E, sp vs H Q E → vs.length = ps.length)
    (hbody : ∀ (cdv : Value) (A : Around) (outer : List Env) (s : Shared) (H : Hp) (vs : List V) (Q : VK) (E : XK), fd.code = cdv → A.guards = some [] → Room k (A.deeper (envOfC qual (defScope st) s.heap.objs.size f cdv)) → sp vs H Q E →
      ∃ t, PSs (cxOf CX0 P w K mg base N qual (defScope st) f cdv A outer s H E).nox (defBody st) t ∧ t { nx := fun _ H' => Q .non H', rt := Q } (start N vs) H) : FnG P w K mg base (k + 1) f fd ps sp := by
  obtain ⟨oc, od, kV, doc, pm, an, cdv, ct, osl, efd, hlk, hcode⟩ := F.ex
  subst efd
  refine ⟨len, fun A out s H ar us vs Q E hgd hroom hst hbind hvals hs => ?_⟩
  have hcount := len _ _ _ _ hs
  have inK : K.In s.heap := hst.mod.kin.keeps fun b o e => (hst.bs b o e).1
  have noLim : s.heap.NoLimit := hst.mod.nolimit.keeps fun b o e => (hst.bs b o e).1
  refine codeAny_call_function hroom.depth (inK _ _ hlk) rfl S.co S.gen rfl (PySem.W.codeRec_of inK hcode) (hbind _ _ _ _ ?_)
  refine wpAny_newFunctionEnv_cells S.kind (fun y hy => ?_) fun env eenv s1 xin => ?_
  · obtain ⟨nm, val⟩ := y
    cases S.par nm (List.of_mem_zip hy).1 with
    | inl isLocal => exact .inl isLocal
    | inr isCell => exact .inr ⟨isCell, PySem.W.cellsFrom_some _ _ _ (.inl isCell)⟩
  subst eenv
  refine ⟨noLim.keeps xin.toInCall.keep, codeAny_func ?_⟩
  obtain ⟨t, ht0, hq⟩ := hbody cdv A out s H vs Q E rfl hgd (hroom.deeper _) hs
  have ht := ht0.nox
  have inv0 : Inv (cxOf CX0 P w K mg base N qual (defScope st) f cdv A out s H E) [] (start N vs) H s1 := inv_start S hroom.hd hst hcount hvals xin
  have fin : ∀ {σ' : L2.St} {H' : Hp} {v : V} {u : Value} {s' : Shared}, Inv (cxOf CX0 P w K mg base N qual (defScope st) f cdv A out s H E) [] σ' H' s' → RelV v u → Q v H' → CE out P w H s Q u s' := fun J rv q => ⟨_, _, J.os, J.bare, J.base, J.hok, rv, q⟩
  refine wpAny_mono (ht.run [] s1 (start N vs) H _ inv0 hq) (fun flow s' told => ?_) fun e s' told => told
  match flow, told with
  | .ret u, ⟨v, σ', H', J, rv, q⟩ => exact fin J rv q
  | .next, ⟨σ', H', J, q⟩ => exact fin (v := V.non) (u := Value.none) J rfl q
  | .brk, ⟨_, _, _, q⟩ => exact False.elim q
  | .cont, ⟨_, _, _, q⟩ => exact False.elim q
end
theorem passes_lam2 {X : Cx} {E : XK} {A : Around} {outer : List Env} {s : Shared} {H : Hp} {scope : Scope} {f c' : Addr} : Passes (L2.CX (lamCx X A outer s H E scope f c').prog (lamCx X A outer s H E scope f c').w) (lamCx X A outer s H E scope f c') E := passes_call (X := lamCx X A outer s H E scope f c') (takes_of rfl rfl rfl rfl) fun _ _ _ _ h => h
end Lamp
set_option Elab.async false
set_option linter.all false
set_option maxRecDepth 100000
set_option maxHeartbeats 1000000
namespace Lamp
open PySem PySem.Spec PyProof.Rows L2 LamX
/-! what stands where a lambda is called: all but the tables -/
theorem rnd_ext {K : PySem.W.Frag} {C a : Addr} {H H' : Hp} {lv fin : Int} {ls : List (Int × Int)} (h : RndW K C H a lv fin ls) (e : ExtN H H') : RndW K C H' a lv fin ls := by
  obtain ⟨⟨t, ⟨dx, h1⟩, as, h2, h3⟩, h4, h5⟩ := h
  refine ⟨⟨t, ⟨dx, e _ _ h1 (fun _ z => by cases z)⟩, as, ?_, L2.Paired.mapP h3 fun a q z => e _ _ z (fun _ z => by cases z)⟩, h4, h5⟩
  rcases h2 with h2 | ⟨o, h2⟩
  · exact .inl (e _ _ h2 (fun _ z => by cases z))
  · exact .inr ⟨o, e _ _ h2 (fun _ z => by cases z)⟩
theorem StAt.ext {K : PySem.W.Frag} {C S : Addr} {H H' : Hp} {a l : Addr} {lv : Int} {ds : List Deed} (h : StAt K C S H a l lv ds) (e : ExtN H H') : StAt K C S H' a l lv ds := by
  obtain ⟨⟨dx, st, h1, h2⟩, ts, h3, h4⟩ := h
  exact ⟨⟨dx, st, e _ _ h1 (fun _ z => by cases z), rnd_ext h2 e⟩, ts, e _ _ h3 (fun _ z => by cases z), L2.Paired.mapP h4 fun t d z => ⟨e _ _ z.at_ (fun _ z => by cases z), rnd_ext z.trip e, rnd_ext z.whole e⟩⟩
theorem PartsB.ext {K : PySem.W.Frag} {H H' : Hp} {l : Addr} {lv fin : Int} {ls : List (Int × Int)} (h : PartsB K H l lv fin ls) (e : ExtN H H') : PartsB K H' l lv fin ls := by
  obtain ⟨⟨t, h1, as, ⟨o, h2, h3⟩, h4⟩, h5⟩ := h
  exact ⟨⟨t, e _ _ h1 (fun _ z => by cases z), as, ⟨o, e _ _ h2 (fun _ z => by cases z), h3⟩, L2.Paired.mapP h4 fun a q z => e _ _ z (fun _ z => by cases z)⟩, h5⟩
theorem PartsB.but {K : PySem.W.Frag} {H H' : Hp} {l p : Addr} {lv fin : Int} {ls : List (Int × Int)} (h : PartsB K H l lv fin ls) (ne : l ≠ p) {xs : List V} (hp : H p = some (.lst xs)) (b : But p H H') : PartsB K H' l lv fin ls := by
  obtain ⟨⟨t, h1, as, ⟨o, h2, h3⟩, h4⟩, h5⟩ := h
  exact ⟨⟨t, b _ _ ne h1, as, ⟨o, b _ _ (fun z => by rw [z, hp] at h2; cases h2) h2, h3⟩, L2.Paired.mapP h4 fun a q z => b _ _ (fun k => by rw [k, hp] at z; cases z) z⟩, h5⟩
theorem StAt.butp {K : PySem.W.Frag} {C S : Addr} {H H' : Hp} {a l p : Addr} {lv : Int} {ds : List Deed} {xs : List V} (h : StAt K C S H a l lv ds) (hp : H p = some (.lst xs)) (ne : l ≠ p) (b : But p H H') : StAt K C S H' a l lv ds := by
  obtain ⟨⟨dx, st, h1, h2⟩, ts, h3, h4⟩ := h
  exact ⟨⟨dx, st, b _ _ (fun z => by rw [z, hp] at h1; cases h1) h1, rnd_but h2 hp b⟩, ts, b _ _ ne h3, L2.Paired.mapP h4 fun t d z => z.but hp b⟩
theorem StAt.lst {K : PySem.W.Frag} {C S : Addr} {H : Hp} {a l : Addr} {lv : Int} {ds : List Deed} (h : StAt K C S H a l lv ds) : ∃ xs, H l = some (.lst xs) := by
  obtain ⟨_, ts, h3, _⟩ := h
  exact ⟨_, h3⟩
theorem pail_lst {H : Hp} {p : Addr} (h : Pail H p) : ∃ xs, H p = some (.lst xs) := by
  obtain ⟨x, y, z, e, _⟩ := h
  exact ⟨_, e⟩
theorem pail_but {H H' : Hp} {p l : Addr} (h : Pail H p) (ne : p ≠ l) (b : But l H H') : Pail H' p := by
  obtain ⟨x, y, z, e, r⟩ := h
  exact ⟨x, y, z, b _ _ ne e, r⟩
/-- the list changed was not there at first -/
theorem butN_l {H H0 H1 : Hp} {p l : Addr} (bt : ButN p H H0) (nl : H l = none) (lp : l ≠ p) (b : But l H0 H1) : ButN p H H1 := fun x o h n => by
  have xp : x ≠ p := fun z => by rw [z, delH_same] at h; cases h
  have h' := h
  rw [delH_ne xp] at h'
  have k := bt x o h n
  rw [delH_ne xp] at k ⊢
  exact b x o (fun z => by rw [z, nl] at h'; cases h') k
/-- xs[:-1] -/
theorem cut_last (xs : List V) : cutV xs none (some (-1)) = xs.dropLast := by
  unfold cutV
  rw [List.dropLast_eq_take]
  cases xs with
  | nil => rfl
  | cons x xs =>
    have e : HT.sIx (x :: xs).length (x :: xs).length (some (-1)) = (x :: xs).length - 1 := by
      unfold HT.sIx
      simp
      omega
    rw [e]
    rfl
/-- lists of parts, beside the empty one -/
theorem parts_shaped : ∀ (ds : List Deed) (lv : Int), SeqAt.shaped (.list (ds.map fun d => partsD lv d.ls d.fin)) = true := fun ds lv => by
  have z : ∀ ds : List Deed, PyData.canLayAll0 (ds.map fun d => partsD lv d.ls d.fin) = true ∧ PyData.depthAll (ds.map fun d => partsD lv d.ls d.fin) ≤ 10 := fun ds => by
    induction ds with
    | nil => exact ⟨rfl, Nat.zero_le _⟩
    | cons d ds ih =>
      have e := (shaped_pairs d.ls).2
      unfold SeqAt.shaped at e
      rw [Bool.and_eq_true] at e
      have hd := (lay_pairs d.ls).2
      refine ⟨?_, ?_⟩
      · show ((true && ((PyData.tuple (d.ls.map pairD)).canLay0 && (true && true))) && _) = true
        rw [e.1, ih.1]
        rfl
      · show max (max 0 (max (PyData.depthAll (d.ls.map pairD) + 1) (max 0 0)) + 1) _ ≤ 10
        omega
  obtain ⟨a, b⟩ := z ds
  unfold SeqAt.shaped
  rw [Bool.and_eq_true]
  refine ⟨a, decide_eq_true ?_⟩
  show PyData.depthAll (ds.map fun d => partsD lv d.ls d.fin) + 1 ≤ 64
  omega
theorem parts_dp {K : PySem.W.Frag} {H : Hp} {lv : Int} : ∀ {ps : List Addr} {ds : List Deed}, Paired (PartOf K H lv) ps ds → DpAll K H (ps.map V.ref) (ds.map fun d => partsD lv d.ls d.fin)
  | _, _, .nil => .nil
  | _, _, .cons h t => .cons (PartsB.data h) (parts_dp t)
/-- done != [] -/
theorem ne_empty {K : PySem.W.Frag} {H : Hp} {lv : Int} {m n : Addr} {ps : List Addr} {ds : List Deed} {Q : VK} (hm : H m = some (.lst (ps.map V.ref))) (hps : Paired (PartOf K H lv) ps ds) (hn : H n = some (.lst [])) (k : Q (.bl (!ds.isEmpty)) H) : rNeD K (.ref m) (.ref n) H Q := by
  refine ⟨.list (ds.map fun d => partsD lv d.ls d.fin), .list [], .lst (SqL.of hm) (parts_dp hps), .lst (SqL.of hn) .nil, parts_shaped ds lv, by decide, ?_⟩
  cases ds <;> exact k
end Lamp
set_option Elab.async false
set_option linter.all false
set_option maxRecDepth 100000
set_option maxHeartbeats 1000000
namespace Lamp
open PySem PySem.Spec PyProof.Rows L2 LamX
/-- the class made with levels: what is told of it -/
structure MkS (P : Program) (w : World) (K : PySem.W.Frag) (mg : Str → Option Value) (base : Heap) (C S : Addr) : Prop where
  ex : ∃ (f : Addr) (fd : FuncData), Mk K S f ∧ FnOk P w K mg base CX0 6 f fd ["self", "levels"] (spStInit K C S) ∧ Binds K fd ["self", "levels"] []
def rMkS (K : PySem.W.Frag) (C S : Addr) (lv : Int) (H : Hp) (Q : VK) : Prop := goodLv lv ∧ ∀ a l H', Same H H' → H a = none → H l = none → l ≠ a → StAt K C S H' a l lv [] → Q (.ref a) H'
theorem mkS_init {K : PySem.W.Frag} {C S : Addr} {lv : Int} {H : Hp} {Q : VK} (h : rMkS K C S lv H Q) {x dx : Addr} (hx : H x = none) (hd : H dx = none) (hne : dx ≠ x) :
    spStInit K C S [.ref x, .int lv] (upd (upd H dx (.own x)) x (.ins S dx [])) (fun v H2 => v = .non ∧ Q (.ref x) H2) E0 := by
  obtain ⟨hg, q⟩ := h
  have s1 : Same H (upd (upd H dx (.own x)) x (.ins S dx [])) := fun b o e => by rw [upd_ne (ne_of_none e hx), upd_ne (ne_of_none e hd)]; exact e
  refine ⟨x, lv, dx, rfl, upd_same, hg, fun l H' bt nl nla hS => ⟨rfl, q x l H' (fun b o e => ?_) hx ?_ nla hS⟩⟩
  · exact bt b o (ne_of_none e hx) (s1 b o e)
  · cases el : H l with
    | none => rfl
    | some o => rw [s1 _ _ el] at nl; cases nl
/-- Street(a) -/
def tMkS (K : PySem.W.Frag) (C S : Addr) (ta : TA) : TE := fun σ H Q => ta σ H fun vs H1 => ∃ lv : Int, vs = [.int lv] ∧ rMkS K C S lv H1 Q
section
variable {X : Cx} {C S : Addr} {x : Str} {e : Expr} {es : List Expr} {ta : TA} {p pos : Pos}
theorem pe_mkS (Z : MkS X.prog X.w X.K X.mg X.base C S) (hr : Room 7 X.A) (hg : Gl X x) (hm : X.mg x = some (.ref S)) (ha : PA X (e :: es) ta) (hdb : (x == ("__debug__" : Str)) = false := by decide)
    (he : starEach (e :: es) X.env = (false, eval e X.env) :: starEach es X.env := by rfl) (hpl : (backTo pos (starEach es X.env)).any (·.1) = false := by rfl) : PE X (.Call (.Name x p) (e :: es) [] pos) (tMkS X.K C S ta) := by
  obtain ⟨f, fd, M, F, b⟩ := Z.ex
  refine ⟨fun pins s σ H Q I h => ?_⟩
  refine wpAny_Call_Name_kw (ld_glob I hg hm ?_ hdb)
  refine PySem.W.callWith_K (h₀ := X.base) I.ok.mod.kin M.kp (thn (ha.run pos pins s σ H _ I h) fun us s1 ⟨vs, H1, I1, r, lv, ev, q⟩ => ⟨I1.kIn, ?_⟩) he hpl
  subst ev
  exact run_make M F hr b .nil pass0 I1 r fun y dx hy hd hne => mkS_init q hy hd hne
end
/-- x.do(y), x.undo() -/
structure DoS (P : Program) (w : World) (K : PySem.W.Frag) (mg : Str → Option Value) (base : Heap) (C S xO : Addr) : Prop where
  ex : ∃ (f : Addr) (fd : FuncData), Meth K S "do" f ∧ FnOk P w K mg base (L2.CX P w) 8 f fd ["self", "trip"] (spDoX K C S xO) ∧ Binds K fd ["self", "trip"] []
theorem pe_doX {X : Cx} {C S xO : Addr} {E : XK} {o e : Expr} {ta te : TE} {pos apos : Pos} {pl : Sem Bool} (Z : DoS X.prog X.w X.K X.mg X.base C S xO) (R : SCls X.K S) (hr : Room 8 X.A) (hx : Passes (L2.CX X.prog X.w) X E) (ho : PE X o ta) (he : PE X e te)
    (hst : starEach [e] X.env = (false, eval e X.env) :: starEach [] X.env := by rfl) (hpl : (backTo pos (starEach [] X.env)).any (·.1) = false := by rfl)
    (ht : eval (.Call (.Attribute o "do" apos) [e] [] pos) X.env = (do
      let ov ← eval o X.env
      standAt apos.atName
      let (f, first) ← holding [ov] (getMethod ov "do" pl)
      callWith pos f first (backTo pos (starEach [e] X.env)) (backToKw pos (keywordEach [] X.env))) := by rfl) :
    PE X (.Call (.Attribute o "do" apos) [e] [] pos) (tMeth S "do" (spDoX X.K C S xO) [] E ta (tCons te tNil)) := by
  obtain ⟨f, fd, M, F, b⟩ := Z.ex
  exact pe_meth ho R.cl M F hr b .nil hx (pa_cons he pa_nil hst) hst hpl ht
end Lamp
set_option Elab.async false
set_option linter.all false
set_option maxRecDepth 100000
set_option maxHeartbeats 1000000
namespace Lamp
open PySem PySem.Spec PyProof.Rows L2 LamX
/-! what stands between two doings of the law -/
section
variable {K : PySem.W.Frag} {C S : Addr} {T : List (Addr × Str)}
theorem parts_ne {H : Hp} {a l q : Addr} {lv lv' fin : Int} {ls : List (Int × Int)} {ds : List Deed} (hS : StAt K C S H a l lv ds) (h : PartsB K H q lv' fin ls) : q ≠ l := by
  rintro rfl
  obtain ⟨⟨t, h1, _⟩, _⟩ := h
  obtain ⟨_, ts, h3, _⟩ := hS
  rw [h1] at h3
  cases ts with
  | nil => cases h3
  | cons x xs => cases h3
structure Lvs (K : PySem.W.Frag) (C S : Addr) (T : List (Addr × Str)) (H0 H : Hp) (p a l m : Addr) (lv : Int) (ds : List Deed) (ps : List Addr) : Prop where
  bt : ButN p H0 H
  pail : Pail H p
  st : StAt K C S H a l lv ds
  ch : Chain lv ds
  li : H m = some (.lst (ps.map V.ref))
  pa : Paired (PartOf K H lv) ps ds
  ml : m ≠ l
  mp : m ≠ p
  lp : l ≠ p
  qp : ∀ q ∈ ps, q ≠ p
  tabs : Tabs T H
variable {H0 H H' H'' : Hp} {p a l m m' q : Addr} {lv : Int} {ds es : List Deed} {d : Deed} {ps : List Addr}
theorem Lvs.same (h : Lvs K C S T H0 H p a l m lv ds ps) (s : Same H H') : Lvs K C S T H0 H' p a l m lv ds ps :=
  ⟨h.bt.trans (ButN.of (But.of s)), h.pail.same s, h.st.same s, h.ch, s _ _ h.li, L2.Paired.mapP h.pa fun _ _ z => z.same s, h.ml, h.mp, h.lp, h.qp, h.tabs.ext s⟩
theorem Lvs.ext (h : Lvs K C S T H0 H p a l m lv ds ps) (e : ExtN H H') (t : Tabs T H') : Lvs K C S T H0 H' p a l m lv ds ps := by
  refine ⟨h.bt.trans (ButN.ext e), ?_, h.st.ext e, h.ch, e _ _ h.li (fun _ z => by cases z), L2.Paired.mapP h.pa fun _ _ z => PartsB.ext z e, h.ml, h.mp, h.lp, h.qp, t⟩
  obtain ⟨x, y, z, k, r⟩ := h.pail
  exact ⟨x, y, z, e _ _ k (fun _ z => by cases z), r⟩
theorem pa_but {ps : List Addr} {ds : List Deed} {x : Addr} {xs : List V} (hx : H x = some (.lst xs)) (b : But x H H') (h : Paired (PartOf K H lv) ps ds) (ne : ∀ q ∈ ps, q ≠ x) : Paired (PartOf K H' lv) ps ds := by
  induction h with
  | nil => exact .nil
  | cons h t ih => exact .cons (PartsB.but h (ne _ (List.mem_cons_self ..)) hx b) (ih fun q z => ne q (List.mem_cons_of_mem _ z))
theorem Lvs.butp (h : Lvs K C S T H0 H p a l m lv ds ps) (hp : Pail H' p) (b : But p H H') : Lvs K C S T H0 H' p a l m lv ds ps := by
  obtain ⟨ys, e⟩ := pail_lst h.pail
  exact ⟨h.bt.trans (ButN.of b), hp, h.st.butp e h.lp b, h.ch, b _ _ h.mp h.li, pa_but e b h.pa h.qp, h.ml, h.mp, h.lp, h.qp, tabs_butL e b h.tabs⟩
theorem pa_ne (hS : StAt K C S H a l lv ds) : ∀ {ps : List Addr} {es : List Deed}, Paired (PartOf K H lv) ps es → ∀ q ∈ ps, q ≠ l
  | _, _, .nil => fun q z => nomatch z
  | _, _, .cons h t => fun q z => by
    rcases List.mem_cons.mp z with e | e
    · rw [e]; exact parts_ne hS h
    · exact pa_ne hS t q e
/-- the list changed for another -/
theorem Lvs.done (h : Lvs K C S T H0 H p a l m lv ds ps) (nl : H0 l = none) (b : But l H H') (hS : StAt K C S H' a l lv (ds ++ [d])) (hc : Chain lv (ds ++ [d])) (hq : PartsB K H q lv d.fin d.ls) (qp : q ≠ p) (s : Same H' H'') (hm : H'' m' = some (.lst ((ps ++ [q]).map V.ref))) (ml : m' ≠ l) (mp : m' ≠ p) :
    Lvs K C S T H0 H'' p a l m' lv (ds ++ [d]) (ps ++ [q]) := by
  obtain ⟨xs, e⟩ := h.st.lst
  refine ⟨(butN_l h.bt nl h.lp b).trans (ButN.of (But.of s)), (pail_but h.pail (Ne.symm h.lp) b).same s, hS.same s, hc, hm, ?_, ml, mp, h.lp, ?_, (tabs_butL e b h.tabs).ext s⟩
  · exact L2.Paired.mapP (paired_app (pa_but e b h.pa (pa_ne h.st h.pa)) (.cons (PartsB.but hq (parts_ne h.st hq) e b) .nil)) fun _ _ z => z.same s
  · intro x hx
    rcases List.mem_append.mp hx with z | z
    · exact h.qp x z
    · rw [List.mem_singleton.mp z]; exact qp
theorem pa_drop {ps : List Addr} {es : List Deed} {d : Deed} (h : Paired (PartOf K H lv) ps (es ++ [d])) : Paired (PartOf K H lv) ps.dropLast es := by
  induction es generalizing ps with
  | nil =>
    cases h with
    | cons a t => cases t; exact .nil
  | cons e es ih =>
    cases h with
    | cons a t =>
      rename_i y ys
      cases ys with
      | nil => cases es <;> cases t
      | cons z zs => exact .cons a (ih t)
/-- one done less -/
theorem Lvs.undone (h : Lvs K C S T H0 H p a l m lv (es ++ [d]) ps) (nl : H0 l = none) (hm : H m' = some (.lst (ps.dropLast.map V.ref))) (ml : m' ≠ l) (mp : m' ≠ p) (b : But l H H') (hS : StAt K C S H' a l lv es) :
    Lvs K C S T H0 H' p a l m' lv es ps.dropLast := by
  obtain ⟨xs, e⟩ := h.st.lst
  have hp' := pa_drop h.pa
  exact ⟨butN_l h.bt nl h.lp b, pail_but h.pail (Ne.symm h.lp) b, hS, h.ch.last.1, b _ _ ml hm, pa_but e b hp' (pa_ne h.st hp'), ml, mp, h.lp, fun x hx => h.qp x (List.dropLast_subset _ hx), tabs_butL e b h.tabs⟩
/-- the law's list anew -/
theorem Lvs.list (h : Lvs K C S T H0 H p a l m lv ds ps) (hm : H m' = some (.lst (ps.map V.ref))) (ml : m' ≠ l) (mp : m' ≠ p) : Lvs K C S T H0 H p a l m' lv ds ps :=
  ⟨h.bt, h.pail, h.st, h.ch, hm, h.pa, ml, mp, h.lp, h.qp, h.tabs⟩
theorem seq_by {A B : TS} {D : Ends} {σ : L2.St} {H : Hp} (R : L2.St → Hp → Prop) (h : ∀ T : L2.St → Hp → Prop, (∀ σ' H', R σ' H' → T σ' H') → A { D with nx := T } σ H) (k : ∀ σ' H', R σ' H' → B D σ' H') : tSeq A B D σ H := h (B D) k
theorem paired_len {α β : Type} {R : α → β → Prop} : ∀ {as : List α} {bs : List β}, Paired R as bs → as.length = bs.length
  | _, _, .nil => rfl
  | _, _, .cons _ t => by rw [List.length_cons, List.length_cons, paired_len t]
theorem PartsAt.ext {t : Addr} {r : Parts} (h : PartsAt K H q t r) (e : ExtN H H') : PartsAt K H' q t r := by
  obtain ⟨h1, as, ⟨o, h2, h3⟩, h4⟩ := h
  exact ⟨e _ _ h1 (fun _ z => by cases z), as, ⟨o, e _ _ h2 (fun _ z => by cases z), h3⟩, L2.Paired.mapP h4 fun a q z => e _ _ z (fun _ z => by cases z)⟩
theorem st_few (h0 : 0 < lv) (hS : StAt K C S H a l lv ds) (hC : Chain lv ds) : (lsOf ds).length ≤ 5 * ds.length := (hC.far h0 fun d hd => by
  obtain ⟨_, ts, h3, h4⟩ := hS
  obtain ⟨i, hi⟩ := List.getElem?_of_mem hd
  obtain ⟨t, ht, hD⟩ := paired_get' h4 hi
  exact hD.whole.pic.rise).2.2
end
end Lamp
set_option Elab.async false
set_option linter.all false
set_option maxRecDepth 100000
set_option maxHeartbeats 1000000
namespace Lamp
open PySem PySem.Spec PyProof.Rows L2 LamX
/-! a method of one parameter, called by its keyword -/
section
variable {X : Cx} {CX : CXT} {k : Nat} {f C : Addr} {fd : FuncData} {sp : Sp} {E : XK} {m y : Str} {pos apos : Pos} {o : Expr} {kws : List Keyword} {ta : TE} {tk : TA}
theorem pe_methK {pl : Sem Bool} (he : PE X o ta) (c : Cls X.K C) (hm : Meth X.K C m f) (F : FnOk X.prog X.w X.K X.mg X.base CX k f fd ["self", y] sp) (hr : Room k X.A) (hb : ∀ (s : Shared) (x u : Value), BindsTo s fd ⟨[x], [(y, u)]⟩ [("self", x), (y, u)]) (hx : Passes CX X E) (hkw : PK X kws tk)
    (hall : (backToKw pos (keywordEach kws X.env)).all (·.1.isSome) = true := by rfl) (hks : (backToKw pos (keywordEach kws X.env)).filterMap (·.1) = [y] := by rfl)
    (hpl : ((backTo pos (starEach [] X.env)).any (·.1) || (backToKw pos (keywordEach kws X.env)).any (·.1.isNone)) = false := by rfl)
    (ht : eval (.Call (.Attribute o m apos) [] kws pos) X.env = (do
      let ov ← eval o X.env
      standAt apos.atName
      let (f, first) ← holding [ov] (getMethod ov m pl)
      callWith pos f first (backTo pos (starEach [] X.env)) (backToKw pos (keywordEach kws X.env))) := by rfl) :
    PE X (.Call (.Attribute o m apos) [] kws pos) (tMeth C m sp [] E ta tk) := by
  refine ⟨fun pins s σ H Q I h => ?_⟩
  refine PySem.W.methodCall_KW (pl := pl) (thn (he.run pins s σ H _ I h) fun u s1 ⟨x, H1, I1, rx, a, dx, fs, ex, ea, l, q⟩ => ?_) ht
  subst ex
  obtain rfl : u = Value.ref a := rx
  refine getmeth_ok I1 ea c hm l ?_
  refine PySem.W.callWith_KW0 (first := [.ref a]) (h₀ := X.base) I.ok.mod.kin hm.kp hall ?_ hpl
  refine thn (hkw.run pos pins s1 σ H1 _ I1 q) fun ws s2 ⟨zs, H2, I2, rz, q2⟩ => ⟨I2.kIn, ?_⟩
  rw [hks]
  have hl := F.len _ _ _ _ q2
  have hz : zs.length = 1 := by
    have : (V.ref a :: (zs ++ [])).length = 2 := hl
    simp at this
    exact this
  obtain ⟨z, rfl⟩ := List.length_eq_one_iff.mp hz
  obtain ⟨u, rfl, rv⟩ := vals1 rz
  have r2 : Vals [V.ref a, z] [Value.ref a, u] := .cons rfl (.cons rv .nil)
  have go : sp [V.ref a, z] H2 Q E → wpAny (model X.prog X.w) X.A (call (.ref f) [.ref a] [(y, u)]) (EP X pins σ Q) X.xe s2 := fun q3 => by
    refine wpAny_call (codeAny_mono (F.run X.A X.stack s2 H2 ⟨[.ref a], [(y, u)]⟩ [.ref a, u] [.ref a, z] Q E hr I2.env0 (hb s2 (.ref a) u) r2 q3) fun res s' told => ?_)
    cases res with
    | error e => exact hx pins σ H2 s2 e s' I2 told
    | ok fl =>
      cases fl with
      | ret v => exact I2.after told
      | next => exact False.elim told
      | brk => exact False.elim told
      | cont => exact False.elim told
  exact go q2
end
end Lamp
set_option Elab.async false
set_option linter.all false
set_option maxRecDepth 100000
set_option maxHeartbeats 1000000
namespace Lamp
open PySem PySem.Spec PyProof.Rows PySem.SeqAt HN L2
/-! == and != of two instances that have no __eq__ of their own: whether they are one -/
section
variable {M : Model} {prog : Program} {w : World} {A : Around} {E : Value → Shared → Prop} {s : Shared} {K : PySem.W.Frag} {x y C : Addr} {ox oy : Obj} {od oe : Option Obj}
theorem isSame_two {R : Bool → Shared → Prop} (h : x ≠ y) (hx : s.heap.get? x = some ox) (cx : ox.cls = .ref C) (hy : s.heap.get? y = some oy) (q : R false s) : wpAny M A (isSame (.ref x) (.ref y)) R E s := by
  unfold isSame
  dsimp only
  rw [if_neg (by simpa using h)]
  refine wpAny_bind (wpAny_load hx ?_)
  refine wpAny_bind (wpAny_load hy ?_)
  rw [cx]
  exact wpAny_pure q
theorem entry_two (h : x ≠ y) (hx : s.heap.get? x = some ox) (cx : ox.cls = .ref C) (hy : s.heap.get? y = some oy) {Q : Fin → Shared → Prop} (hq : Q (.done (.ret .notImplemented)) s) : wpAny M A (Builtin.«object.__eq__» ⟨[.ref x, .ref y], []⟩) Q E s := by
  unfold Builtin.«object.__eq__»
  repeat (first | with_reducible refine isSame_two h hx cx hy ?_ | wp_step)
  exact hq
theorem call_eqI (h : x ≠ y) {Q : Value → Shared → Prop} (X : K.In s.heap) (I : PySem.W.InstAt s.heap x ox C od) (hy : s.heap.get? y = some oy) (hm : PySem.W.mroIn K C (.type "object") = some true) (hq : Q .notImplemented s) :
    wpAny (model prog w) A (call (.builtin "object.__eq__") [.ref x, .ref y]) Q E s :=
  wpAny_call (codeAny_call_builtin F.cmp_object.eq.plain F.cmpEntry_eq (PySem.W.check_slot F.cmpKind_eq F.cmpSplit_eq (I.type.andThen (PySem.W.looks_mroIn X hm)) (F.cmpArgs_eq _ _) (entry_two h I.1 I.cls hy hq)))
theorem neI_entry (h : x ≠ y) {Q : Fin → Shared → Prop} (X : K.In s.heap) (I : PySem.W.InstAt s.heap x ox C od) (hy : s.heap.get? y = some oy) (hu : A.units < cLine) (hm : PySem.W.mroIn K C (.type "object") = some true) (h1 : PySem.W.findIn K (.ref C) "__eq__" = some (some (.builtin "object.__eq__"))) (hq : Q (.done (.ret .notImplemented)) s) :
    wpAny (model prog w) A (Builtin.«object.__ne__» ⟨[.ref x, .ref y], []⟩) Q E s := by
  unfold Builtin.«object.__ne__»
  repeat (first
    | with_reducible refine wpAny_cRoomFor hu ?_
    | (refine wpAny_bind (m := callSpecialIfBound? (.ref x) (Str.ofString "__eq__") [.ref y]) (ifBound_objEq X I h1 (call_eqI h X I hy hm ?_)))
    | exact hq
    | exact wpAny_pure hq
    | wp_step)
theorem call_neI (h : x ≠ y) {Q : Value → Shared → Prop} (X : K.In s.heap) (I : PySem.W.InstAt s.heap x ox C od) (hy : s.heap.get? y = some oy) (hm : PySem.W.mroIn K C (.type "object") = some true) (hu : A.in1.units < cLine) (h1 : PySem.W.findIn K (.ref C) "__eq__" = some (some (.builtin "object.__eq__"))) (hq : Q .notImplemented s) :
    wpAny (model prog w) A (call (.builtin "object.__ne__") [.ref x, .ref y]) Q E s :=
  wpAny_call (codeAny_call_builtin F.cmp_object.ne.plain F.cmpEntry_ne (PySem.W.check_slot F.cmpKind_ne F.cmpSplit_ne (I.type.andThen (PySem.W.looks_mroIn X hm)) (F.cmpArgs_ne _ _) (neI_entry (A := A.in1) h X I hy hu hm h1 hq)))
end
structure EqI (K : PySem.W.Frag) (C : Addr) : Prop where
  eq : PySem.W.findIn K (.ref C) "__eq__" = some (some (.builtin "object.__eq__"))
  ne : PySem.W.findIn K (.ref C) "__ne__" = some (some (.builtin "object.__ne__"))
  mro : PySem.W.mroIn K C (.type "object") = some true
def rTwo (C : Addr) (neg : Bool) : R2 := fun x y H Q => ∃ (a b dx dy : Addr) (fs gs : List (Str × V)), x = .ref a ∧ y = .ref b ∧ a ≠ b ∧ H a = some (.ins C dx fs) ∧ H b = some (.ins C dy gs) ∧ Q (.bl neg) H
section
variable {X : Cx} {C : Addr} {k : Nat}
theorem op_two (Z : EqI X.K C) (hr : Room (k + 1) X.A) : OpR X (compareOp .Eq) (rTwo C false) ∧ OpR X (compareOp .NotEq) (rTwo C true) := by
  refine ⟨fun pins s σ H x y v u Q I rx ry h => ?_, fun pins s σ H x y v u Q I rx ry h => ?_⟩
  · obtain ⟨a, b, dx, dy, fs, gs, rfl, rfl, ne, ha, hb, q⟩ := h
    cases rx
    cases ry
    obtain ⟨od, J⟩ := ins_inst I ha
    obtain ⟨od', J'⟩ := ins_inst I hb
    have one : wpAny (model X.prog X.w) X.A (tryCompare (.ref a) "__eq__" (.ref b)) (fun r s' => r = none ∧ s' = s) X.xe s := by
      unfold tryCompare
      exact wpAny_bind (ifBound_objEq I.kIn J Z.eq (call_eqI ne I.kIn J J'.1 Z.mro (wpAny_pure ⟨rfl, rfl⟩)))
    have two : wpAny (model X.prog X.w) X.A (tryCompare (.ref b) "__eq__" (.ref a)) (fun r s' => r = none ∧ s' = s) X.xe s := by
      unfold tryCompare
      exact wpAny_bind (ifBound_objEq I.kIn J' Z.eq (call_eqI (Ne.symm ne) I.kIn J' J.1 Z.mro (wpAny_pure ⟨rfl, rfl⟩)))
    unfold compareOp richCompare
    simp only [oneThing_ref]
    refine wpAny_holding (wpAny_bind (wpAny_cRoomFor hr.units0 ?_))
    rw [cmpInfo_Eq]
    dsimp only
    refine wpAny_bind (J.type.here (wpAny_bind (J'.type.here ?_)))
    rw [show (Value.ref C != Value.ref C) = false from by simp]
    simp only [Bool.false_eq_true, if_false]
    refine wpAny_bind (wpAny_pure ?_)
    simp only [Bool.false_eq_true, if_false]
    refine wpAny_bind (wpAny_mono one (fun r s' told => ?_) fun _ _ z => z)
    obtain ⟨rfl, rfl⟩ := told
    simp only [Bool.not_false, if_true]
    refine wpAny_bind (wpAny_mono two (fun r s' told => ?_) fun _ _ z => z)
    obtain ⟨rfl, rfl⟩ := told
    exact wpAny_bind (wpAny_rule (wpAny_bind (isSame_two ne J.1 J.cls J'.1 (wpAny_pure ⟨.bl false, H, I, rfl, q⟩))))
  · obtain ⟨a, b, dx, dy, fs, gs, rfl, rfl, ne, ha, hb, q⟩ := h
    cases rx
    cases ry
    obtain ⟨od, J⟩ := ins_inst I ha
    obtain ⟨od', J'⟩ := ins_inst I hb
    have one : wpAny (model X.prog X.w) X.A (tryCompare (.ref a) "__ne__" (.ref b)) (fun r s' => r = none ∧ s' = s) X.xe s := by
      unfold tryCompare
      exact wpAny_bind (ne_bound I.kIn J Z.ne (call_neI ne I.kIn J J'.1 Z.mro hr.in1.units0 Z.eq (wpAny_pure ⟨rfl, rfl⟩)))
    have two : wpAny (model X.prog X.w) X.A (tryCompare (.ref b) "__ne__" (.ref a)) (fun r s' => r = none ∧ s' = s) X.xe s := by
      unfold tryCompare
      exact wpAny_bind (ne_bound I.kIn J' Z.ne (call_neI (Ne.symm ne) I.kIn J' J.1 Z.mro hr.in1.units0 Z.eq (wpAny_pure ⟨rfl, rfl⟩)))
    unfold compareOp richCompare
    simp only [oneThing_ref]
    refine wpAny_holding (wpAny_bind (wpAny_cRoomFor hr.units0 ?_))
    rw [cmpInfo_NotEq]
    dsimp only
    refine wpAny_bind (J.type.here (wpAny_bind (J'.type.here ?_)))
    rw [show (Value.ref C != Value.ref C) = false from by simp]
    simp only [Bool.false_eq_true, if_false]
    refine wpAny_bind (wpAny_pure ?_)
    simp only [Bool.false_eq_true, if_false]
    refine wpAny_bind (wpAny_mono one (fun r s' told => ?_) fun _ _ z => z)
    obtain ⟨rfl, rfl⟩ := told
    simp only [Bool.not_false, if_true]
    refine wpAny_bind (wpAny_mono two (fun r s' told => ?_) fun _ _ z => z)
    obtain ⟨rfl, rfl⟩ := told
    exact wpAny_bind (wpAny_rule (wpAny_bind (isSame_two ne J.1 J.cls J'.1 (wpAny_pure ⟨.bl true, H, I, rfl, q⟩))))
end
end Lamp
set_option Elab.async false
set_option linter.all false
set_option maxRecDepth 100000
set_option maxHeartbeats 1000000
namespace Lamp
open PySem PySem.Spec PyProof.Rows L2 LamX
/-! then and do that may come to too many lamps -/
def spCkManyX (xT : Addr) : Sp := fun vs H Q E => ∃ i : Int, vs = [.int i] ∧ (i ≤ 400 → Q .non H) ∧ (400 < i → ∀ d H', Same H H' → H' d = some (exd d [("given", .int i)]) → E (.ref xT) (some d) H')
def spRolX (K : PySem.W.Frag) (C xT : Addr) : Sp := fun vs H Q E => ∃ (t : Addr) (lv fin : Int) (ls : List (Int × Int)), vs = [.int lv, .ref t, .int fin] ∧ goodLv lv ∧ PicAt K H t ls ∧ Rising lv ls ∧ ls.length ≤ 9000 ∧
  (ls.length ≤ 400 → ∀ a H', Same H H' → H a = none → RoundAt C H' a lv t fin → Q (.ref a) H') ∧ (400 < ls.length → ∀ d H', Same H H' → H' d = some (exd d [("given", .int (ls.length : Int))]) → E (.ref xT) (some d) H')
def spThenT (K : PySem.W.Frag) (C xO xT : Addr) : Sp := fun vs H Q E => ∃ (a b : Addr) (lv lv' fin fin' : Int) (ls ls' : List (Int × Int)), vs = [.ref a, .ref b] ∧ RndW K C H a lv fin ls ∧ RndW K C H b lv' fin' ls' ∧
  (lv' ≠ lv → ∀ d H', Same H H' → H' d = some (exd d [("given", .int lv')]) → E (.ref xO) (some d) H') ∧
  (lv' = lv → (∀ (r : Addr) (ms : List (Int × Int)) H', Same H H' → RndW K C H' r lv (fin + fin') ms → (∀ p, sumAt ms p = partsAt [⟨ls, 0, 1⟩, ⟨ls', fin, 1⟩] p % lv) → Q (.ref r) H') ∧
    (∀ d (ms : List (Int × Int)) H', Rising lv ms → (∀ p, sumAt ms p = partsAt [⟨ls, 0, 1⟩, ⟨ls', fin, 1⟩] p % lv) → 400 < ms.length → Same H H' → H' d = some (exd d [("given", .int (ms.length : Int))]) → E (.ref xT) (some d) H'))
def spDoT (K : PySem.W.Frag) (C S xO xT : Addr) : Sp := fun vs H Q E => ∃ (a l b : Addr) (lv lv' fin : Int) (ls : List (Int × Int)) (ds : List Deed), vs = [.ref a, .ref b] ∧ StAt K C S H a l lv ds ∧ RndW K C H b lv' fin ls ∧ ds.length ≤ 64 ∧
  (lv' = lv → (∀ (d : Deed) H', But l H H' → d.tr = b → d.fin = fin → d.ls = ls → d.Fin = finOf ds + fin → (∀ p, sumAt d.Ls p = partsAt [⟨lsOf ds, 0, 1⟩, ⟨ls, finOf ds, 1⟩] p % lv) → d.Ls.length ≤ 400 → StAt K C S H' a l lv (ds ++ [d]) → Q (.int (finOf ds + fin)) H') ∧
    (∀ d (ms : List (Int × Int)) H', Rising lv ms → (∀ p, sumAt ms p = partsAt [⟨lsOf ds, 0, 1⟩, ⟨ls, finOf ds, 1⟩] p % lv) → 400 < ms.length → Same H H' → H' d = some (exd d [("given", .int (ms.length : Int))]) → E (.ref xT) (some d) H')) ∧
  (lv' ≠ lv → ∀ d H', Same H H' → H' d = some (exd d [("given", .int lv')]) → E (.ref xO) (some d) H')
section
variable {P : Program} {w : World} {K : PySem.W.Frag} {mg : Str → Option Value} {base : Heap} {C S xO xT : Addr}
theorem ok_ckManyX {f : Addr} {fd : FuncData} {t1 : Tok} (F : Fun K "check_many" "check_many" sCkMany f fd) (ZT : XC P w K mg xT "TooMany" "given") (yT : PySem.W.typeIn K (.ref xT) = some (.type "type")) (mML : mg "MOST_LAMPS" = some (.int 400 t1)) : FnOk P w K mg base (L2.CX P w) 3 f fd ["many"] (spCkManyX xT) := by
  refine F.okX scCkMany (fun vs H Q E h => ?_) (fun cdv A outer s H vs Q E hr h => ?_)
  · obtain ⟨i, rfl, _⟩ := h
    rfl
  · obtain ⟨i, rfl, q, qx⟩ := h
    refine ⟨_, pss_one (ps_if (pt_cmpR op_gt (pv 0) (pe_glob (v := .int 400) rfl mML ⟨_, rfl⟩) (nomark _)) (pss_one (ps_raise rfl (takes_of rfl rfl rfl rfl) (pmk_xo rfl (pe_xc ZT hr rfl (pv 0))))) pss_nil), ?_⟩
    by_cases hi : i ≤ 400
    · exact st_no (an_gt (val_var rfl) val_c (decide_eq_false (by omega))) (q hi)
    · refine st_yes (an_gt (val_var rfl) val_c (decide_eq_true (by omega))) ?_
      exact raise_run (val_var rfl) (fun a na => fr0_none na) (xc_raises ZT yT) fun d H' s1 hd => qx (by omega) d H' s1 hd
theorem ok_rolX {f : Addr} {fd : FuncData} (F : Fun K "round_of_lamps" "round_of_lamps" sRol f fd) (Cm : DrX P w K mg base (spCkManyX xT) "check_many" ["many"] 3) (M : MkR P w K mg base C) (mR : mg "Round" = some (.ref C)) (ml : mg "len" = none) : FnOk P w K mg base (L2.CX P w) 7 f fd ["levels", "lamps", "end"] (spRolX K C xT) := by
  refine F.okX scRol (fun vs H Q E h => ?_) (fun cdv A outer s H vs Q E hr h => ?_)
  · obtain ⟨t, lv, fin, ls, rfl, _⟩ := h
    rfl
  · obtain ⟨t, lv, fin, ls, rfl, hg, hp, hi, hfew, q, qx⟩ := h
    refine ⟨_, pss_cons (ps_expr (pe_drX Cm (by decide) hr rfl (passes_on (takes_of rfl rfl rfl rfl)) (pa_cons (pe_callB call_len_seq (by rfl) ml PySem.boot_len (pa_cons (pv 1) pa_nil)) pa_nil)))
      (pss_one (ps_ret (pe_mkR M (hr.mono (by decide)) rfl mR (pa_cons (pv 0) (pa_cons (pv 1) (pa_cons (pv 2) pa_nil)))))), ?_⟩
    obtain ⟨as, ht, hlen, _⟩ := pair_get hp
    have el : (as.map V.ref).length = ls.length := by rw [List.length_map, hlen]
    refine ⟨_, rfl, t, _, rfl, .inr (.inl ht), _, rfl, fun hle => ?_, fun hgt d H' s1 hd => qx (by rw [el] at hgt; omega) d H' s1 (by rw [el] at hd; exact hd)⟩
    have few : ls.length ≤ 400 := by rw [el] at hle; omega
    exact ⟨_, rfl, _, rfl, _, rfl, lv, t, fin, rfl, ls, hg, hp, hi.w few, q few⟩
theorem ok_thenT {f : Addr} {fd : FuncData} (F : Fun K "then" "then" sThen f fd) (R : RCls K C) (Z : Ask3 P w K mg base C) (Cs : DrX P w K mg base (spCkRsX C xO) "check_rounds" ["trip", "second"] 3) (To : Dr P w K mg base (spTotal K) "total" ["levels", "parts"] 1) (Ro : DrX P w K mg base (spRolX K C xT) "round_of_lamps" ["levels", "lamps", "end"] 7) : FnOk P w K mg base (L2.CX P w) 8 f fd ["trip", "second"] (spThenT K C xO xT) := by
  refine F.okX scThen (fun vs H Q E h => ?_) (fun cdv A outer s H vs Q E hr h => ?_)
  · obtain ⟨a, b, lv, lv', fin, fin', ls, ls', rfl, _⟩ := h
    rfl
  · obtain ⟨a, b, lv, lv', fin, fin', ls, ls', rfl, ⟨⟨t, ha, hp⟩, hg, hi⟩, ⟨⟨u, hb, hp'⟩, hg', hi'⟩, qo, q⟩ := h
    refine ⟨_, pss_cons (ps_expr (pe_drX Cs (by decide) hr rfl (passes_on (takes_of rfl rfl rfl rfl)) (pa_cons (pv 0) (pa_cons (pv 1) pa_nil))))
      (pss_cons (ps_set (i := 2) scThen.nd rfl (.inl rfl) (pe_dr To (by decide) hr rfl (pa_cons (pe_prR Z.lv R (by decide) hr (pv 0)) (pa_cons (pe_tup (pa_cons (pe_tup (pa_cons (pe_prR Z.la R (by decide) hr (pv 0)) (pa_cons pe_int (pa_cons pe_int pa_nil))))
          (pa_cons (pe_tup (pa_cons (pe_prR Z.la R (by decide) hr (pv 1)) (pa_cons (pe_prR Z.en R (by decide) hr (pv 0)) (pa_cons pe_int pa_nil)))) pa_nil))) pa_nil))))
      (pss_one (ps_ret (pe_drX Ro (Nat.le_refl _) hr rfl (passes_on (takes_of rfl rfl rfl rfl)) (pa_cons (pe_prR Z.lv R (by decide) hr (pv 0)) (pa_cons (pv 2) (pa_cons (pe_op op_add (pe_prR Z.en R (by decide) hr (pv 0)) (pe_prR Z.en R (by decide) hr (pv 1))) pa_nil))))))), ?_⟩
    obtain ⟨dx, hA⟩ := id ha
    obtain ⟨dy, hB⟩ := id hb
    refine ⟨_, rfl, _, rfl, a, b, t, u, lv, lv', fin, fin', rfl, ha, hb, fun eLv => ?_, qo⟩
    subst eLv
    obtain ⟨q, qT⟩ := q rfl
    have few1 := hi.few
    have few2 := hi'.few
    refine ⟨_, rfl, a, dx, _, rfl, hA, a, t, lv', fin, rfl, ha, ?_⟩
    refine ⟨_, rfl, a, dx, _, rfl, hA, a, t, lv', fin, rfl, ha, (by show 3 ≤ sizeLine; decide), fun r1 n1 => ?_⟩
    have s1 := same_of (o := .tup [V.ref t, V.int 0, V.int 1]) n1
    refine ⟨_, rfl, b, dy, _, rfl, s1 _ _ hB, b, u, lv', fin', rfl, hb.same s1, ?_⟩
    refine ⟨_, rfl, a, dx, _, rfl, s1 _ _ hA, a, t, lv', fin, rfl, ha.same s1, (by show 3 ≤ sizeLine; decide), fun r2 n2 => ?_⟩
    have s2 := s1.trans (same_of (o := .tup [V.ref u, V.int fin, V.int 1]) n2)
    refine ⟨(by show 2 ≤ sizeLine; decide), fun pt npt => ?_⟩
    have s3' := same_of (o := .tup [V.ref r1, V.ref r2]) npt
    have s3 := s2.trans s3'
    have e : partsLen [⟨ls, 0, 1⟩, ⟨ls', fin, 1⟩] = ls.length + ls'.length := by
      unfold partsLen
      rw [List.map_cons, List.map_cons, List.map_nil, List.sum_cons, List.sum_cons, List.sum_nil]
      rfl
    refine ⟨lv', pt, [r1, r2], [⟨ls, 0, 1⟩, ⟨ls', fin, 1⟩], rfl, upd_same, .cons ⟨t, ?_, hp.same s3⟩ (.cons ⟨u, ?_, hp'.same s3⟩ .nil), (good_pos hg).1, ?_, by omega, fun tt ms H' s4 hpb hri hsum hl => ?_⟩
    · exact (Same.trans (same_of n2) s3') _ _ upd_same
    · exact s3' _ _ upd_same
    · intro x hx
      simp only [List.mem_cons, List.not_mem_nil, or_false] at hx
      rcases hx with rfl | rfl
      · exact lev_small hg hi
      · exact lev_small hg hi'
    · have s5 := s3.trans s4
      refine ⟨_, rfl, a, dx, _, rfl, s5 _ _ hA, a, t, lv', fin, rfl, ha.same s5, _, rfl, ?_⟩
      refine ⟨_, rfl, a, dx, _, rfl, s5 _ _ hA, a, t, lv', fin, rfl, ha.same s5, ?_⟩
      refine ⟨_, rfl, b, dy, _, rfl, s5 _ _ hB, b, u, lv', fin', rfl, hb.same s5, _, _, rfl, rfl, ?_⟩
      refine ⟨tt, lv', fin + fin', ms, rfl, hg, hpb.at, hri, by omega, fun few r H6 s6 nr hR => ?_, fun many d H6 s6 hd => ?_⟩
      · exact q r ms H6 (s5.trans s6) ⟨⟨tt, hR, hpb.at.same s6⟩, hg, hri.w few⟩ hsum
      · exact qT d ms H6 hri hsum many (s5.trans s6) hd
theorem ok_doT {f : Addr} {fd : FuncData} (F : Fun K "do" "Street.do" sDo f fd) (R : RCls K C) (RS : SCls K S) (Z : Ask3 P w K mg base C) (Tr : PrR P w K mg base S "trip" (spStTrip K C S) 1) (Th : DrX P w K mg base (spThenT K C xO xT) "then" ["trip", "second"] 8) : FnOk P w K mg base (L2.CX P w) 9 f fd ["self", "trip"] (spDoT K C S xO xT) := by
  refine F.okX scDo (fun vs H Q E h => ?_) (fun cdv A outer s H vs Q E hr h => ?_)
  · obtain ⟨a, l, b, lv, lv', fin, ls, ds, rfl, _⟩ := h
    rfl
  · obtain ⟨a, l, b, lv, lv', fin, ls, ds, rfl, hS, hB, fd64, q, qx⟩ := h
    obtain ⟨⟨dx, st, h1, h2⟩, ts, h3, h4⟩ := id hS
    refine ⟨_, pss_cons (ps_set (i := 2) scDo.nd rfl (.inl rfl) (pe_drX Th (Nat.le_refl _) hr rfl (passes_on (takes_of rfl rfl rfl rfl)) (pa_cons (pe_prS Tr RS (by decide) hr (pv 0)) (pa_cons (pv 1) pa_nil))))
      (pss_cons (ps_expr (pe_bm PySem.F.plainAttrs_list PySem.F.slot_list_append PySem.F.type_list_append mt_append (pe_fld (pv 0) rfl) (pa_cons (pe_tup (pa_cons (pv 1) (pa_cons (pv 2) pa_nil))) pa_nil)))
      (pss_one (ps_ret (pe_prR Z.en R (by decide) hr (pv 2))))), ?_⟩
    refine ⟨_, rfl, a, dx, _, rfl, h1, a, l, lv, ds, rfl, hS, fun r hR => ?_⟩
    refine ⟨_, rfl, r, b, lv, lv', finOf ds, fin, lsOf ds, ls, rfl, hR, hB, qx, fun eLv => ⟨fun wh Ls H1 s1 hW hsum => ?_, (q eLv).2⟩⟩
    subst eLv
    replace q := (q rfl).1
    have h1' := s1 _ _ h1
    have h3' := s1 _ _ h3
    refine ⟨_, rfl, a, S, dx, _, _, rfl, h1', RS.cl, RS.n3, rfl, .inl ⟨rfl, _, SqL.of h3'⟩, _, rfl, _, rfl, (by show 2 ≤ sizeLine; decide), fun t nt => ?_⟩
    have s2 := same_of (o := .tup [V.ref b, V.ref wh]) nt
    have h3'' := s2 _ _ h3'
    have tl : t ≠ l := fun z => by rw [z, h3'] at nt; cases nt
    refine ⟨l, _, _, rfl, rfl, h3'', ?_, ?_⟩
    · rw [List.length_map, Paired.length h4]
      exact small1000 (by omega)
    · have s12 := s1.trans s2
      have bt : But l (upd H1 t (.tup [V.ref b, V.ref wh])) (upd (upd H1 t (.tup [V.ref b, V.ref wh])) l (.lst (ts.map V.ref ++ [V.ref t]))) := But.at
      have hB2 := rnd_but (hB.same s12) h3'' bt
      have hW2 := rnd_but (hW.same s2) h3'' bt
      obtain ⟨⟨tw, hw1, hw2⟩, _, _⟩ := id hW2
      obtain ⟨dw, hw3⟩ := id hw1
      refine ⟨_, rfl, wh, dw, _, rfl, hw3, wh, tw, _, _, rfl, hw1, ?_⟩
      exact q ⟨b, wh, fin, ls, finOf ds + fin, Ls⟩ _ ((But.of s12).trans bt) rfl rfl rfl rfl hsum hW.pic.few ((hS.same s12).push h3'' bt upd_same ⟨by rw [upd_ne tl, upd_same], hB2, hW2⟩)
end
end Lamp
set_option Elab.async false
set_option linter.all false
set_option maxRecDepth 100000
set_option maxHeartbeats 1000000
namespace Lamp
open PySem PySem.Spec PyProof.Rows L2 LamX
abbrev sSort : Stmt := top 54
/-! the sorting of errors: of each class, with a value of any kind -/
structure KdG (K : PySem.W.Frag) (cA cB cC x0 x1 D : Addr) (p0 p1 p2 b0 b1 : Bool) : Prop where
  T : ∃ (B newId initId : String) (tail : List Value), EC K D B newId initId tail
  ki : PySem.W.findIn K (.ref D) "index" = some none
  kg : PySem.W.findIn K (.ref D) "given" = some none
  k1 : PySem.W.kitOne K (.ref D) (.ref cA) = some p0
  k2 : PySem.W.kitOne K (.ref D) (.ref cB) = some p1
  k3 : PySem.W.kitOne K (.ref D) (.ref cC) = some p2
  k4 : PySem.W.kitOne K (.ref D) (.type "ValueError") = some p0
  k5 : PySem.W.kitOne K (.ref D) (.type "LookupError") = some p1
  k6 : PySem.W.kitOne K (.ref D) (.type "ArithmeticError") = some p2
  y0 : PySem.W.kitOne K (.ref D) (.ref x0) = some b0
  y1 : PySem.W.kitOne K (.ref D) (.ref x1) = some b1
def kdgB (K : PySem.W.Frag) (cA cB cC x0 x1 D : Addr) (p0 p1 p2 b0 b1 : Bool) : Bool :=
  [(Value.ref cA, p0), (.ref cB, p1), (.ref cC, p2), (.type "ValueError", p0), (.type "LookupError", p1), (.type "ArithmeticError", p2), (.ref x0, b0), (.ref x1, b1)].all (fun q => decide (PySem.W.kitOne K (.ref D) q.1 = some q.2)) && (decide (PySem.W.findIn K (.ref D) "index" = some none) && decide (PySem.W.findIn K (.ref D) "given" = some none))
theorem kdgB_ok {K : PySem.W.Frag} {cA cB cC x0 x1 D : Addr} {p0 p1 p2 b0 b1 : Bool} (T : ∃ (B newId initId : String) (tail : List Value), EC K D B newId initId tail) (h : kdgB K cA cB cC x0 x1 D p0 p1 p2 b0 b1 = true) : KdG K cA cB cC x0 x1 D p0 p1 p2 b0 b1 := by
  unfold kdgB at h
  simp only [List.all_cons, List.all_nil, Bool.and_eq_true, decide_eq_true_eq] at h
  obtain ⟨⟨h1, h2, h3, h4, h5, h6, g0, g1, _⟩, e1, e2⟩ := h
  exact ⟨T, e1, e2, h1, h2, h3, h4, h5, h6, g0, g1⟩
structure NmG (mg : Str → Option Value) (cA cB cC x0 x1 : Addr) : Prop where
  mA : mg "WrongValue" = some (.ref cA)
  mB : mg "WrongName" = some (.ref cB)
  mC : mg "NotPossible" = some (.ref cC)
  m0 : mg "OtherLevels" = some (.ref x0)
  m1 : mg "TooMany" = some (.ref x1)
  n1 : mg "ValueError" = none
  n2 : mg "LookupError" = none
  n3 : mg "ArithmeticError" = none
def ErrG (x0 x1 : Addr) (D : Addr) (f m : Str) : Prop := (D = x0 ∧ f = "given" ∧ m = "OtherLevels") ∨ (D = x1 ∧ f = "given" ∧ m = "TooMany")
def spSort (K : PySem.W.Frag) (x0 x1 : Addr) : SpO := fun a D d vs H Q _ => vs = [.ref a] ∧ ((∃ (dd : Addr) (f m : Str) (y : V) (dt : PyData), d = some dd ∧ ErrG x0 x1 D f m ∧ H dd = some (exd dd [(f, y)]) ∧ Dq K H y dt ∧ okD dt = true ∧ ∀ l H', Same H H' → H l = none → H' l = some (.lst [.str m, .str dt.shown]) → Q (.ref l) H'))
def One3 (p0 p1 p2 : Bool) : Prop := (p0 = true ∧ p1 = false ∧ p2 = false) ∨ (p0 = false ∧ p1 = true ∧ p2 = false) ∨ (p0 = false ∧ p1 = false ∧ p2 = true)
def flG (p0 p1 p2 : Bool) : PyData := .list ([p0, p1, p2].map PyData.bool)
theorem flG_ok {p0 p1 p2 : Bool} (h : One3 p0 p1 p2) : SeqAt.shaped (flG p0 p1 p2) = true ∧ PyData.eqv (flG p0 p1 p2) (flG p0 p1 p2) = true ∧ (([p0, p1, p2].map PyData.bool).countP fun z => PyData.eqv z (.bool true)) = 1 := by
  rcases h with ⟨rfl, rfl, rfl⟩ | ⟨rfl, rfl, rfl⟩ | ⟨rfl, rfl, rfl⟩ <;> decide +kernel
theorem sq_lstVn {ta : TA} {σ : L2.St} {H : Hp} {vs : List V} {t2 : TS} {D : Ends} {i : Nat} (h : VA ta σ H vs) (hl : vs.length ≤ 100) (k : ∀ l H', H l = none → H' l = some (.lst vs) → Same H H' → t2 D (σ.set i (some (.ref l))) H') : tSeq (tAsg (tLst ta) (gName i)) t2 D σ H :=
  h _ ⟨Nat.le_of_lt (small1000 (by omega)), fun r hr => k r _ hr upd_same (same_of hr)⟩
section
variable {K : PySem.W.Frag} {σ : L2.St} {H : Hp} {i : Nat} {a D D' : Addr} {d : Option Addr} {b : Bool}
theorem v_isO (h : σ[i]? = some (some (.ref a))) (hd : DictO H d) (hk : PySem.W.kitOne K (.ref D) (.ref D') = some b) :
    Val (tCB (rIsO K a D d) (tCons (tVar i) (tCons (tC (.ref D')) tNil))) σ H (.bl b) := fun Q q => ⟨_, h, _, _, b, rfl, hd, .own D', hk, q⟩
theorem v_isOT {n : String} (h : σ[i]? = some (some (.ref a))) (hd : DictO H d) (hk : PySem.W.kitOne K (.ref D) (.type n) = some b) :
    Val (tCB (rIsO K a D d) (tCons (tVar i) (tCons (tC (.ty n)) tNil))) σ H (.bl b) := fun Q q => ⟨_, h, _, _, b, rfl, hd, .ty n, hk, q⟩
end
theorem DictO.same {H H' : Hp} {d : Option Addr} (h : DictO H d) (s : Same H H') : DictO H' d := by
  cases d with
  | none => trivial
  | some dd =>
    obtain ⟨fs, h⟩ := h
    exact ⟨fs, s _ _ h⟩
section
variable {P : Program} {w : World} {K : PySem.W.Frag} {mg : Str → Option Value} {base : Heap} {cA cB cC x0 x1 : Addr}
theorem scSort : FnScope ["_law_e", "_law_bases", "_law_plain", "_law_found"] ["_law_e"] (defScope sSort) := ⟨rfl, rfl, rfl, by decide +kernel, rfl, by decide +kernel, by decide +kernel⟩
/-- what is told at last -/
theorem sort_end {p0 p1 p2 : Bool} (h3 : One3 p0 p1 p2) {a l1 l2 l3 l4 : Addr} {H4 : Hp} {D : Ends} (e1 : H4 l1 = some (.lst [.bl p0, .bl p1, .bl p2])) (e2 : H4 l2 = some (.lst [.bl p0, .bl p1, .bl p2])) (e3 : H4 l3 = some (.lst [.ref l4])) (q : D.rt (.ref l4) H4) :
    tRet (tIf (tAnd (tTest (tOp rEq (tCB (fun xs H Q => ∃ p ys, xs = [.ref p] ∧ (SqL K H p ys ∨ SqT K H p ys) ∧ Q (.int ys.length) H) (tCons (tVar 3) tNil)) (tC (.int 1)))) (tAnd (tTest (tOp (rEqD K) (tVar 1) (tVar 2))) (tTest (tOp rEq (tBM K "list" (rCntD K) (tVar 1) (tCons (tC (.bl true)) tNil)) (tC (.int 1)))))) (tOp (rIxL K) (tVar 3) (tC (.int 0))) (tLst (tCons (tC (.str "other")) (tCons (tC (.str "")) tNil)))) D [some (.ref a), some (.ref l1), some (.ref l2), some (.ref l3)] H4 := by
  obtain ⟨f1, f2, f3⟩ := flG_ok h3
  have a3 : Ans (tTest (tOp rEq (tBM K "list" (rCntD K) (tVar 1) (tCons (tC (.bl true)) tNil)) (tC (.int 1)))) [some (.ref a), some (.ref l1), some (.ref l2), some (.ref l3)] H4 true := by
    refine ans_eq (x := .int 1) (y := .int 1) (fun Q q => ⟨_, rfl, .inl ⟨rfl, _, SqL.of e1⟩, l1, _, .bl true, [p0, p1, p2].map PyData.bool, .bool true, rfl, rfl, SqL.of e1, dpAll_bools (bs := [p0, p1, p2]), .bl true, by rcases h3 with ⟨rfl, rfl, rfl⟩ | ⟨rfl, rfl, rfl⟩ | ⟨rfl, rfl, rfl⟩ <;> decide, by decide, by rcases h3 with ⟨rfl, rfl, rfl⟩ | ⟨rfl, rfl, rfl⟩ | ⟨rfl, rfl, rfl⟩ <;> decide, ?_⟩) val_c rfl rfl
    rw [f3]
    exact q
  have a2 : Ans (tTest (tOp (rEqD K) (tVar 1) (tVar 2))) [some (.ref a), some (.ref l1), some (.ref l2), some (.ref l3)] H4 true := by
    intro Q q
    refine ⟨_, rfl, _, rfl, flG p0 p1 p2, flG p0 p1 p2, .lst (SqL.of e1) (dpAll_bools (bs := [p0, p1, p2])), .lst (SqL.of e2) (dpAll_bools (bs := [p0, p1, p2])), f1, f1, _, rfl, ?_⟩
    rw [f2]
    exact q
  have a1 : Ans (tTest (tOp rEq (tCB (fun xs H Q => ∃ p ys, xs = [.ref p] ∧ (SqL K H p ys ∨ SqT K H p ys) ∧ Q (.int ys.length) H) (tCons (tVar 3) tNil)) (tC (.int 1)))) [some (.ref a), some (.ref l1), some (.ref l2), some (.ref l3)] H4 true := ans_eq (x := .int 1) (y := .int 1) (fun Q q => ⟨_, rfl, l3, _, rfl, .inl (SqL.of e3), q⟩) val_c rfl rfl
  refine ans_and a1 (ans_and a2 a3) _ ?_
  exact iteT ⟨_, rfl, l3, _, 0, .ref l4, rfl, rfl, SqL.of e3, rfl, q⟩
theorem ok_sort {f : Addr} {fd : FuncData} (F : Fun K "_law_sort" "_law_sort" sSort f fd) (G : ClsG K) (N : NmG mg cA cB cC x0 x1) (D0 : KdG K cA cB cC x0 x1 x0 false false true true false) (D1 : KdG K cA cB cC x0 x1 x1 false false true false true)
    (mis : mg "isinstance" = none) (mp : mg "repr" = none) (ml : mg "len" = none) : FnO P w K mg base 2 f fd ["_law_e"] (spSort K x0 x1) := by
  refine okO F scSort (fun a D d vs H Q E h => ?_) (fun cdv A outer s H vs Q p D d hgd hr Z h => ?_)
  · obtain ⟨rfl, _⟩ := h
    rfl
  · have hu : (A.deeper (envOfC "_law_sort" (defScope sSort) s.heap.objs.size f cdv)).units + 64 < cLine := by have := hr.un; omega
    have hp : p ∈ (L2H.cxH CX0 P w K mg base ["_law_e", "_law_bases", "_law_plain", "_law_found"] "_law_sort" (defScope sSort) f cdv A outer s H E0 p).nox.pn := List.mem_cons_self ..
    obtain ⟨rfl, h⟩ := h
    rcases h with ⟨dd, fl, m, y, dt, rfl, he, hd, hq, kd, q⟩
    · obtain ⟨p0, p1, p2, b0, b1, DD, h3', hb⟩ : ∃ p0 p1 p2 b0 b1, KdG K cA cB cC x0 x1 D p0 p1 p2 b0 b1 ∧ One3 p0 p1 p2 ∧ ((b0 = true ∧ b1 = false ∧ fl = "given" ∧ m = "OtherLevels") ∨ (b0 = false ∧ b1 = true ∧ fl = "given" ∧ m = "TooMany")) := by
        rcases he with ⟨rfl, e1, e2⟩ | ⟨rfl, e1, e2⟩
        · exact ⟨_, _, _, _, _, D0, .inr (.inr ⟨rfl, rfl, rfl⟩), .inl (⟨rfl, rfl, e1, e2⟩)⟩
        · exact ⟨_, _, _, _, _, D1, .inr (.inr ⟨rfl, rfl, rfl⟩), .inr (⟨rfl, rfl, e1, e2⟩)⟩
      have kd3 := okD_of kd
      have hD : DictO H (some dd) := ⟨_, hd⟩
      refine ⟨_, pss_cons (ps_set (i := 1) scSort.nd rfl (.inl rfl) (pe_lst (pa_cons (pe_callB (call_isO G DD.T hp Z) (by rfl) mis (by decide +kernel) (pa_cons (pv 0) (pa_cons (pe_glob (v := .ref cA) rfl N.mA rfl) pa_nil))) (pa_cons (pe_callB (call_isO G DD.T hp Z) (by rfl) mis (by decide +kernel) (pa_cons (pv 0) (pa_cons (pe_glob (v := .ref cB) rfl N.mB rfl) pa_nil))) (pa_cons (pe_callB (call_isO G DD.T hp Z) (by rfl) mis (by decide +kernel) (pa_cons (pv 0) (pa_cons (pe_glob (v := .ref cC) rfl N.mC rfl) pa_nil))) pa_nil)))))
        (pss_cons (ps_set (i := 2) scSort.nd rfl (.inl rfl) (pe_lst (pa_cons (pe_callB (call_isO G DD.T hp Z) (by rfl) mis (by decide +kernel) (pa_cons (pv 0) (pa_cons (pe_bltn (v := .ty "ValueError") (by rfl) N.n1 (by decide +kernel) rfl) pa_nil))) (pa_cons (pe_callB (call_isO G DD.T hp Z) (by rfl) mis (by decide +kernel) (pa_cons (pv 0) (pa_cons (pe_bltn (v := .ty "LookupError") (by rfl) N.n2 (by decide +kernel) rfl) pa_nil))) (pa_cons (pe_callB (call_isO G DD.T hp Z) (by rfl) mis (by decide +kernel) (pa_cons (pv 0) (pa_cons (pe_bltn (v := .ty "ArithmeticError") (by rfl) N.n3 (by decide +kernel) rfl) pa_nil))) pa_nil)))))
        (pss_cons (ps_set (i := 3) scSort.nd rfl (.inl rfl) (pe_lst pa_nil))
        (pss_cons (ps_if (pt_val (pe_callB (call_isO G DD.T hp Z) (by rfl) mis (by decide +kernel) (pa_cons (pv 0) (pa_cons (pe_glob (v := .ref x0) rfl N.m0 rfl) pa_nil)))) (pss_one (ps_expr (pe_bm PySem.F.plainAttrs_list PySem.F.slot_list_append PySem.F.type_list_append mt_append (pv 3) (pa_cons (pe_lst (pa_cons pe_str (pa_cons (pe_callB (call_reprD hgd hu) (by rfl) mp (by decide +kernel) (pa_cons (pe_xfP DD.T DD.kg hp Z.some (pv 0)) pa_nil)) pa_nil))) pa_nil)))) pss_nil)
        (pss_cons (ps_if (pt_val (pe_callB (call_isO G DD.T hp Z) (by rfl) mis (by decide +kernel) (pa_cons (pv 0) (pa_cons (pe_glob (v := .ref x1) rfl N.m1 rfl) pa_nil)))) (pss_one (ps_expr (pe_bm PySem.F.plainAttrs_list PySem.F.slot_list_append PySem.F.type_list_append mt_append (pv 3) (pa_cons (pe_lst (pa_cons pe_str (pa_cons (pe_callB (call_reprD hgd hu) (by rfl) mp (by decide +kernel) (pa_cons (pe_xfP DD.T DD.kg hp Z.some (pv 0)) pa_nil)) pa_nil))) pa_nil)))) pss_nil)
        (pss_one (ps_ret (pe_ifExp (PW.pt (pw_and (pt_cmpR op_eq (pe_callB call_len_seq (by rfl) ml PySem.boot_len (pa_cons (pv 3) pa_nil)) pe_int (nomark _)) (pw_and (pt_cmpR (op_eqD hu) (pv 1) (pv 2) (nomark _)) (pw_and1 (pt_cmpR op_eq (pe_bm PySem.F.plainAttrs_list PySem.F.slot_list_count PySem.F.type_list_count (mt_cntD hu) (pv 1) (pa_cons pe_bl pa_nil)) pe_int (nomark _)))))) (pe_ix ix_list (pv 3) pe_int (fun _ _ => rfl)) (pe_lst (pa_cons pe_str (pa_cons pe_str pa_nil)))))))))), ?_⟩
      refine sq_lstV (va_cons (v_isO rfl hD DD.k1) (va_cons (v_isO rfl hD DD.k2) (va_cons (v_isO rfl hD DD.k3) va_nil))) (by show 3 ≤ 100; decide) fun l1 H1 h1 s1 => ?_
      have hD1 := hD.same s1
      refine sq_lstV (va_cons (v_isOT rfl hD1 DD.k4) (va_cons (v_isOT rfl hD1 DD.k5) (va_cons (v_isOT rfl hD1 DD.k6) va_nil))) (by show 3 ≤ 100; decide) fun l2 H2 h2 s2 => ?_
      refine sq_lstVn va_nil (by decide) fun l3 H3 n3 h3 s3 => ?_
      have n3 := (s1.trans s2).free n3
      dsimp only [List.set, L2.start, List.map, List.length, List.replicate, List.append]
      have g2 := s3 _ _ h2
      have g1 := s3 _ _ (s2 _ _ h1)
      have s03 := (s1.trans s2).trans s3
      have hD3 := hD.same s03
      have n31 : l1 ≠ l3 := fun z => by rw [z, h3] at g1; cases g1
      have n32 : l2 ≠ l3 := fun z => by rw [z, h3] at g2; cases g2
      have hd3 := s03 _ _ hd
      have hq3 := dq_same s03 hq
      rcases hb with ⟨rfl, rfl, rfl, rfl⟩ | ⟨rfl, rfl, rfl, rfl⟩
      · refine sq_yes (ans_val (v_isO rfl hD3 DD.y0)) ?_
        refine ⟨_, rfl, .inl ⟨rfl, _, SqL.of h3⟩, _, rfl, rfl, _, y, hd3, by rw [List.lookup_cons, beq_self_eq_true], y, dt, rfl, hq3, kd3.1, kd3.2.1, kd3.2.2, (by show 2 ≤ sizeLine; decide), fun l4 n4 => ?_⟩
        have m1 := ne_of_none g1 n4
        have m2 := ne_of_none g2 n4
        have m3 := ne_of_none h3 n4
        refine ⟨l3, [], _, rfl, rfl, by rw [upd_ne m3]; exact h3, (by show 0 < sizeLine; decide), ?_⟩
        have s4 : Same H (upd (upd H3 l4 (.lst [.str "OtherLevels", .str dt.shown])) l3 (.lst [.ref l4])) := fun b o e => by
          rw [upd_ne (ne_of_none e n3), upd_ne (ne_of_none (s03 _ _ e) n4)]
          exact s03 _ _ e
        have hD4 := hD.same s4
        refine sq_no (ans_val (v_isO rfl hD4 DD.y1)) ?_
        exact sort_end h3' (by rw [upd_ne n31, upd_ne m1]; exact g1) (by rw [upd_ne n32, upd_ne m2]; exact g2) upd_same (q l4 _ s4 (s03.free n4) (by rw [upd_ne (Ne.symm m3), upd_same]))
      · refine sq_no (ans_val (v_isO rfl hD3 DD.y0)) ?_
        refine sq_yes (ans_val (v_isO rfl hD3 DD.y1)) ?_
        refine ⟨_, rfl, .inl ⟨rfl, _, SqL.of h3⟩, _, rfl, rfl, _, y, hd3, by rw [List.lookup_cons, beq_self_eq_true], y, dt, rfl, hq3, kd3.1, kd3.2.1, kd3.2.2, (by show 2 ≤ sizeLine; decide), fun l4 n4 => ?_⟩
        have m1 := ne_of_none g1 n4
        have m2 := ne_of_none g2 n4
        have m3 := ne_of_none h3 n4
        refine ⟨l3, [], _, rfl, rfl, by rw [upd_ne m3]; exact h3, (by show 0 < sizeLine; decide), ?_⟩
        have s4 : Same H (upd (upd H3 l4 (.lst [.str "TooMany", .str dt.shown])) l3 (.lst [.ref l4])) := fun b o e => by
          rw [upd_ne (ne_of_none e n3), upd_ne (ne_of_none (s03 _ _ e) n4)]
          exact s03 _ _ e
        have hD4 := hD.same s4
        exact sort_end h3' (by rw [upd_ne n31, upd_ne m1]; exact g1) (by rw [upd_ne n32, upd_ne m2]; exact g2) upd_same (q l4 _ s4 (s03.free n4) (by rw [upd_ne (Ne.symm m3), upd_same]))
end
end Lamp
set_option Elab.async false
set_option linter.all false
set_option maxRecDepth 100000
set_option maxHeartbeats 1000000
namespace Lamp
open PySem PySem.Spec PyProof.Rows L2 LamX
/-! streets made and led by name, many lamps -/
structure DoT (P : Program) (w : World) (K : PySem.W.Frag) (mg : Str → Option Value) (base : Heap) (C S xO xT : Addr) : Prop where
  ex : ∃ (f : Addr) (fd : FuncData), Meth K S "do" f ∧ FnOk P w K mg base (L2.CX P w) 9 f fd ["self", "trip"] (spDoT K C S xO xT) ∧ Binds K fd ["self", "trip"] [] ∧ ∀ (s : Shared) (x u : Value), BindsTo s fd ⟨[x], [("trip", u)]⟩ [("self", x), ("trip", u)]
theorem pe_doT {X : Cx} {C S xO xT : Addr} {E : XK} {o e : Expr} {ta te : TE} {pos apos : Pos} {pl : Sem Bool} (Z : DoT X.prog X.w X.K X.mg X.base C S xO xT) (R : SCls X.K S) (hr : Room 9 X.A) (hx : Passes (L2.CX X.prog X.w) X E) (ho : PE X o ta) (he : PE X e te)
    (hst : starEach [e] X.env = (false, eval e X.env) :: starEach [] X.env := by rfl) (hpl : (backTo pos (starEach [] X.env)).any (·.1) = false := by rfl)
    (ht : eval (.Call (.Attribute o "do" apos) [e] [] pos) X.env = (do
      let ov ← eval o X.env
      standAt apos.atName
      let (f, first) ← holding [ov] (getMethod ov "do" pl)
      callWith pos f first (backTo pos (starEach [e] X.env)) (backToKw pos (keywordEach [] X.env))) := by rfl) :
    PE X (.Call (.Attribute o "do" apos) [e] [] pos) (tMeth S "do" (spDoT X.K C S xO xT) [] E ta (tCons te tNil)) := by
  obtain ⟨f, fd, M, F, b, _⟩ := Z.ex
  exact pe_meth ho R.cl M F hr b .nil hx (pa_cons he pa_nil hst) hst hpl ht
theorem pe_doTK {X : Cx} {C S xO xT : Addr} {E : XK} {o e : Expr} {ta te : TE} {pos apos kp : Pos} {pl : Sem Bool} (Z : DoT X.prog X.w X.K X.mg X.base C S xO xT) (R : SCls X.K S) (hr : Room 9 X.A) (hx : Passes (L2.CX X.prog X.w) X E) (ho : PE X o ta) (he : PE X e te)
    (ht : eval (.Call (.Attribute o "do" apos) [] [⟨some "trip", e, kp⟩] pos) X.env = (do
      let ov ← eval o X.env
      standAt apos.atName
      let (f, first) ← holding [ov] (getMethod ov "do" pl)
      callWith pos f first (backTo pos (starEach [] X.env)) (backToKw pos (keywordEach [⟨some "trip", e, kp⟩] X.env))) := by rfl) :
    PE X (.Call (.Attribute o "do" apos) [] [⟨some "trip", e, kp⟩] pos) (tMeth S "do" (spDoT X.K C S xO xT) [] E ta (tCons te tNil)) := by
  obtain ⟨f, fd, M, F, _, b⟩ := Z.ex
  exact pe_methK ho R.cl M F hr b hx (pk_cons he pk_nil) rfl rfl rfl ht
/-- Street(levels=a) -/
structure MkSK (P : Program) (w : World) (K : PySem.W.Frag) (mg : Str → Option Value) (base : Heap) (C S : Addr) : Prop where
  ex : ∃ (f : Addr) (fd : FuncData), Mk K S f ∧ FnOk P w K mg base CX0 6 f fd ["self", "levels"] (spStInit K C S) ∧ ∀ (s : Shared) (x u : Value), BindsTo s fd ⟨[x], [("levels", u)]⟩ [("self", x), ("levels", u)]
def gK1 {α : Type} : List α → List α → List α
  | [x], [u] => [x, u]
  | _, _ => []
theorem gK1_rel : ∀ {vs : List V} {us : List Value} {zs : List V} {ws : List Value}, Vals vs us → Vals zs ws → Vals (gK1 vs zs) (gK1 us ws)
  | _, _, _, _, .cons r .nil, .cons r1 .nil => .cons r (.cons r1 .nil)
  | _, _, _, _, .nil, _ => .nil
  | _, _, _, _, .cons _ (.cons _ _), _ => .nil
  | _, _, _, _, .cons _ .nil, .nil => .nil
  | _, _, _, _, .cons _ .nil, .cons _ (.cons _ _) => .nil
theorem pe_mkSK {X : Cx} {C S : Addr} {x : Str} {kws : List Keyword} {tk : TA} {p pos : Pos} (Z : MkSK X.prog X.w X.K X.mg X.base C S) (hr : Room 7 X.A) (hg : Gl X x) (hm : X.mg x = some (.ref S)) (hkw : PK X kws tk)
    (hall : (backToKw pos (keywordEach kws X.env)).all (·.1.isSome) = true := by rfl) (hks : (backToKw pos (keywordEach kws X.env)).filterMap (·.1) = (["levels"] : List Str) := by rfl) (hdb : (x == ("__debug__" : Str)) = false := by decide)
    (hpl : ((backTo pos (starEach [] X.env)).any (·.1) || (backToKw pos (keywordEach kws X.env)).any (·.1.isNone)) = false := by rfl) : PE X (.Call (.Name x p) [] kws pos) (tMkS X.K C S tk) := by
  obtain ⟨f, fd, M, F, b⟩ := Z.ex
  have kb : KBn X.K fd ["self", "levels"] 1 ["levels"] gK1 gK1 := ⟨fun s us ws _ l1 l2 => by
    obtain ⟨x, rfl⟩ := List.length_eq_one_iff.mp l1
    obtain ⟨u, rfl⟩ := List.length_eq_one_iff.mp l2
    exact b s x u, gK1_rel⟩
  refine ⟨fun pins s σ H Q I h => ?_⟩
  refine wpAny_Call_Name_kw (ld_glob I hg hm ?_ hdb)
  refine PySem.W.callWith_KW0 (h₀ := X.base) I.ok.mod.kin M.kp hall ?_ hpl
  refine thn (hkw.run pos pins s σ H _ I h) fun ws s2 ⟨zs, H2, I2, rz, lv, ev, q2⟩ => ⟨I2.kIn, ?_⟩
  subst ev
  rw [hks]
  exact run_makeK (us := []) (vs := []) M F hr kb pass0 I2 .nil rz rfl rfl fun y dx hy hd hne => mkS_init q2 hy hd hne
/-! rounds with many lamps -/
theorem nodup_le : ∀ {xs S : List Int}, xs.Nodup → (∀ x ∈ xs, x ∈ S) → xs.length ≤ S.length
  | [], _, _, _ => Nat.zero_le _
  | x :: xs, S, h, hs => by
    cases h with
    | cons h1 h2 =>
      have hx := hs x (List.mem_cons_self ..)
      have ih := nodup_le (xs := xs) (S := S.erase x) h2 fun y hy => by
        have ne : y ≠ x := fun e => h1 y hy e.symm
        exact (List.mem_erase_of_ne ne).mpr (hs y (List.mem_cons_of_mem _ hy))
      rw [List.length_erase_of_mem hx] at ih
      have : 0 < S.length := List.length_pos_of_mem hx
      rw [List.length_cons]
      omega
/-- lamps with the level 1, at each second place -/
def evens (c : Int) (n : Nat) : List (Int × Int) := (List.range n).map fun (k : Nat) => (2 * (k : Int) + c, 1)
theorem evens_rise {lv : Int} (h : 1 < lv) (c : Int) (n : Nat) : Rising lv (evens c n) := by
  refine ⟨?_, fun q hq => ?_⟩
  · unfold evens
    rw [List.map_map, List.pairwise_map]
    exact List.pairwise_lt_range.imp fun z => by
      show 2 * ((_ : Nat) : Int) + c < 2 * ((_ : Nat) : Int) + c
      omega
  · obtain ⟨k, _, rfl⟩ := List.mem_map.mp hq
    exact ⟨Int.le_refl _, h⟩
theorem evens_len (c : Int) (n : Nat) : (evens c n).length = n := by unfold evens; rw [List.length_map, List.length_range]
theorem evens_mem {c : Int} {n : Nat} {p : Int} (h : p ∈ (evens c n).map (·.1)) : ∃ k : Int, p = 2 * k + c := by
  obtain ⟨q, hq, rfl⟩ := List.mem_map.mp h
  obtain ⟨k, _, rfl⟩ := List.mem_map.mp hq
  exact ⟨(k : Int), rfl⟩
theorem evens_sum {lv : Int} (h : 1 < lv) {c : Int} {n : Nat} {p : Int} : sumAt (evens c n) p = if p ∈ (evens c n).map (·.1) then 1 else 0 := by
  by_cases z : p ∈ (evens c n).map (·.1)
  · rw [if_pos z]
    obtain ⟨q, hq, rfl⟩ := List.mem_map.mp z
    rw [(evens_rise h c n).mem hq]
    obtain ⟨k, _, rfl⟩ := List.mem_map.mp hq
    rfl
  · rw [if_neg z, sum_out z]
/-- as many lamps as both have -/
theorem both_len {lv : Int} (h : 1 < lv) {n m : Nat} {ms : List (Int × Int)} (hr : Rising lv ms) (hs : ∀ p, sumAt ms p = partsAt [⟨evens 0 n, 0, 1⟩, ⟨evens 1 m, 0, 1⟩] p % lv) : ms.length = n + m := by
  have mem : ∀ p, p ∈ ms.map (·.1) ↔ p ∈ ((evens 0 n) ++ (evens 1 m)).map (·.1) := fun p => by
    have e := hs p
    rw [then_sum, Int.sub_zero, evens_sum h, evens_sum h] at e
    rw [List.map_append, List.mem_append]
    constructor
    · intro k
      obtain ⟨q, hq, rfl⟩ := List.mem_map.mp k
      have l1 := hr.lv q hq
      rw [hr.mem hq] at e
      by_cases z1 : q.1 ∈ (evens 0 n).map (·.1)
      · exact .inl z1
      · by_cases z2 : q.1 ∈ (evens 1 m).map (·.1)
        · exact .inr z2
        · rw [if_neg z1, if_neg z2, Int.zero_add, Int.zero_emod] at e
          omega
    · intro k
      have ne : sumAt ms p ≠ 0 := by
        rw [e]
        rcases k with z1 | z2
        · rw [if_pos z1, if_neg (fun z2 => by
            obtain ⟨a, ea⟩ := evens_mem z1
            obtain ⟨b, eb⟩ := evens_mem z2
            omega), Int.add_zero, Int.emod_eq_of_lt (by decide) h]
          decide
        · rw [if_pos z2, if_neg (fun z1 => by
            obtain ⟨a, ea⟩ := evens_mem z1
            obtain ⟨b, eb⟩ := evens_mem z2
            omega), Int.zero_add, Int.emod_eq_of_lt (by decide) h]
          decide
      obtain ⟨q, hq, e2⟩ := sum_mem ne
      exact List.mem_map.mpr ⟨q, hq, e2⟩
  have nd : (((evens 0 n) ++ (evens 1 m)).map (·.1)).Nodup := by
    rw [List.map_append, List.nodup_append]
    refine ⟨(evens_rise h 0 n).nd, (evens_rise h 1 m).nd, fun x hx y hy e => ?_⟩
    obtain ⟨a, ea⟩ := evens_mem hx
    obtain ⟨b, eb⟩ := evens_mem hy
    omega
  have a1 := nodup_le hr.nd fun x hx => (mem x).mp hx
  have a2 := nodup_le nd fun x hx => (mem x).mpr hx
  rw [List.length_map, List.length_map, List.length_append, evens_len, evens_len] at a1 a2
  omega
end Lamp
set_option Elab.async false
set_option linter.all false
set_option maxRecDepth 100000
set_option maxHeartbeats 4000000
namespace Lamp
open PySem PySem.Spec PyProof.Rows L2 LamX
abbrev sMany : Stmt := top 55
def qM : Str := (envOfC "_law_many_right" (defScope sMany) 0 0 .none).qual ++ "<lambda>"
abbrev manyN : List Str := ["_law_p", "_law_size", "_law_more", "_law_before", "_law_due", "_law_mine", "_law_wide", "_law_k"]
def spMany (K : PySem.W.Frag) (T : List (Addr × Str)) : Sp := fun vs H Q _ => ∃ (lv : Int) (n m : Nat), vs = [.int lv, .int (n : Int), .int (m : Int)] ∧ goodLv lv ∧ 200 ≤ n ∧ n ≤ 399 ∧ m ≤ 202 ∧ 399 ≤ n + m ∧ n + m ≤ 402 ∧ Tabs T H ∧ ∀ H', ExtN H H' → Tabs T H' → Q (.bl true) H'
theorem even_ext {lv : Int} (h : 1 < lv) {n : Nat} {ms : List (Int × Int)} (hr : Rising lv ms) (hs : ∀ p, sumAt ms p = partsAt [⟨[], 0, 1⟩, ⟨evens 0 n, 0, 1⟩] p % lv) : ms = evens 0 n := hr.ext (evens_rise h 0 n) fun p => by
  rw [hs, then_sum, Int.sub_zero, sumAt_nil, Int.zero_add, evens_sum h]
  split
  · exact Int.emod_eq_of_lt (by decide) h
  · exact Int.zero_emod _
theorem ext_but {H0 H H' : Hp} {l : Addr} (e : ExtN H0 H) (nl : H0 l = none) (b : But l H H') : ExtN H0 H' := fun x o h n => b x o (fun z => by rw [z, nl] at h; cases h) (e x o h n)
theorem pe_bodyW {Y : Cx} {C S xO xT : Addr} {E : XK} {p1 p2 p3 p4 : Pos} (Z : DoT Y.prog Y.w Y.K Y.mg Y.base C S xO xT) (RS : SCls Y.K S) (hr : Room 9 Y.A) (hx : Passes (L2.CX Y.prog Y.w) Y E) (n5 : Y.N[5]? = some ("_law_mine" : Str)) (v5 : Vis Y.env.scope "_law_mine") (n6 : Y.N[6]? = some ("_law_wide" : Str)) (v6 : Vis Y.env.scope "_law_wide")
    (ht : ∃ pl : Sem Bool, eval (.Call (.Attribute (.Name "_law_mine" p1) "do" p2) [.Name "_law_wide" p4] [] p3) Y.env = (do
      let ov ← eval (.Name "_law_mine" p1) Y.env
      standAt p2.atName
      let (f, first) ← holding [ov] (getMethod ov "do" pl)
      callWith p3 f first (backTo p3 (starEach [.Name "_law_wide" p4] Y.env)) (backToKw p3 (keywordEach [] Y.env)))) :
    PE Y (.Call (.Attribute (.Name "_law_mine" p1) "do" p2) [.Name "_law_wide" p4] [] p3) (tMeth S "do" (spDoT Y.K C S xO xT) [] E (tVar 5) (tCons (tVar 6) tNil)) := by
  obtain ⟨pl, ht⟩ := ht
  exact pe_doT Z RS hr hx (pv 5 n5 v5) (pv 6 n6 v6) rfl rfl ht
section
variable {P : Program} {w : World} {K : PySem.W.Frag} {mg : Str → Option Value} {base : Heap} {C S xO xT cA cB cC : Addr}
theorem scMany : FnScope manyN ["_law_p", "_law_size", "_law_more"] (defScope sMany) := ⟨rfl, rfl, rfl, by decide +kernel, rfl, by decide +kernel, by decide +kernel⟩
theorem ok_many {f c Pt : Addr} {fd : FuncData} {T : List (Addr × Str)} (F : Fun K "_law_many_right" "_law_many_right" sMany f fd) (hcd : fd.code = .ref c) (TB : TabB base mg c Pt) (hmT : (Pt, qM) ∈ T) (hu : ∀ p ∈ T, p.1 = Pt → p.2 = qM)
    (RS : SCls K S) (M : MkR P w K mg base C) (mR : mg "Round" = some (.ref C)) (MS : MkS P w K mg base C S) (mS : mg "Street" = some (.ref S)) (Do : DoT P w K mg base C S xO xT) (Tr : PrR P w K mg base S "trip" (spStTrip K C S) 1) (Eq' : EqO P w K mg base C (spEqR K C) 1)
    (Aw : AnsO P w K mg base cA cB cC (spSort K xO xT) 2) (xmT : PySem.W.exmAny K (.ref xT) [.ref cA, .ref cB, .ref cC] = some true) (mr : mg "range" = none) (mst : mg "str" = none) (mt : mg "tuple" = none) : FnG P w K mg base 12 f fd ["_law_p", "_law_size", "_law_more"] (spMany K T) := by
  refine okGC F scMany (fun vs H Q E h => ?_) (fun cdv A outer s H vs Q E hcv hgd hr h => ?_)
  · obtain ⟨lv, n, m, rfl, _⟩ := h
    rfl
  · obtain ⟨lv, n, m, rfl, hg, n2, n3, m2, h399, h402, hT, q⟩ := h
    have hu64 := hr.units
    have hr9 : Room 9 _ := hr.mono (by decide)
    have hr7 : Room 7 _ := hr.mono (by decide)
    have hr5 : Room 5 _ := hr.mono (by decide)
    have hr2 : Room 2 _ := hr.mono (by decide)
    have hr1 : Room 1 _ := hr.mono (by decide)
    have ec : cdv = .ref c := hcv.symm.trans hcd
    subst ec
    refine ⟨_, pss_cons (ps_set (i := 5) scMany.nd rfl (.inr rfl) (pe_mkS MS hr7 rfl mS (pa_cons (pv 0) pa_nil)))
      (pss_cons (ps_expr (pe_doT (E := E0) Do RS hr9 passL (pv 5) (pe_mkR M hr5 rfl mR (pa_cons (pv 0) (pa_cons (pe_callTy call_tupB (by rfl) mt (by decide +kernel) (pa_cons (pe_lc (own := [("_law_k", 7)]) (g := gName 7) (tt := tYes) rfl scMany.nd (pi_range1 rfl mr (pa_cons (pv 1) pa_nil))
          (blkOk_by (own := [("_law_k", 7)]) (N := manyN) (sc := defScope sMany) (by decide +kernel)) (fun _ _ _ _ _ => pg_name (i := 7) scMany.nd rfl (Or.inl rfl)) (fun _ _ _ _ _ => pts_nil)
          (fun _ _ _ _ _ => pe_tup (pa_cons (pe_op op_mul pe_int (pv 7)) (pa_cons pe_int pa_nil)))) pa_nil)) (pa_cons pe_int pa_nil))))))
      (pss_cons (ps_set (i := 3) scMany.nd rfl (.inl rfl) (pe_prS Tr RS (by decide) hr2 (pv 5)))
      (pss_cons (ps_set (i := 6) scMany.nd rfl (.inr rfl) (pe_mkR M hr5 rfl mR (pa_cons (pv 0) (pa_cons (pe_callTy call_tupB (by rfl) mt (by decide +kernel) (pa_cons (pe_lc (own := [("_law_k", 7)]) (g := gName 7) (tt := tYes) rfl scMany.nd (pi_range1 rfl mr (pa_cons (pv 2) pa_nil))
          (blkOk_by (own := [("_law_k", 7)]) (N := manyN) (sc := defScope sMany) (by decide +kernel)) (fun _ _ _ _ _ => pg_name (i := 7) scMany.nd rfl (Or.inl rfl)) (fun _ _ _ _ _ => pts_nil)
          (fun _ _ _ _ _ => pe_tup (pa_cons (pe_op op_add (pe_op op_mul pe_int (pv 7)) pe_int) (pa_cons pe_int pa_nil)))) pa_nil)) (pa_cons pe_int pa_nil)))))
      (pss_cons (ps_set (i := 4) scMany.nd rfl (.inl rfl) (pe_ifExp (pt_cmpR op_le (pe_op op_add (pv 1) (pv 2)) pe_int (nomark _)) (pe_lst (pa_cons pe_str (pa_cons pe_int pa_nil))) (pe_lst (pa_cons pe_str (pa_cons (pe_callTy call_str_int (by rfl) mst (by decide +kernel) (pa_cons (pe_op op_add (pv 1) (pv 2)) pa_nil)) pa_nil)))))
      (pss_one (ps_ret (pe_and (pe_cmpR (op_eqD hu64) (pe_ansO (t := fun E => tMeth S "do" (spDoT K C S xO xT) [] E (tVar 5) (tCons (tVar 6) tNil)) (k := 9) Aw (by decide) hgd hr rfl TB rfl hmT hu (lamS_by (by show lamSB (defScope sMany) _ = true; decide +kernel)) rfl (fun _ _ _ _ _ => rfl)
            (fun A' outer' s' H' E' f' c' hr' => by
              refine pe_bodyW Do RS ?_ ?_ ?_ ?_ ?_ ?_ ?_
              · exact hr'
              · exact passes_lam2
              · rfl
              · exact .inr (.inr rfl)
              · rfl
              · exact .inr (.inr rfl)
              · exact ⟨_, rfl⟩)) (pv 4) (nomark _))
          (pe_one (pe_cmpR op_eq (pe_cmpR (op_eqO Eq' hr1) (pe_prS Tr RS (by decide) hr2 (pv 5)) (pv 3) (nomark _)) (pe_cmpR op_eq (pe_ix ix_list (pv 4) pe_int (fun _ _ => rfl)) pe_str (nomark _)) (nomark _)))))))))), ?_⟩
    have h7 := good_pos hg
    have h0 := h7.1
    have h1 : 1 < lv := by rcases hg with e | e | e | e <;> omega
    refine ⟨_, rfl, lv, rfl, hg, fun a l H1 s1 na nl la hS1 => ?_⟩
    have nlH : H l = none := nl
    have hT1 := hT.ext s1
    dsimp only [gName, List.set, L2.start, List.map, List.length, List.replicate, List.append]
    obtain ⟨⟨dx, st, h1a, _⟩, _⟩ := id hS1
    refine ⟨_, rfl, a, dx, _, rfl, h1a, rfl, ?_⟩
    -- the first round
    refine ⟨_, rfl, _, rfl, (n : Int), rfl, by omega, by omega, fun D hD => ?_⟩
    rw [show ((n : Int)).toNat = n by omega]
    refine lc_range (lo := 0) (n := n) (fun i H' => Same H1 H' ∧ ∃ as : List Addr, H' D = some (.lst (as.map V.ref)) ∧ Paired (fun a (r : Int × Int) => H' a = some (.tup [.int r.1, .int r.2]) ∧ a ≠ D) as (evens 0 i)) ⟨same_of hD, [], upd_same, .nil⟩ (fun i H' hi z => ?_) (fun H' z => ?_)
    · obtain ⟨sa, as, hlD, hpa⟩ := z
      have e1 : (0 : Int) + (i : Int) = (i : Int) := Int.zero_add _
      rw [e1]
      refine ⟨rfl, ?_⟩
      refine ⟨_, rfl, _, _, rfl, rfl, .inl ⟨by decide, by decide⟩, (by show 2 ≤ sizeLine; decide), fun a na => ?_⟩
      have aD : a ≠ D := fun e => by rw [e, hlD] at na; cases na
      have s2 := same_of (o := .tup [V.int (2 * (i : Int)), V.int 1]) na
      refine ⟨as.map V.ref, s2 _ _ hlD, ?_, fun b' o e => ?_, as ++ [a], ?_, ?_⟩
      · have hl1 := Paired.length hpa
        rw [evens_len] at hl1
        rw [List.length_map]
        exact small1000 (by omega)
      · have nb : b' ≠ D := fun z => by rw [z, hD] at e; cases e
        rw [upd_ne nb]
        exact s2 _ _ (sa _ _ e)
      · rw [upd_same, List.map_append]
        rfl
      · unfold evens at hpa ⊢
        rw [List.range_succ, List.map_append]
        refine paired_app (L2.Paired.mapP hpa fun a' r hz => ⟨by rw [upd_ne hz.2]; exact s2 _ _ hz.1, hz.2⟩) (.cons ⟨?_, aD⟩ .nil)
        rw [upd_ne aD, upd_same]
        show some (HO.tup [V.int (2 * (i : Int)), V.int 1]) = some (HO.tup [V.int (2 * (i : Int) + 0), V.int 1])
        rw [Int.add_zero]
    obtain ⟨sa, as, hlD, hpa⟩ := z
    refine ⟨D, _, rfl, SqL.of hlD, fun t1 o1 nt1 ho1 => ?_⟩
    have st1 := same_of (o := .frz o1 (.tup (as.map V.ref))) nt1
    have pic1 : PicB K (upd H' t1 (.frz o1 (.tup (as.map V.ref)))) t1 (evens 0 n) := ⟨as, ⟨o1, upd_same, ho1⟩, L2.Paired.mapP hpa fun a r z => st1 _ _ z.1⟩
    have w1 : IsPicW lv (evens 0 n) := (evens_rise h1 0 n).w (by rw [evens_len]; omega)
    refine ⟨lv, t1, 0, rfl, evens 0 n, hg, pic1.at, w1, fun a1 H4 s4 na1 hr1 => ?_⟩
    have hR1 : RndW K C H4 a1 lv 0 (evens 0 n) := ⟨⟨t1, hr1, (pic1.same s4).at⟩, hg, w1⟩
    have s14 := sa.trans (st1.trans s4)
    have hS4 := hS1.same s14
    have hT4 := hT1.ext s14
    refine ⟨a, l, a1, lv, lv, 0, evens 0 n, [], rfl, hS4, hR1, by decide, fun _ => ⟨fun d H5 b5 e1 e2 e3 e4 hd5 hl5 hS5 => ?_, fun d ms H' hri hs many _ _ => ?_⟩, fun ne => absurd rfl ne⟩
    · obtain ⟨xs4, hl4⟩ := hS4.lst
      have hT5 : Tabs T H5 := tabs_butL hl4 b5 hT4
      have hRL : Rising lv d.Ls := by
        obtain ⟨_, ts, _, hpd⟩ := id hS5
        cases hpd with
        | cons z1 z2 => exact z1.whole.pic.rise
      have eL : d.Ls = evens 0 n := even_ext h1 hRL hd5
      have eF : d.Fin = 0 := e4
      obtain ⟨⟨dx5, st5, h5a, _⟩, _⟩ := id hS5
      dsimp only [tNext]
      refine ⟨_, rfl, a, dx5, _, rfl, h5a, a, l, lv, [d], rfl, hS5, fun r hRr => ?_⟩
      dsimp only [gName, List.set]
      -- the second round
      refine ⟨_, rfl, _, rfl, (m : Int), rfl, by omega, by omega, fun D2 hD2 => ?_⟩
      rw [show ((m : Int)).toNat = m by omega]
      refine lc_range (lo := 0) (n := m) (fun i H' => Same H5 H' ∧ ∃ as : List Addr, H' D2 = some (.lst (as.map V.ref)) ∧ Paired (fun a (r : Int × Int) => H' a = some (.tup [.int r.1, .int r.2]) ∧ a ≠ D2) as (evens 1 i)) ⟨same_of hD2, [], upd_same, .nil⟩ (fun i H' hi z => ?_) (fun H' z => ?_)
      · obtain ⟨sa, as, hlD, hpa⟩ := z
        have e1 : (0 : Int) + (i : Int) = (i : Int) := Int.zero_add _
        rw [e1]
        refine ⟨rfl, ?_⟩
        refine ⟨_, rfl, _, _, rfl, rfl, .inl ⟨by decide, by decide⟩, _, _, rfl, rfl, (by show 2 ≤ sizeLine; decide), fun a na => ?_⟩
        have aD : a ≠ D2 := fun e => by rw [e, hlD] at na; cases na
        have s2 := same_of (o := .tup [V.int (2 * (i : Int) + 1), V.int 1]) na
        refine ⟨as.map V.ref, s2 _ _ hlD, ?_, fun b' o e => ?_, as ++ [a], ?_, ?_⟩
        · have hl1 := Paired.length hpa
          rw [evens_len] at hl1
          rw [List.length_map]
          exact small1000 (by omega)
        · have nb : b' ≠ D2 := fun z => by rw [z, hD2] at e; cases e
          rw [upd_ne nb]
          exact s2 _ _ (sa _ _ e)
        · rw [upd_same, List.map_append]
          rfl
        · unfold evens at hpa ⊢
          rw [List.range_succ, List.map_append]
          refine paired_app (L2.Paired.mapP hpa fun a' r hz => ⟨by rw [upd_ne hz.2]; exact s2 _ _ hz.1, hz.2⟩) (.cons ⟨?_, aD⟩ .nil)
          rw [upd_ne aD, upd_same]
      obtain ⟨sb, as2, hlD2, hpa2⟩ := z
      refine ⟨D2, _, rfl, SqL.of hlD2, fun t2 o2 nt2 ho2 => ?_⟩
      have st2 := same_of (o := .frz o2 (.tup (as2.map V.ref))) nt2
      have pic2 : PicB K (upd H' t2 (.frz o2 (.tup (as2.map V.ref)))) t2 (evens 1 m) := ⟨as2, ⟨o2, upd_same, ho2⟩, L2.Paired.mapP hpa2 fun a r z => st2 _ _ z.1⟩
      have w2 : IsPicW lv (evens 1 m) := (evens_rise h1 1 m).w (by rw [evens_len]; omega)
      refine ⟨lv, t2, 3, rfl, evens 1 m, hg, pic2.at, w2, fun a2 H7 s7 na2 hr2' => ?_⟩
      have hR2 : RndW K C H7 a2 lv 3 (evens 1 m) := ⟨⟨t2, hr2', (pic2.same s7).at⟩, hg, w2⟩
      have s57 := sb.trans (st2.trans s7)
      have hS7 := hS5.same s57
      have hRr7 := hRr.same s57
      have hT7 := hT5.ext s57
      dsimp only [gName, List.set]
      obtain ⟨N, hN⟩ : ∃ N : Nat, n + m = N := ⟨_, rfl⟩
      have eN : (n : Int) + (m : Int) = (N : Int) := by omega
      have hN4 : N = 399 ∨ N = 400 ∨ N = 401 ∨ N = 402 := by omega
      have hrow : ∀ {d2 : List (Int × Int)}, (∀ p, sumAt d2 p = partsAt [⟨lsOf [d], 0, 1⟩, ⟨evens 1 m, finOf [d], 1⟩] p % lv) → ∀ p, sumAt d2 p = partsAt [⟨evens 0 n, 0, 1⟩, ⟨evens 1 m, 0, 1⟩] p % lv := fun z p => by
        have := z p
        rw [show lsOf [d] = d.Ls from rfl, show finOf [d] = d.Fin from rfl, eL, eF] at this
        exact this
      by_cases h400 : N ≤ 400
      · refine ⟨_, rfl, _, rfl, _, _, rfl, rfl, _, _, rfl, rfl, true, (by show V.bl (decide _) = _; rw [decide_eq_true (by omega)]), iteT ?_⟩
        refine ⟨(by show 2 ≤ sizeLine; decide), fun u nu => ?_⟩
        dsimp only [gName, List.set]
        have su := same_of (o := .lst [V.str "back", V.int 3]) nu
        have hu1 := upd_same (H := H7) (a := u) (o := .lst [V.str "back", V.int 3])
        refine ⟨hT7.ext su, fun H8 e8 hT8 f8 => ?_⟩
        have hu8 := e8 _ _ hu1 (fun _ z => by cases z)
        have hS8 := (hS7.same su).ext e8
        have hR28 := rnd_ext (hR2.same su) e8
        have hRr8 := rnd_ext (hRr7.same su) e8
        obtain ⟨⟨dx8, st8, h8a, _⟩, _⟩ := id hS8
        refine ⟨_, rfl, a, dx8, _, rfl, h8a, rfl, _, rfl, a, l, a2, lv, lv, 3, evens 1 m, [d], rfl, hS8, hR28, by show 1 ≤ 64; decide, fun _ => ⟨fun d2 H9 b9 f1 f2 f3 f4 hd9 hl9 hS9 => ?_, fun dd ms H9 hri hs many s9 hd => ?_⟩, fun ne => absurd rfl ne⟩
        · obtain ⟨xs8, hl8⟩ := hS8.lst
          have hRL2 : Rising lv d2.Ls := by
            obtain ⟨_, ts, _, hpd⟩ := id hS9
            cases hpd with
            | cons z1 z2 =>
              cases z2 with
              | cons z3 z4 => exact z3.whole.pic.rise
          have elen := both_len h1 hRL2 (hrow hd9)
          have hRr9 := rnd_but hRr8 hl8 b9
          have hul : u ≠ l := fun z => by rw [z, hl8] at hu8; injection hu8 with hu8; injection hu8 with hu8; obtain ⟨_, ts, h, _⟩ := id hS8; rw [hl8] at h; injection h with h; injection h with h; rw [h] at hu8; cases ts <;> cases hu8
          have hu9 := b9 _ _ hul hu8
          have hT9 := tabs_butL hl8 b9 hT8
          refine back_run fun lr nlr => ?_
          have sr := same_of (o := .lst [V.str "back", V.int (finOf [d] + 3)]) nlr
          have hS10 := hS9.same sr
          have hRr10 := hRr9.same sr
          have hu10 := sr _ _ hu9
          have hlr10 := upd_same (H := H9) (a := lr) (o := .lst [V.str "back", V.int (finOf [d] + 3)])
          have hT10 := hT9.ext sr
          have eF2 : finOf [d] + 3 = 3 := by rw [show finOf [d] = d.Fin from rfl, eF]; rfl
          generalize upd H9 lr (.lst [V.str "back", V.int (finOf [d] + 3)]) = H10 at *
          rw [eF2] at hlr10
          refine ⟨_, rfl, .list [.str "back", .int 3], .list [.str "back", .int 3], .lst (SqL.of hlr10) (.cons (.str _) (.cons (.int _) .nil)), .lst (SqL.of hu10) (.cons (.str _) (.cons (.int _) .nil)), by decide +kernel, by decide +kernel, ?_⟩
          refine ⟨true, by decide +kernel, iteT ?_⟩
          obtain ⟨⟨dx10, st10, h10a, _⟩, _⟩ := id hS10
          refine ⟨_, rfl, a, dx10, _, rfl, h10a, a, l, lv, [d, d2], rfl, hS10, fun r2 hRr2 => ?_⟩
          obtain ⟨⟨tr, hr1', hp1'⟩, _, _⟩ := id hRr10
          obtain ⟨⟨tr2, hr2', hp2'⟩, _, _⟩ := id hRr2
          obtain ⟨dxr, hxr⟩ := id hr1'
          obtain ⟨dxr2, hxr2⟩ := id hr2'
          refine ⟨_, rfl, r2, r, dxr2, dxr, _, _, rfl, rfl, hxr2, hxr, r2, r, tr2, tr, lv, _, lv, _, _, _, rfl, hr2', hr1', hp2', hp1', _, rfl, ?_⟩
          refine ⟨_, rfl, u, _, 0, .str "back", rfl, rfl, SqL.of hu10, rfl, rfl, rfl, ?_⟩
          have f4' : finOf [d, d2] = 3 := by
            show d2.Fin = 3
            rw [f4]
            exact eF2
          have eF0 : finOf [d] = 0 := eF
          have ek : decide (lv = lv ∧ lsOf [d, d2] = lsOf [d] ∧ finOf [d, d2] = finOf [d]) = false := decide_eq_false fun z => by
            have := z.2.2
            rw [f4', eF0] at this
            cases this
          rw [ek]
          have e5 : ExtN H H5 := ext_but ((ext_same s1).trans (ext_same s14)) nlH b5
          have e9 : ExtN H H9 := ext_but (e5.trans ((ext_same (s57.trans su)).trans e8)) nlH b9
          exact q _ (e9.trans (ext_same sr)) hT10
        · have := both_len h1 hri (hrow hs)
          omega
      · refine ⟨_, rfl, _, rfl, _, _, rfl, rfl, _, _, rfl, rfl, false, (by show V.bl (decide _) = _; rw [decide_eq_false (by omega)]), iteF ?_⟩
        refine ⟨_, rfl, _, rfl, _, _, rfl, rfl, _, rfl, ?_, (by show 2 ≤ sizeLine; decide), fun u nu => ?_⟩
        · rw [eN]
          rcases hN4 with h | h | h | h <;> rw [h] <;> decide +kernel
        dsimp only [gName, List.set]
        rw [eN]
        have su := same_of (o := .lst [V.str "TooMany", V.str (nS (N : Int))]) nu
        have hu1 := upd_same (H := H7) (a := u) (o := .lst [V.str "TooMany", V.str (nS (N : Int))])
        refine ⟨hT7.ext su, fun H8 e8 hT8 f8 => ?_⟩
        have hu8 := e8 _ _ hu1 (fun _ z => by cases z)
        have hS8 := (hS7.same su).ext e8
        have hR28 := rnd_ext (hR2.same su) e8
        have hRr8 := rnd_ext (hRr7.same su) e8
        obtain ⟨⟨dx8, st8, h8a, _⟩, _⟩ := id hS8
        refine ⟨_, rfl, a, dx8, _, rfl, h8a, rfl, _, rfl, a, l, a2, lv, lv, 3, evens 1 m, [d], rfl, hS8, hR28, by show 1 ≤ 64; decide, fun _ => ⟨fun d2 H9 b9 f1 f2 f3 f4 hd9 hl9 hS9 => ?_, fun dd ms H9 hri hs many s9 hd => ?_⟩, fun ne => absurd rfl ne⟩
        · have hRL2 : Rising lv d2.Ls := by
            obtain ⟨_, ts, _, hpd⟩ := id hS9
            cases hpd with
            | cons z1 z2 =>
              cases z2 with
              | cons z3 z4 => exact z3.whole.pic.rise
          have elen := both_len h1 hRL2 (hrow hd9)
          omega
        · have el : ms.length = N := (both_len h1 hri (hrow hs)).trans hN
          rw [el] at hd
          have okN : okD (.int (N : Int)) = true := by rcases hN4 with h | h | h | h <;> rw [h] <;> decide +kernel
          refine ⟨xT, rfl, xmT, fun ea nea => ⟨rfl, dd, "given", "TooMany", .int (N : Int), .int (N : Int), rfl, .inr ⟨rfl, rfl, rfl⟩, hd, .plain (.int _), okN, fun lr H10 s10 nlr hlr => ?_⟩⟩
          have hS10 := (hS8.same s9).same s10
          have hRr10 := (hRr8.same s9).same s10
          have hu10 := s10 _ _ (s9 _ _ hu8)
          have hT10 := (hT8.ext s9).ext s10
          refine ⟨_, rfl, .list [.str "TooMany", .str (PyData.int (N : Int)).shown], .list [.str "TooMany", .str (nS (N : Int))], .lst (SqL.of hlr) (.cons (.str _) (.cons (.str _) .nil)), .lst (SqL.of hu10) (.cons (.str _) (.cons (.str _) .nil)), ?_, ?_, ?_⟩
          · rcases hN4 with h | h | h | h <;> rw [h] <;> decide +kernel
          · rcases hN4 with h | h | h | h <;> rw [h] <;> decide +kernel
          have ee : PyData.eqv (.list [.str "TooMany", .str (PyData.int (N : Int)).shown]) (.list [.str "TooMany", .str (nS (N : Int))]) = true := by rcases hN4 with h | h | h | h <;> rw [h] <;> decide +kernel
          rw [ee]
          refine ⟨true, rfl, iteT ?_⟩
          obtain ⟨⟨dx10, st10, h10a, _⟩, _⟩ := id hS10
          refine ⟨_, rfl, a, dx10, _, rfl, h10a, a, l, lv, [d], rfl, hS10, fun r2 hRr2 => ?_⟩
          obtain ⟨⟨tr, hr1', hp1'⟩, _, _⟩ := id hRr10
          obtain ⟨⟨tr2, hr2', hp2'⟩, _, _⟩ := id hRr2
          obtain ⟨dxr, hxr⟩ := id hr1'
          obtain ⟨dxr2, hxr2⟩ := id hr2'
          refine ⟨_, rfl, r2, r, dxr2, dxr, _, _, rfl, rfl, hxr2, hxr, r2, r, tr2, tr, lv, _, lv, _, _, _, rfl, hr2', hr1', hp2', hp1', _, rfl, ?_⟩
          refine ⟨_, rfl, u, _, 0, .str "TooMany", rfl, rfl, SqL.of hu10, rfl, rfl, rfl, ?_⟩
          have ek : decide (lv = lv ∧ lsOf [d] = lsOf [d] ∧ finOf [d] = finOf [d]) = true := decide_eq_true ⟨rfl, rfl, rfl⟩
          rw [ek]
          have e5 : ExtN H H5 := ext_but ((ext_same s1).trans (ext_same s14)) nlH b5
          exact q _ ((e5.trans ((ext_same (s57.trans su)).trans e8)).trans (ext_same (s9.trans s10))) hT10
    · have e := even_ext h1 hri hs
      rw [e, evens_len] at many
      omega
end
end Lamp
set_option Elab.async false
set_option linter.all false
set_option maxRecDepth 100000
set_option maxHeartbeats 1000000
namespace Lamp
open PySem PySem.Spec PyProof.Rows L2 LamX
/-! defs that may raise, called by keywords alone, in the opposite order -/
structure DrBX (P : Program) (w : World) (K : PySem.W.Frag) (mg : Str → Option Value) (base : Heap) (sp : Sp) (x : Str) (ps : List Str) (k : Nat) : Prop where
  ex : ∃ (f : Addr) (fd : FuncData), FnOk P w K mg base (L2.CX P w) k f fd ps sp ∧ (∀ (s : Shared) (us : List Value), us.length = ps.length → BindsTo s fd ⟨[], ps.reverse.zip us⟩ (ps.zip us.reverse)) ∧ mg x = some (.ref f) ∧ PySem.W.keepIn K (.ref f) = true
def tCallBX (sp : Sp) (E : XK) (tk : TA) : TE := fun σ H Q => tk σ H fun zs H1 => sp zs.reverse H1 Q E
section
variable {X : Cx} {sp : Sp} {x : Str} {ps : List Str} {k j : Nat} {tk : TA} {p pos : Pos} {kws : List Keyword} {E : XK}
theorem pe_drBX (Z : DrBX X.prog X.w X.K X.mg X.base sp x ps k) (hk : k ≤ j) (hr : Room j X.A) (hg : Gl X x) (hx : Passes (L2.CX X.prog X.w) X E) (hkw : PK X kws tk)
    (hall : (backToKw pos (keywordEach kws X.env)).all (·.1.isSome) = true := by rfl) (hks : (backToKw pos (keywordEach kws X.env)).filterMap (·.1) = ps.reverse := by rfl) (hdb : (x == ("__debug__" : Str)) = false := by decide)
    (hpl : ((backTo pos (starEach [] X.env)).any (·.1) || (backToKw pos (keywordEach kws X.env)).any (·.1.isNone)) = false := by rfl) : PE X (.Call (.Name x p) [] kws pos) (tCallBX sp E tk) := by
  obtain ⟨f, fd, F, b, m, kp⟩ := Z.ex
  refine ⟨fun pins s σ H Q I h => ?_⟩
  refine wpAny_Call_Name_kw (ld_glob I hg m ?_ hdb)
  refine PySem.W.callWith_KW0 (h₀ := X.base) I.ok.mod.kin kp hall ?_ hpl
  refine thn (hkw.run pos pins s σ H _ I h) fun ws s2 ⟨zs, H2, I2, rz, q⟩ => ⟨I2.kIn, ?_⟩
  rw [hks]
  have r2 := vals_rev rz
  have hl : ws.reverse.length = ps.length := by rw [← r2.length]; exact F.len _ _ _ _ q
  refine wpAny_call (codeAny_mono (F.run X.A X.stack s2 H2 ⟨[], ps.reverse.zip ws⟩ ws.reverse zs.reverse Q E (hr.mono hk) I2.env0 (b s2 ws (by rw [← hl, List.length_reverse])) r2 q) fun res s' told => ?_)
  match res, told with
  | .error e, told => exact hx pins σ H2 s2 e s' I2 told
  | .ok (.ret u), told => exact I2.after told
  | .ok .next, told => exact False.elim told
  | .ok .brk, told => exact False.elim told
  | .ok .cont, told => exact False.elim told
end
end Lamp
set_option Elab.async false
set_option linter.all false
set_option maxRecDepth 100000
set_option maxHeartbeats 1000000
namespace Lamp
open PySem PySem.Spec PyProof.Rows L2 LamX
/-! two streets, led by turns -/
def put' {α : Type} (f : Nat → α) (k : Nat) (v : α) : Nat → α := fun j => if j = k then v else f j
theorem put_at {α : Type} {f : Nat → α} {k : Nat} {v : α} : put' f k v k = v := if_pos rfl
theorem put_ne {α : Type} {f : Nat → α} {k j : Nat} {v : α} (h : j ≠ k) : put' f k v j = f j := if_neg h
/-- what stands apart, once for all -/
structure Sep (p g b : Addr) (l m c : Nat → Addr) : Prop where
  gp : g ≠ p
  bp : b ≠ p
  cp : ∀ j < 2, c j ≠ p
  lp : ∀ j < 2, l j ≠ p
  mp : ∀ j < 2, m j ≠ p
  gl : ∀ j < 2, g ≠ l j
  gm : ∀ j < 2, g ≠ m j
  bl : ∀ j < 2, b ≠ l j
  bm : ∀ j < 2, b ≠ m j
  cl : ∀ i < 2, ∀ j < 2, c i ≠ l j
  cm : ∀ i < 2, ∀ j < 2, c i ≠ m j
  ml : ∀ i < 2, ∀ j < 2, m i ≠ l j
  ll : ∀ i < 2, ∀ j < 2, i ≠ j → l i ≠ l j
  mm : ∀ i < 2, ∀ j < 2, i ≠ j → m i ≠ m j
abbrev PX (K : PySem.W.Frag) (H : Hp) (lv : Int) (q : Addr) (x : Int × List (Int × Int)) : Prop := PartsB K H q lv x.1 x.2
/-- one of them -/
structure OneS (K : PySem.W.Frag) (C S : Addr) (H0 H : Hp) (p a l m : Addr) (lv : Int) (ds : List Deed) (xs : List (Int × List (Int × Int))) (ps : List Addr) : Prop where
  st : StAt K C S H a l lv ds
  ch : Chain lv ds
  li : H m = some (.lst (ps.map V.ref))
  pa : Paired (PX K H lv) ps xs
  qp : ∀ q ∈ ps, q ≠ p
  nl : H0 l = none
  nm : H0 m = none
section
variable {K : PySem.W.Frag} {C S : Addr} {H0 H H' : Hp} {p a l m q x : Addr} {lv : Int} {ds : List Deed} {d : Deed} {xs : List (Int × List (Int × Int))} {ps : List Addr} {ys : List V}
theorem parts_nl {lv' fin : Int} {ls : List (Int × Int)} {qs : List Addr} (h : PartsB K H q lv' fin ls) (hm : H m = some (.lst (qs.map V.ref))) : q ≠ m := by
  rintro rfl
  obtain ⟨⟨t, h1, _⟩, _⟩ := h
  rw [h1] at hm
  cases qs with
  | nil => cases hm
  | cons x xs => cases hm
theorem px_but {ps : List Addr} {xs : List (Int × List (Int × Int))} (hx : H x = some (.lst ys)) (b : But x H H') (h : Paired (PX K H lv) ps xs) (ne : ∀ q ∈ ps, q ≠ x) : Paired (PX K H' lv) ps xs := by
  induction h with
  | nil => exact .nil
  | cons h t ih => exact .cons (PartsB.but h (ne _ (List.mem_cons_self ..)) hx b) (ih fun q z => ne q (List.mem_cons_of_mem _ z))
theorem px_ne (f : ∀ q fin ls, PartsB K H q lv fin ls → q ≠ m) : ∀ {ps : List Addr} {xs : List (Int × List (Int × Int))}, Paired (PX K H lv) ps xs → ∀ q ∈ ps, q ≠ m
  | _, _, .nil => fun q z => nomatch z
  | _, _, .cons h t => fun q z => by
    rcases List.mem_cons.mp z with e | e
    · rw [e]; exact f _ _ _ h
    · exact px_ne f t q e
theorem px_of : ∀ {ps : List Addr} {ds : List Deed}, Paired (PX K H lv) ps (ds.map fun d => (d.fin, d.ls)) → Paired (PartOf K H lv) ps ds
  | _, [], h => by cases h; exact .nil
  | _, d :: ds, h => by
    cases h with
    | cons h1 h2 => exact .cons h1 (px_of h2)
theorem OneS.same (h : OneS K C S H0 H p a l m lv ds xs ps) (s : Same H H') : OneS K C S H0 H' p a l m lv ds xs ps :=
  ⟨h.st.same s, h.ch, s _ _ h.li, L2.Paired.mapP h.pa fun _ _ z => z.same s, h.qp, h.nl, h.nm⟩
theorem OneS.ext (h : OneS K C S H0 H p a l m lv ds xs ps) (e : ExtN H H') : OneS K C S H0 H' p a l m lv ds xs ps :=
  ⟨h.st.ext e, h.ch, e _ _ h.li (fun _ z => by cases z), L2.Paired.mapP h.pa fun _ _ z => PartsB.ext z e, h.qp, h.nl, h.nm⟩
/-- a list that is another's grows -/
theorem OneS.but (h : OneS K C S H0 H p a l m lv ds xs ps) (hx : H x = some (.lst ys)) (b : But x H H') (lx : l ≠ x) (mx : m ≠ x) (qx : ∀ q ∈ ps, q ≠ x) : OneS K C S H0 H' p a l m lv ds xs ps :=
  ⟨h.st.butp hx lx b, h.ch, b _ _ mx h.li, px_but hx b h.pa qx, h.qp, h.nl, h.nm⟩
theorem OneS.notlist (h : OneS K C S H0 H p a l m lv ds xs ps) {qs : List Addr} (hm : H x = some (.lst (qs.map V.ref))) : ∀ q ∈ ps, q ≠ x := px_ne (fun q fin ls z => parts_nl z hm) h.pa
end
/-- both -/
structure Two (K : PySem.W.Frag) (C S : Addr) (T : List (Addr × Str)) (H0 H : Hp) (p g b : Addr) (a l m c : Nat → Addr) (lv : Nat → Int) (ds : Nat → List Deed) (xs : Nat → List (Int × List (Int × Int))) (ps : Nat → List Addr) : Prop where
  sep : Sep p g b l m c
  bt : ButN p H0 H
  pail : Pail H p
  tabs : Tabs T H
  one : ∀ j < 2, OneS K C S H0 H p (a j) (l j) (m j) (lv j) (ds j) (xs j) (ps j)
  gd : ∀ j < 2, goodLv (lv j)
  hg : H g = some (.lst [.ref (c 0), .ref (c 1)])
  hb : H b = some (.lst [.int (lv 0), .int (lv 1)])
  hc : ∀ j < 2, H (c j) = some (.lst [.ref (a j), .ref (m j)])
section
variable {K : PySem.W.Frag} {C S : Addr} {T : List (Addr × Str)} {H0 H H' : Hp} {p g b q x : Addr} {a l m c : Nat → Addr} {lv : Nat → Int} {ds : Nat → List Deed} {d : Deed} {xs : Nat → List (Int × List (Int × Int))} {ps : Nat → List Addr} {ys : List V} {k : Nat}
theorem Two.same (h : Two K C S T H0 H p g b a l m c lv ds xs ps) (s : Same H H') : Two K C S T H0 H' p g b a l m c lv ds xs ps :=
  ⟨h.sep, h.bt.trans (ButN.of (But.of s)), h.pail.same s, h.tabs.ext s, fun j hj => (h.one j hj).same s, h.gd, s _ _ h.hg, s _ _ h.hb, fun j hj => s _ _ (h.hc j hj)⟩
theorem Two.ext (h : Two K C S T H0 H p g b a l m c lv ds xs ps) (e : ExtN H H') (t : Tabs T H') : Two K C S T H0 H' p g b a l m c lv ds xs ps :=
  ⟨h.sep, h.bt.trans (ButN.ext e), h.pail.ext e, t, fun j hj => (h.one j hj).ext e, h.gd, e _ _ h.hg (fun _ z => by cases z), e _ _ h.hb (fun _ z => by cases z), fun j hj => e _ _ (h.hc j hj) (fun _ z => by cases z)⟩
theorem Two.butp (h : Two K C S T H0 H p g b a l m c lv ds xs ps) (hp : Pail H' p) (bb : But p H H') : Two K C S T H0 H' p g b a l m c lv ds xs ps := by
  obtain ⟨ys, e⟩ := pail_lst h.pail
  exact ⟨h.sep, h.bt.trans (ButN.of bb), hp, tabs_butL e bb h.tabs, fun j hj => (h.one j hj).but e bb (h.sep.lp j hj) (h.sep.mp j hj) (h.one j hj).qp, h.gd, bb _ _ h.sep.gp h.hg, bb _ _ h.sep.bp h.hb, fun j hj => bb _ _ (h.sep.cp j hj) (h.hc j hj)⟩
/-- one of the law's lists grows -/
theorem Two.app (h : Two K C S T H0 H p g b a l m c lv ds xs ps) (hk : k < 2) {fin : Int} {ls : List (Int × Int)} (hq : PartsB K H q (lv k) fin ls) (qp : q ≠ p) :
    Two K C S T H0 (upd H (m k) (.lst ((ps k ++ [q]).map V.ref))) p g b a l m c lv ds (put' xs k (xs k ++ [(fin, ls)])) (put' ps k (ps k ++ [q])) := by
  have hm := (h.one k hk).li
  have bb : But (m k) H (upd H (m k) (.lst ((ps k ++ [q]).map V.ref))) := But.at
  refine ⟨h.sep, butN_l h.bt (h.one k hk).nm (h.sep.mp k hk) bb, pail_but h.pail (Ne.symm (h.sep.mp k hk)) bb, tabs_butL hm bb h.tabs, fun j hj => ?_, h.gd, bb _ _ (h.sep.gm k hk) h.hg, bb _ _ (h.sep.bm k hk) h.hb, fun j hj => bb _ _ (h.sep.cm j hj k hk) (h.hc j hj)⟩
  by_cases e : j = k
  · subst e
    rw [put_at, put_at]
    have o := h.one j hj
    refine ⟨o.st.butp hm (Ne.symm (h.sep.ml j hj j hj)) bb, o.ch, upd_same, ?_, ?_, o.nl, o.nm⟩
    · exact paired_app (px_but hm bb o.pa (o.notlist hm)) (.cons (PartsB.but hq (parts_nl hq hm) hm bb) .nil)
    · intro x hx
      rcases List.mem_append.mp hx with z | z
      · exact o.qp x z
      · rw [List.mem_singleton.mp z]; exact qp
  · rw [put_ne e, put_ne e]
    exact (h.one j hj).but hm bb (Ne.symm (h.sep.ml k hk j hj)) (h.sep.mm j hj k hk e) ((h.one j hj).notlist hm)
/-- one of them does a round -/
theorem Two.did (h : Two K C S T H0 H p g b a l m c lv ds xs ps) (hk : k < 2) (bb : But (l k) H H') (hS : StAt K C S H' (a k) (l k) (lv k) (ds k ++ [d])) (hc : Chain (lv k) (ds k ++ [d])) :
    Two K C S T H0 H' p g b a l m c lv (put' ds k (ds k ++ [d])) xs ps := by
  obtain ⟨_, ts, hl, _⟩ := id (h.one k hk).st
  refine ⟨h.sep, butN_l h.bt (h.one k hk).nl (h.sep.lp k hk) bb, pail_but h.pail (Ne.symm (h.sep.lp k hk)) bb, tabs_butL hl bb h.tabs, fun j hj => ?_, h.gd, bb _ _ (h.sep.gl k hk) h.hg, bb _ _ (h.sep.bl k hk) h.hb, fun j hj => bb _ _ (h.sep.cl j hj k hk) (h.hc j hj)⟩
  by_cases e : j = k
  · subst e
    rw [put_at]
    have o := h.one j hj
    exact ⟨hS, hc, bb _ _ (h.sep.ml j hj j hj) o.li, px_but hl bb o.pa (o.notlist hl), o.qp, o.nl, o.nm⟩
  · rw [put_ne e]
    exact (h.one j hj).but hl bb (h.sep.ll j hj k hk e) (h.sep.ml j hj k hk) ((h.one j hj).notlist hl)
end
/-- no more lamps than both have -/
theorem then_few {lv : Int} (h0 : 0 < lv) {ls ls' ms : List (Int × Int)} {fin : Int} (hr : Rising lv ms) (hs : ∀ p, sumAt ms p = partsAt [⟨ls, 0, 1⟩, ⟨ls', fin, 1⟩] p % lv) : ms.length ≤ ls.length + ls'.length := by
  have z := nodup_le (xs := ms.map (·.1)) (S := ls.map (·.1) ++ ls'.map (fun q => q.1 + fin)) hr.nd fun x hx => by
    obtain ⟨q, hq, rfl⟩ := List.mem_map.mp hx
    have e := hs q.1
    rw [hr.mem hq, then_sum] at e
    have lv1 := hr.lv q hq
    by_cases z1 : sumAt ls q.1 = 0
    · by_cases z2 : sumAt ls' (q.1 - fin) = 0
      · rw [z1, z2, Int.add_zero, Int.zero_emod] at e
        omega
      · obtain ⟨s, hs, es⟩ := sum_mem z2
        exact List.mem_append_right _ (List.mem_map.mpr ⟨s, hs, by omega⟩)
    · obtain ⟨s, hs, es⟩ := sum_mem z1
      exact List.mem_append_left _ (List.mem_map.mpr ⟨s, hs, es⟩)
  rw [List.length_append, List.length_map, List.length_map, List.length_map] at z
  exact z
/-- where the parts of a round end -/
def finA (H : Hp) (q : Addr) : Int := match H q with
  | some (.lst [_, _, .int n]) => n
  | _ => 0
theorem finA_at {K : PySem.W.Frag} {H : Hp} {lv fin : Int} {ls : List (Int × Int)} {q : Addr} (h : PartsB K H q lv fin ls) : ∃ t, H q = some (.lst [.int lv, .ref t, .int fin]) ∧ finA H q = fin := by
  obtain ⟨⟨t, h1, _⟩, _⟩ := h
  exact ⟨t, h1, by unfold finA; rw [h1]⟩
theorem fins_eq {K : PySem.W.Frag} {H : Hp} {lv : Int} : ∀ {ps : List Addr} {xs : List (Int × List (Int × Int))}, Paired (PX K H lv) ps xs → ps.map (finA H) = xs.map (·.1)
  | _, _, .nil => rfl
  | _, _, .cons h t => by
    obtain ⟨_, _, e⟩ := finA_at h
    rw [List.map_cons, List.map_cons, e, fins_eq t]
theorem chain_sum {lv : Int} {ds : List Deed} (h : Chain lv ds) : (ds.map (·.fin)).sum = finOf ds := by
  induction h with
  | nil => rfl
  | snoc a b c g i j l ih =>
    rename_i es d
    rw [List.map_append, List.sum_append, ih, finOf_last, i]
    show _ + (d.fin + 0) = _
    omega
theorem ints_rel {ys : List V} {zs : List Int} (h : Paired (fun v (z : Int) => v = V.int z) ys zs) : ys = zs.map V.int := by
  induction zs generalizing ys with
  | nil => cases h; rfl
  | cons z zs ih =>
    cases h with
    | cons e t => rw [e, ih t]; rfl
theorem filterMap_some {α β : Type} {f : α → β} (l : List α) : l.filterMap (fun x => some (f x)) = l.map f := by
  induction l with
  | nil => rfl
  | cons x l ih => rw [List.filterMap_cons, ih]; rfl
end Lamp
set_option Elab.async false
set_option linter.all false
set_option maxRecDepth 100000
set_option maxHeartbeats 4000000
namespace Lamp
open PySem PySem.Spec PyProof.Rows L2 LamX
abbrev sRight : Stmt := top 56
abbrev sLaw : Stmt := top 57
def qR : Str := (envOfC "_law_right" (defScope sRight) 0 0 .none).qual ++ "<lambda>"
def spRight (K : PySem.W.Frag) (T : List (Addr × Str)) : Sp := fun vs H Q _ => ∃ (p : Addr), vs = [.ref p] ∧ Pail H p ∧ Tabs T H ∧ ∀ H', ButN p H H' → Tabs T H' → Q (.bl true) H'
abbrev rightN : List Str := ["_law_pail", "_law_ps", "_law_pairs_here", "_law_k", "_law_done_here", "_law_due", "_law_got", "_law_size", "_law_mine", "_law_parts", "_law_turn", "_law_each", "_law_j"]
abbrev rInt1 : List V → Hp → VK → Prop := fun xs H Q => (∃ i, xs = [.int i] ∧ Q (.int i) H) ∨ ∃ k, xs = [.bl k] ∧ Q (.int (if k then 1 else 0)) H
def tBodyT (K : PySem.W.Frag) (C S xO xT : Addr) (E : XK) : TE := tIf (tTest (tOp rEq (tOp (rI (fun _ j => 0 < j) fun i j => .int (i % j)) (tCB rInt1 (tCons (tVar 10) tNil)) (tC (.int 2))) (tC (.int 0)))) (tMeth S "do" (spDoT K C S xO xT) [] E (tVar 8) (tCons (tCallG (spOf K C) (tCons (tVar 9) tNil)) tNil)) (tMeth S "do" (spDoT K C S xO xT) [] E (tVar 8) (tCons (tCallG (spOf K C) (tCons (tVar 9) tNil)) tNil))
def pick {α : Type} (x y : α) : Nat → α := fun j => if j = 0 then x else y
theorem pe_bodyT {Y : Cx} {C S xO xT : Addr} {E : XK} {j1 j2 : Nat} {p1 p2 p3 p4 p5 p6 p7 p8 q1 q2 q3 q4 q5 q6 r1 r2 r3 r4 r5 r6 r7 : Pos} (Z : DoT Y.prog Y.w Y.K Y.mg Y.base C S xO xT) (RS : SCls Y.K S) (Of : Dr Y.prog Y.w Y.K Y.mg Y.base (spOf Y.K C) "_law_of" ["_law_parts"] 6) (mi : Y.mg "int" = none) (hr : Room 10 Y.A) (hx : Passes (L2.CX Y.prog Y.w) Y E) (g1 : Gl Y "_law_of") (g2 : Gl Y "int")
    (n8 : Y.N[8]? = some ("_law_mine" : Str)) (v8 : Vis Y.env.scope "_law_mine") (n9 : Y.N[9]? = some ("_law_parts" : Str)) (v9 : Vis Y.env.scope "_law_parts") (n10 : Y.N[10]? = some ("_law_turn" : Str)) (v10 : Vis Y.env.scope "_law_turn")
    (ht : ∃ pl : Sem Bool, eval (.Call (.Attribute (.Name "_law_mine" q1) "do" q2) [.Call (.Name "_law_of" q3) [.Name "_law_parts" q4] [] q5] [] q6) Y.env = (do
      let ov ← eval (.Name "_law_mine" q1) Y.env
      standAt q2.atName
      let (f, first) ← holding [ov] (getMethod ov "do" pl)
      callWith q6 f first (backTo q6 (starEach [.Call (.Name "_law_of" q3) [.Name "_law_parts" q4] [] q5] Y.env)) (backToKw q6 (keywordEach [] Y.env))))
    (ht2 : ∃ pl : Sem Bool, eval (.Call (.Attribute (.Name "_law_mine" r1) "do" r2) [] [⟨some "trip", .Call (.Name "_law_of" r3) [.Name "_law_parts" r4] [] r5, r6⟩] r7) Y.env = (do
      let ov ← eval (.Name "_law_mine" r1) Y.env
      standAt r2.atName
      let (f, first) ← holding [ov] (getMethod ov "do" pl)
      callWith r7 f first (backTo r7 (starEach [] Y.env)) (backToKw r7 (keywordEach [⟨some "trip", .Call (.Name "_law_of" r3) [.Name "_law_parts" r4] [] r5, r6⟩] Y.env)))) :
    PE Y (.IfExp (.Compare (.BinOp (.Call (.Name "int" p1) [.Name "_law_turn" p2] [] p3) .Mod (.Constant (.int 2) j1 p4) p5) [.Eq] [.Constant (.int 0) j2 p6] p7)
      (.Call (.Attribute (.Name "_law_mine" q1) "do" q2) [.Call (.Name "_law_of" q3) [.Name "_law_parts" q4] [] q5] [] q6)
      (.Call (.Attribute (.Name "_law_mine" r1) "do" r2) [] [⟨some "trip", .Call (.Name "_law_of" r3) [.Name "_law_parts" r4] [] r5, r6⟩] r7) p8) (tBodyT Y.K C S xO xT E) := by
  obtain ⟨pl, ht⟩ := ht
  obtain ⟨pl2, ht2⟩ := ht2
  exact pe_ifExp (pt_cmpR op_eq (pe_op op_mod (pe_callTy call_int1 g2 mi (by decide +kernel) (pa_cons (pv 10 n10 v10) pa_nil)) pe_int) pe_int (nomark _))
    (pe_doT Z RS (hr.mono (by decide)) hx (pv 8 n8 v8) (pe_dr Of (by decide) hr g1 (pa_cons (pv 9 n9 v9) pa_nil)) rfl rfl ht)
    (pe_doTK Z RS (hr.mono (by decide)) hx (pv 8 n8 v8) (pe_dr Of (by decide) hr g1 (pa_cons (pv 9 n9 v9) pa_nil)) ht2)
theorem back_okD {n : Int} (h : n.natAbs < 10 ^ 42) : okD (.list [.str "back", .int n]) = true := by
  have hl := nS_lenW h
  have hs : (PyData.list [.str "back", .int n]).showable = true := by
    show (true && (decide (n.natAbs.log2 < 1920) && true)) = true
    rw [decide_eq_true (fits_log h)]
    rfl
  have hd : (PyData.list [.str "back", .int n]).depth ≤ 60 := by
    show max 0 (max 0 0) + 1 ≤ 60
    decide
  have hk : PyData.leavesShort 43 (PyData.list [.str "back", .int n]) = true := by
    show (((Str.ofString "back").cps.toList.all fun c => decide (c < 16 ^ 8)) && (decide ((nS n).length ≤ 43) && true)) = true
    rw [decide_eq_true hl]
    decide +kernel
  have z := PyData.shown_le 43 (by decide) _ hk
  have hw : (PyData.list [.str "back", .int n]).weight ≤ 1000 := by
    have e : (PyData.list [.str "back", .int n]).weight = 4 + 1 + (PyData.weight (.int n) + 1 + 0) := rfl
    have := wt_i h
    omega
  have hl2 : (16000000 : Nat) ≤ sizeLine := by decide
  have : (43 + 2) * (PyData.list [.str "back", .int n]).weight ≤ 45 * 1000 := Nat.mul_le_mul (Nat.le_refl _) hw
  unfold okD
  rw [hs, decide_eq_true hd, decide_eq_true (by omega)]
  rfl
theorem bodyT_run {K : PySem.W.Frag} {C S xO xT : Addr} {E : XK} {σ : L2.St} {H : Hp} {Q : VK} {i : Int} (h10 : σ[10]? = some (some (.int i))) (h : tMeth S "do" (spDoT K C S xO xT) [] E (tVar 8) (tCons (tCallG (spOf K C) (tCons (tVar 9) tNil)) tNil) σ H Q) : tBodyT K C S xO xT E σ H Q := by
  refine ⟨_, h10, .inl ⟨i, rfl, _, _, rfl, rfl, (by show (0 : Int) < 2; decide), rfl, _, rfl, ?_⟩⟩
  dsimp only
  split <;> exact h
section
variable {P : Program} {w : World} {K : PySem.W.Frag} {mg : Str → Option Value} {base : Heap} {C S xO xT cA cB cC : Addr}
theorem scRight : FnScope rightN ["_law_pail"] (defScope sRight) := ⟨rfl, rfl, rfl, by decide +kernel, rfl, by decide +kernel, by decide +kernel⟩
theorem ok_right {f c Pt fS fM : Addr} {fd fdS fdM : FuncData} {T : List (Addr × Str)} (F : Fun K "_law_right" "_law_right" sRight f fd) (hcd : fd.code = .ref c) (TB : TabB base mg c Pt) (hmT : (Pt, qR) ∈ T) (hu : ∀ p ∈ T, p.1 = Pt → p.2 = qR)
    (RS : SCls K S) (EI : EqI K S) (An : Dr P w K mg base spAny "_law_any_of" ["_law_pail", "_law_some"] 2) (Cs : Dr P w K mg base spCast "_law_cast" ["_law_pail", "_law_many"] 1) (Ma : Dr P w K mg base (spMate K) "_law_mate" ["_law_pail", "_law_p"] 5) (Of : Dr P w K mg base (spOf K C) "_law_of" ["_law_parts"] 6)
    (MS : MkS P w K mg base C S) (MK : MkSK P w K mg base C S) (mS : mg "Street" = some (.ref S)) (Do : DoT P w K mg base C S xO xT) (Aw : AnsO P w K mg base cA cB cC (spSort K xO xT) 2)
    (GS : FnG P w K mg base 6 fS fdS ["_law_mine", "_law_p", "_law_done_here"] (spShows K C S)) (bS : Binds K fdS ["_law_mine", "_law_p", "_law_done_here"] []) (mSh : mg "_law_shows" = some (.ref fS)) (kS : PySem.W.keepIn K (.ref fS) = true)
    (GM : FnG P w K mg base 12 fM fdM ["_law_p", "_law_size", "_law_more"] (spMany K T)) (bM : Binds K fdM ["_law_p", "_law_size", "_law_more"] []) (mMR : mg "_law_many_right" = some (.ref fM)) (kM : PySem.W.keepIn K (.ref fM) = true)
    (xmO : PySem.W.exmAny K (.ref xO) [.ref cA, .ref cB, .ref cC] = some true) (mr : mg "range" = none) (mst : mg "str" = none) (msum : mg "sum" = none) (mp : mg "repr" = none) (mi : mg "int" = none) :
    FnG P w K mg base 13 f fd ["_law_pail"] (spRight K T) := by
  refine okGC F scRight (fun vs H Q E h => ?_) (fun cdv A outer s H vs Q E hcv hgd hr h => ?_)
  · obtain ⟨p, rfl, _⟩ := h
    rfl
  · obtain ⟨p, rfl, hp, hT, q⟩ := h
    have hu64 := hr.units
    have hr7 : Room 7 _ := hr.mono (by decide)
    have hr6 : Room 6 _ := hr.mono (by decide)
    have hr1 : Room 1 _ := hr.mono (by decide)
    have ec : cdv = .ref c := hcv.symm.trans hcd
    subst ec
    refine ⟨_, (pss_cons (ps_set (i := 1) scRight.nd rfl (.inr rfl) (pe_lst (pa_cons (pe_dr An (by decide) hr rfl (pa_cons (pv 0) (pa_cons (pe_lst (pa_cons pe_int (pa_cons pe_int (pa_cons pe_int (pa_cons pe_int pa_nil))))) pa_nil))) (pa_cons (pe_dr An (by decide) hr rfl (pa_cons (pv 0) (pa_cons (pe_lst (pa_cons pe_int (pa_cons pe_int pa_nil))) pa_nil))) pa_nil))))
          (pss_cons (ps_set (i := 2) scRight.nd rfl (.inr rfl) (pe_lst (pa_cons (pe_lst (pa_cons (pe_mkS MS hr7 rfl mS (pa_cons (pe_ix (r := rIxL K) ix_list (pv 1) pe_int (fun _ _ => rfl)) pa_nil)) (pa_cons (pe_lst pa_nil) pa_nil))) (pa_cons (pe_lst (pa_cons (pe_mkSK MK hr7 rfl mS (pk_cons (pe_ix (r := rIxL K) ix_list (pv 1) pe_int (fun _ _ => rfl)) pk_nil)) (pa_cons (pe_lst pa_nil) pa_nil))) pa_nil))))
          (pss_cons (ps_for PassesOwn.never rfl (pi_range1 rfl mr (pa_cons pe_int pa_nil)) (pg_name (i := 10) scRight.nd rfl (.inr rfl))
        (pss_cons (ps_set (i := 3) scRight.nd rfl (.inl rfl) (pe_dr Cs (by decide) hr rfl (pa_cons (pv 0) (pa_cons pe_int pa_nil))))
          (pss_cons (ps_asg (pe_ix (r := rIxL K) ix_list (pv 2) (pv 3) (fun _ _ => rfl)) (pg_unl rfl (pgs_cons (pg_name (i := 8) scRight.nd rfl (.inr rfl)) (pgs_cons (pg_name (i := 4) scRight.nd rfl (.inl rfl)) pgs_nil))))
          (pss_cons (ps_set (i := 9) scRight.nd rfl (.inr rfl) (pe_dr Ma (by decide) hr rfl (pa_cons (pv 0) (pa_cons (pe_dr An (by decide) hr rfl (pa_cons (pv 0) (pa_cons (pe_lst (pa_cons (pe_ix (r := rIxL K) ix_list (pv 1) (pv 3) (fun _ _ => rfl)) (pa_cons (pe_ix (r := rIxL K) ix_list (pv 1) (pv 3) (fun _ _ => rfl)) (pa_cons (pe_ix (r := rIxL K) ix_list (pv 1) (pv 3) (fun _ _ => rfl)) (pa_cons pe_int pa_nil))))) pa_nil))) pa_nil))))
          (pss_cons (ps_set (i := 5) scRight.nd rfl (.inl rfl) (pe_lst (pa_cons pe_str (pa_cons (pe_callTy call_str_int (by rfl) mst (by decide +kernel) (pa_cons (pe_ix (r := rIxL K) ix_list (pv 9) pe_int (fun _ _ => rfl)) pa_nil)) pa_nil))))
          (pss_cons (ps_if (pt_cmpR op_eq (pe_ix (r := rIxL K) ix_list (pv 9) pe_int (fun _ _ => rfl)) (pe_ix (r := rIxL K) ix_list (pv 1) (pv 3) (fun _ _ => rfl)) (nomark _)) (pss_cons (ps_expr (pe_bm PySem.F.plainAttrs_list PySem.F.slot_list_append PySem.F.type_list_append mt_append (pv 4) (pa_cons (pv 9) pa_nil)))
          (pss_one (ps_set (i := 5) scRight.nd rfl (.inl rfl) (pe_lst (pa_cons pe_str (pa_cons (pe_callB (cr_sum rfl) (by rfl) msum (by decide +kernel) (pa_cons (pe_lc (own := [("_law_each", 11)]) (g := gName 11) (tt := tYes) rfl scRight.nd (pi_list (pv 4)) (blkOk_by (own := [("_law_each", 11)]) (N := rightN) (sc := defScope sRight) (by decide +kernel)) (fun _ _ _ _ _ => pg_name (i := 11) scRight.nd rfl (Or.inl rfl)) (fun _ _ _ _ _ => pts_nil) (fun _ _ _ _ _ => (pe_ix (r := rIxL K) ix_list (pv 11) pe_int (fun _ _ => rfl)))) pa_nil)) pa_nil)))))) pss_nil)
          (pss_cons (ps_set (i := 6) scRight.nd rfl (.inl rfl) (pe_ansO (t := fun E => tBodyT K C S xO xT E) (k := 10) Aw (by decide) hgd hr rfl TB rfl hmT hu (lamS_by (by show lamSB (defScope sRight) _ = true; decide +kernel)) rfl (fun _ _ _ _ _ => rfl) 
            (fun A' outer' s' H' E' f' c' hr' => by
              refine pe_bodyT Do RS Of mi ?_ ?_ ?_ ?_ ?_ ?_ ?_ ?_ ?_ ?_ ?_ ?_
              · exact hr'
              · exact passes_lam2
              · rfl
              · rfl
              · rfl
              · exact .inr (.inr rfl)
              · rfl
              · exact .inr (.inr rfl)
              · rfl
              · exact .inr (.inr rfl)
              · exact ⟨_, rfl⟩
              · exact ⟨_, rfl⟩)))
          (pss_cons (ps_if (pt_cmpR op_ne (pe_callB (call_reprD hgd hu64) (by rfl) mp (by decide +kernel) (pa_cons (pv 6) pa_nil)) (pe_callB (call_reprD hgd hu64) (by rfl) mp (by decide +kernel) (pa_cons (pv 5) pa_nil)) (nomark _)) pss_never pss_nil)
          (pss_one (ps_if (pt_cmpR (op_neD hu64) (pe_lc (own := [("_law_j", 12)]) (g := gName 12)  rfl scRight.nd (pi_range1 rfl mr (pa_cons pe_int pa_nil)) (blkOk_by (own := [("_law_j", 12)]) (N := rightN) (sc := defScope sRight) (by decide +kernel)) (fun _ _ _ _ _ => pg_name (i := 12) scRight.nd rfl (Or.inl rfl)) (fun _ _ _ _ _ => pts_one (pt_not (pt_val (pe_callG GS hgd (hr.mono (by decide)) rfl mSh kS bS (pa_cons (pe_ix (r := rIxL K) ix_list (pe_ix (r := rIxL K) ix_list (pv 2) (pv 12) (fun _ _ => rfl)) pe_int (fun _ _ => rfl)) (pa_cons (pe_ix (r := rIxL K) ix_list (pv 1) (pv 12) (fun _ _ => rfl)) (pa_cons (pe_ix (r := rIxL K) ix_list (pe_ix (r := rIxL K) ix_list (pv 2) (pv 12) (fun _ _ => rfl)) pe_int (fun _ _ => rfl)) pa_nil))))))) (fun _ _ _ _ _ => (pv 12))) (pe_lst pa_nil) (nomark _)) pss_never pss_nil))))))))))
          (pss_cons (ps_if (PW.pt (pw_or (pt_cmpR (op_two EI hr1).1 (pe_ix (r := rIxL K) ix_list (pe_ix (r := rIxL K) ix_list (pv 2) pe_int (fun _ _ => rfl)) pe_int (fun _ _ => rfl)) (pe_ix (r := rIxL K) ix_list (pe_ix (r := rIxL K) ix_list (pv 2) pe_int (fun _ _ => rfl)) pe_int (fun _ _ => rfl)) (nomark _)) (pw_or1 (pt_not (pt_cmpR (op_two EI hr1).2 (pe_ix (r := rIxL K) ix_list (pe_ix (r := rIxL K) ix_list (pv 2) pe_int (fun _ _ => rfl)) pe_int (fun _ _ => rfl)) (pe_ix (r := rIxL K) ix_list (pe_ix (r := rIxL K) ix_list (pv 2) pe_int (fun _ _ => rfl)) pe_int (fun _ _ => rfl)) (nomark _)))))) pss_never pss_nil)
          (pss_cons (ps_set (i := 7) scRight.nd rfl (.inl rfl) (pe_op op_add pe_int (pe_dr Cs (by decide) hr rfl (pa_cons (pv 0) (pa_cons pe_int pa_nil)))))
          (pss_one (ps_ret (pe_callG GM hgd hr rfl mMR kM bM (pa_cons (pe_ix (r := rIxL K) ix_list (pv 1) pe_int (fun _ _ => rfl)) (pa_cons (pv 7) (pa_cons (pe_op op_add (pe_op op_sub pe_int (pv 7)) (pe_dr Cs (by decide) hr rfl (pa_cons (pv 0) (pa_cons pe_int pa_nil)))) pa_nil))))))))))), ?_⟩
    refine ⟨_, rfl, (by show 4 ≤ sizeLine; decide), fun l0 n0 => ?_⟩
    have sl0 := same_of (o := .lst [V.int 2, V.int 3, V.int 5, V.int 7]) n0
    refine ⟨p, l0, _, rfl, hp.ne n0, upd_same, by decide, by decide, hp.same sl0, fun v0 H1 hv0 hp1 bt1 => ?_⟩
    obtain ⟨lv0, rfl, hg0⟩ : ∃ lv : Int, v0 = .int lv ∧ goodLv lv := by
      simp only [List.mem_cons, List.not_mem_nil, or_false] at hv0
      rcases hv0 with e | e | e | e
      · exact ⟨2, e, .inl rfl⟩
      · exact ⟨3, e, .inr (.inl rfl)⟩
      · exact ⟨5, e, .inr (.inr (.inl rfl))⟩
      · exact ⟨7, e, .inr (.inr (.inr rfl))⟩
    obtain ⟨ys0, hpl0⟩ := pail_lst (hp.same sl0)
    have hT1 : Tabs T H1 := tabs_butL hpl0 bt1 (hT.ext sl0)
    have btA : ButN p H H1 := ButN.of ((But.of sl0).trans bt1)
    refine ⟨_, rfl, (by show 2 ≤ sizeLine; decide), fun l1 n1 => ?_⟩
    have sl1 := same_of (o := .lst [V.int 2, V.int 3]) n1
    refine ⟨p, l1, _, rfl, hp1.ne n1, upd_same, by decide, by decide, hp1.same sl1, fun v1 H2 hv1 hp2 bt2 => ?_⟩
    obtain ⟨lv1, rfl, hg1⟩ : ∃ lv : Int, v1 = .int lv ∧ goodLv lv := by
      simp only [List.mem_cons, List.not_mem_nil, or_false] at hv1
      rcases hv1 with e | e
      · exact ⟨2, e, .inl rfl⟩
      · exact ⟨3, e, .inr (.inl rfl)⟩
    obtain ⟨ys1, hpl1⟩ := pail_lst (hp1.same sl1)
    have hT2 : Tabs T H2 := tabs_butL hpl1 bt2 (hT1.ext sl1)
    have btB : ButN p H H2 := btA.trans (ButN.of ((But.of sl1).trans bt2))
    refine ⟨(by show 2 ≤ sizeLine; decide), fun b nb => ?_⟩
    have sb := same_of (o := .lst [V.int lv0, V.int lv1]) nb
    have hb3 := upd_same (H := H2) (a := b) (o := .lst [V.int lv0, V.int lv1])
    have hp3 := hp2.same sb
    have hT3 := hT2.ext sb
    have bp : b ≠ p := hp2.ne nb
    have bt3 := btB.trans (ButN.of (But.of (p := p) sb))
    generalize upd H2 b (.lst [V.int lv0, V.int lv1]) = H3 at *
    dsimp only [gName, List.set]
    -- the first street, and its list
    refine ⟨_, rfl, b, _, 0, .int lv0, rfl, rfl, SqL.of hb3, rfl, lv0, rfl, hg0, fun a0 d0 H4 s4 na0 nd0 lna0 hS0 => ?_⟩
    refine ⟨(by show 0 ≤ sizeLine; decide), fun m0 nm0 => ?_⟩
    have sm0 := same_of (o := .lst []) nm0
    have hm0 := upd_same (H := H4) (a := m0) (o := .lst [])
    generalize upd H4 m0 (.lst []) = H5 at *
    refine ⟨(by show 2 ≤ sizeLine; decide), fun c0 nc0 => ?_⟩
    have sc0 := same_of (o := .lst [V.ref a0, V.ref m0]) nc0
    have hc0 := upd_same (H := H5) (a := c0) (o := .lst [V.ref a0, V.ref m0])
    generalize upd H5 c0 (.lst [V.ref a0, V.ref m0]) = H6 at *
    have s36 := s4.trans (sm0.trans sc0)
    -- the second one
    refine ⟨_, rfl, b, _, 1, .int lv1, rfl, rfl, SqL.of (s36 _ _ hb3), rfl, lv1, rfl, hg1, fun a1 d1 H7 s7 na1 nd1 lna1 hS1 => ?_⟩
    refine ⟨(by show 0 ≤ sizeLine; decide), fun m1 nm1 => ?_⟩
    have sm1 := same_of (o := .lst []) nm1
    have hm1 := upd_same (H := H7) (a := m1) (o := .lst [])
    generalize upd H7 m1 (.lst []) = H8 at *
    refine ⟨(by show 2 ≤ sizeLine; decide), fun c1 nc1 => ?_⟩
    have sc1 := same_of (o := .lst [V.ref a1, V.ref m1]) nc1
    have hc1 := upd_same (H := H8) (a := c1) (o := .lst [V.ref a1, V.ref m1])
    generalize upd H8 c1 (.lst [V.ref a1, V.ref m1]) = H9 at *
    refine ⟨(by show 2 ≤ sizeLine; decide), fun g ng => ?_⟩
    have sg := same_of (o := .lst [V.ref c0, V.ref c1]) ng
    have hg9 := upd_same (H := H9) (a := g) (o := .lst [V.ref c0, V.ref c1])
    generalize upd H9 g (.lst [V.ref c0, V.ref c1]) = HA at *
    dsimp only [gName, List.set]
    have s69 := s7.trans (sm1.trans sc1)
    obtain ⟨_, ts0, hl0, _⟩ := id hS0
    obtain ⟨_, ts1, hl1, _⟩ := id hS1
    have fr : ∀ {H H' : Hp} {x : Addr}, Same H H' → H' x = none → H x = none := fun s e => s.free e
    have two : ∀ {Pr : Nat → Prop}, Pr 0 → Pr 1 → ∀ j < 2, Pr j := fun h0 h1 j hj => by
      rcases (by omega : j = 0 ∨ j = 1) with e | e <;> subst e <;> assumption
    -- what was there ahead of what came
    have b4 := s4 _ _ hb3
    have p4 := hp3.same s4
    have d5 := sm0 _ _ hl0
    have d6 := sc0 _ _ d5
    have m6 := sc0 _ _ hm0
    have p5 := p4.same sm0
    have p6 := p5.same sc0
    have p7 := p6.same s7
    have p8 := p7.same sm1
    have p9 := p8.same sc1
    have d7 := s7 _ _ d6
    have m7 := s7 _ _ m6
    have c7 := s7 _ _ hc0
    have b7 := s7 _ _ (sc0 _ _ (sm0 _ _ b4))
    have d8 := sm1 _ _ d7
    have m8 := sm1 _ _ m7
    have d9 := sc1 _ _ d8
    have e8 := sm1 _ _ hl1
    have e9 := sc1 _ _ e8
    have m9 := sc1 _ _ m8
    have k9 := sc1 _ _ hm1
    have SP : Sep p g b (pick d0 d1) (pick m0 m1) (pick c0 c1) := by
      refine ⟨p9.ne ng, bp, two (p5.ne nc0) (p8.ne nc1), two (hp3.ne nd0) (p6.ne nd1), two (p4.ne nm0) (p7.ne nm1), two (ne_of_none d9 ng).symm (ne_of_none e9 ng).symm, two (ne_of_none m9 ng).symm (ne_of_none k9 ng).symm, two (ne_of_none hb3 nd0) (ne_of_none (s36 _ _ hb3) nd1), two (ne_of_none b4 nm0) (ne_of_none b7 nm1),
        two (two (ne_of_none d5 nc0).symm (ne_of_none hc0 nd1)) (two (ne_of_none d8 nc1).symm (ne_of_none e8 nc1).symm), two (two (ne_of_none hm0 nc0).symm (ne_of_none c7 nm1)) (two (ne_of_none m8 nc1).symm (ne_of_none hm1 nc1).symm), two (two (ne_of_none hl0 nm0).symm (ne_of_none m6 nd1)) (two (ne_of_none d7 nm1).symm (ne_of_none hl1 nm1).symm), ?_, ?_⟩
      · intro i hi j hj hij
        rcases (by omega : (i = 0 ∧ j = 1) ∨ (i = 1 ∧ j = 0)) with ⟨rfl, rfl⟩ | ⟨rfl, rfl⟩
        · exact ne_of_none d6 nd1
        · exact (ne_of_none d6 nd1).symm
      · intro i hi j hj hij
        rcases (by omega : (i = 0 ∧ j = 1) ∨ (i = 1 ∧ j = 0)) with ⟨rfl, rfl⟩ | ⟨rfl, rfl⟩
        · exact ne_of_none m7 nm1
        · exact (ne_of_none m7 nm1).symm
    have s3A := s36.trans (s69.trans sg)
    have L0 : Two K C S T H3 HA p g b (pick a0 a1) (pick d0 d1) (pick m0 m1) (pick c0 c1) (pick lv0 lv1) (fun _ => []) (fun _ => []) (fun _ => []) := by
      refine ⟨SP, ButN.of (But.of s3A), hp3.same s3A, hT3.ext s3A, two ⟨(hS0.same (sm0.trans sc0)).same (s69.trans sg), .nil, sg _ _ m9, .nil, (fun _ z => nomatch z), nd0, s4.free nm0⟩ ⟨(hS1.same (sm1.trans sc1)).same sg, .nil, sg _ _ k9, .nil, (fun _ z => nomatch z), s36.free nd1, s36.free (s7.free nm1)⟩, two hg0 hg1, hg9, s3A _ _ hb3, two (sg _ _ (sc1 _ _ (sm1 _ _ c7))) (sg _ _ hc1)⟩
    obtain ⟨a, l, m, c, lv, q', hq'⟩ : ∃ (a l m c : Nat → Addr) (lv : Nat → Int), Two K C S T H3 HA p g b a l m c lv (fun _ => []) (fun _ => []) (fun _ => []) ∧ True := ⟨_, _, _, _, _, L0, trivial⟩
    clear L0 hS0 hS1 SP
    have xsE : ∀ (ds : Nat → List Deed) (k : Nat) (d : Deed), (fun j => (put' ds k (ds k ++ [d]) j).map fun d => (d.fin, d.ls)) = put' (fun j => (ds j).map fun d => (d.fin, d.ls)) k ((ds k).map (fun d => (d.fin, d.ls)) ++ [(d.fin, d.ls)]) := fun ds k d => by
      funext j
      by_cases e : j = k
      · subst e
        rw [put_at, put_at, List.map_append]
        rfl
      · rw [put_ne e, put_ne e]
    have ixr : ∀ {x y : V} {r : Int}, 0 ≤ r → r < 2 → atI [x, y] r = some (pick x y r.toNat) := fun {x y r} h0 h2 => by
      rcases (by omega : r = 0 ∨ r = 1) with e | e <;> subst e <;> rfl
    refine sq_forRn (n := 12) (by decide) (fun i σ' H' => ∃ x3 x4 x5 x6 x8 x9 x10 ds ps, σ' = [some (.ref p), some (.ref b), some (.ref g), x3, x4, x5, x6, none, x8, x9, x10, none, none] ∧ Two K C S T H3 H' p g b a l m c lv ds (fun j => (ds j).map fun d => (d.fin, d.ls)) ps ∧ ∀ j < 2, (ds j).length ≤ i) ⟨_, _, _, _, _, _, _, _, _, rfl, q', fun _ _ => Nat.le_refl _⟩ ?_ ?_ val_c
    · rintro i σ' H4 hi ⟨x3, x4, x5, x6, x8, x9, x10, ds, ps, rfl, L4, few⟩
      refine ⟨_, rfl, _, _, rfl, by decide, by decide, L4.pail, fun r H5 r0 r2 hp5 bt5 => ?_⟩
      have L5 := L4.butp hp5 bt5
      dsimp only [gName, List.set]
      obtain ⟨k, rfl⟩ : ∃ k : Nat, r = (k : Int) := ⟨r.toNat, by omega⟩
      have hk : k < 2 := by omega
      have ix2 : ∀ {x : V} {f : Nat → V}, atI [f 0, f 1] (k : Int) = some (f k) := fun {x f} => by
        rcases (by omega : k = 0 ∨ k = 1) with e | e <;> subst e <;> rfl
      have hgk := L5.gd k hk
      have h7 := good_pos hgk
      have h0 := h7.1
      refine ⟨_, rfl, _, rfl, g, _, _, _, rfl, rfl, SqL.of L5.hg, ix2 (x := .non) (f := fun j => .ref (c j)), c k, _, rfl, SqL.of (L5.hc k hk), rfl, _, _, rfl, _, _, rfl, rfl, ?_⟩
      dsimp only [gName, List.set]
      have hbk : atI [V.int (lv 0), V.int (lv 1)] (k : Int) = some (.int (lv k)) := ix2 (x := .non) (f := fun j => .int (lv j))
      refine ⟨_, rfl, _, rfl, _, rfl, _, rfl, b, _, _, _, rfl, rfl, SqL.of L5.hb, hbk, _, rfl, _, rfl, b, _, _, _, rfl, rfl, SqL.of L5.hb, hbk, _, rfl, _, rfl, b, _, _, _, rfl, rfl, SqL.of L5.hb, hbk, (by show 4 ≤ sizeLine; decide), fun l5 n5 => ?_⟩
      have L6 := L5.same (same_of (o := .lst [V.int (lv k), V.int (lv k), V.int (lv k), V.int 5]) n5)
      refine ⟨p, l5, _, rfl, L5.pail.ne n5, upd_same, (by show 0 < 4; decide), (by show 4 < 1000000; decide), L6.pail, fun v H7 hv hp7 bt7 => ?_⟩
      have L7 := L6.butp hp7 bt7
      obtain ⟨w7, rfl, hg7⟩ : ∃ w7 : Int, v = .int w7 ∧ goodLv w7 := by
        simp only [List.mem_cons, List.not_mem_nil, or_false] at hv
        rcases hv with e | e | e | e
        · exact ⟨_, e, hgk⟩
        · exact ⟨_, e, hgk⟩
        · exact ⟨_, e, hgk⟩
        · exact ⟨5, e, .inr (.inr (.inl rfl))⟩
      refine ⟨p, w7, rfl, hg7, L7.pail, fun q t rr H8 elv hok hpa hp8 bt8 => ?_⟩
      have L8 := L7.butp hp8 bt8
      have qp : q ≠ p := fun z => by
        have := hpa.1
        rw [z, delH_same] at this
        cases this
      have hpa' := hpa.same del_sub
      have hqb := hpa'.b hok.pic
      obtain ⟨wl, ls, fin⟩ := rr
      dsimp only at elv
      subst elv
      dsimp only [gName, List.set]
      refine ⟨_, rfl, q, _, 0, .int wl, rfl, rfl, SqL.of hpa'.1, rfl, wl, rfl, ?_, (by show 2 ≤ sizeLine; decide), fun u nu => ?_⟩
      · rcases hg7 with h | h | h | h <;> rw [h] <;> decide +kernel
      have su := same_of (o := .lst [V.str "OtherLevels", V.str (nS wl)]) nu
      have L9 := L8.same su
      have hu9 := upd_same (H := H8) (a := u) (o := .lst [V.str "OtherLevels", V.str (nS wl)])
      have hpa9 := hpa'.same su
      have hqb9 := hpa9.b hok.pic
      obtain ⟨H9, eH9⟩ : ∃ H9, H9 = upd H8 u (.lst [V.str "OtherLevels", V.str (nS wl)]) := ⟨_, rfl⟩
      rw [← eH9] at L9 hu9 hpa9 hqb9 su
      have go : ∀ {PP : Hp → Prop}, PP H9 → PP (upd H8 u (.lst [V.str "OtherLevels", V.str (nS wl)])) := fun z => by rw [← eH9]; exact z
      refine go (PP := fun H => _) ?_
      dsimp only [gName, List.set]
      obtain ⟨st0, hst0⟩ : ∃ st0 : Nat → List (Int × List (Int × Int)), st0 = fun j => (ds j).map fun d => (d.fin, d.ls) := ⟨_, rfl⟩
      rw [← hst0] at L9
      have fewk := few k hk
      -- what is due
      refine seq_by (fun σ' H' => ∃ x6 xs ps u, σ' = [some (.ref p), some (.ref b), some (.ref g), some (.int (k : Int)), some (.ref (m k)), some (.ref u), x6, none, some (.ref (a k)), some (.ref q), some (.int (i : Int)), none, none] ∧ Two K C S T H3 H' p g b a l m c lv ds xs ps ∧ PartsAt K H' q t ⟨wl, ls, fin⟩ ∧
        ((wl = lv k ∧ xs = put' st0 k (st0 k ++ [(fin, ls)]) ∧ H' u = some (.lst [.str "back", .int (finOf (ds k) + fin)])) ∨ (wl ≠ lv k ∧ xs = st0 ∧ H' u = some (.lst [.str "OtherLevels", .str (nS wl)])))) (fun TT hTT => ?_) ?_
      · refine ⟨_, rfl, q, _, 0, .int wl, rfl, rfl, SqL.of hpa9.1, rfl, _, rfl, _, rfl, b, _, _, _, rfl, rfl, SqL.of L9.hb, hbk, rfl, decide (V.int wl = V.int (lv k)), rfl, ?_⟩
        by_cases hlv : wl = lv k
        · rw [hlv, decide_eq_true rfl]
          refine iteT ?_
          have hli := (L9.one k hk).li
          have hqk : PartsB K H9 q (lv k) fin ls := by rw [← hlv]; exact hqb9
          have hcs : ps k ++ [q] = ps k ++ [q] := rfl
          have hlen9 : (ps k).length ≤ 12 := by
            rw [paired_len (L9.one k hk).pa, hst0, List.length_map]
            omega
          refine ⟨_, rfl, .inl ⟨rfl, _, SqL.of hli⟩, _, rfl, m k, _, .ref q, rfl, rfl, hli, ?_, ?_⟩
          · rw [List.length_map]
            have : (400 : Nat) < sizeLine := by decide
            omega
          have eps : (ps k).map V.ref ++ [V.ref q] = (ps k ++ [q]).map V.ref := by rw [List.map_append]; rfl
          rw [eps]
          have LA := L9.app hk hqk qp
          have hqm := parts_nl hqk hli
          have hpaA : PartsAt K (upd H9 (m k) (.lst ((ps k ++ [q]).map V.ref))) q t ⟨wl, ls, fin⟩ := by
            obtain ⟨z1, as, ⟨o, z2, z3⟩, z4⟩ := hpa9
            have bb : But (m k) H9 (upd H9 (m k) (.lst ((ps k ++ [q]).map V.ref))) := But.at
            refine ⟨bb _ _ hqm z1, as, ⟨o, bb _ _ (fun z => by rw [z, hli] at z2; cases z2) z2, z3⟩, L2.Paired.mapP z4 fun a' q' z => bb _ _ (fun y => by rw [y, hli] at z; cases z) z⟩
          generalize upd H9 (m k) (.lst ((ps k ++ [q]).map V.ref)) = HB at *
          have oB := LA.one k hk
          have liB := oB.li
          have paB := oB.pa
          rw [put_at] at liB paB
          rw [put_at] at paB
          refine ⟨_, rfl, m k, rfl, ⟨_, SqL.of liB⟩, fun D hD => ?_⟩
          refine lc_genL (us := ps k ++ [q]) (enc := V.ref) (out := fun x => some (finA HB x)) (Rel := fun (z : Int) v _ => v = .int z) (fun _ _ _ _ _ h => h) hD (SqL.of liB) (by rw [List.length_append]; show (ps k).length + 1 ≤ 9000; omega) (fun j x HC hn sC R' Z' hR hZ => ?_) (fun HC ys sC hDC hys => ?_)
          · obtain ⟨y, hy, hP⟩ := paired_get paB hn
            obtain ⟨t2, hq2, ef⟩ := finA_at hP
            refine ⟨rfl, ?_⟩
            exact ⟨_, rfl, x, _, 2, .int y.1, rfl, rfl, SqL.of (sC _ _ hq2), rfl, hR _ HC (finA HB x) rfl (Same.refl _) (by rw [ef])⟩
          · have ey := ints_rel hys
            subst ey
            rw [filterMap_some, fins_eq paB, hst0] at hDC
            have esum : (((fun j => (ds j).map fun d => (d.fin, d.ls)) k ++ [(fin, ls)]).map (·.1)).sum = finOf (ds k) + fin := by
              rw [List.map_append, List.sum_append, ← chain_sum oB.ch, List.map_map]
              show _ + (fin + 0) = _
              rw [Int.add_zero]
              rfl
            refine ⟨D, _, rfl, SqL.of hDC, (by show 2 ≤ sizeLine; decide), fun u2 nu2 => ?_⟩
            rw [esum]
            have su2 := sC.trans (same_of (o := .lst [V.str "back", V.int (finOf (ds k) + fin)]) nu2)
            dsimp only [gName, List.set]
            exact hTT _ _ ⟨_, _, _, u2, rfl, LA.same su2, hpaA.same su2, .inl ⟨hlv, rfl, upd_same⟩⟩
        · rw [decide_eq_false (fun z => hlv (V.int.inj z))]
          refine iteF ?_
          dsimp only [tNext]
          exact hTT _ _ ⟨_, _, _, u, rfl, L9, hpa9, .inr ⟨hlv, rfl, hu9⟩⟩
      · rintro σ' H10 ⟨x6, xs, ps', u, rfl, L10, hpa10, hcase⟩
        -- what comes of it
        have st60 := (L10.one k hk).st
        have far := (L10.one k hk).ch.far h0 fun d hd => by
          obtain ⟨_, ts, _, h4⟩ := st60
          obtain ⟨j, hj⟩ := List.getElem?_of_mem hd
          obtain ⟨t', ht, hD⟩ := paired_get' h4 hj
          exact hD.whole.pic.rise
        refine seq_by (fun σ' H' => ∃ ds' ps u lr dD, σ' = [some (.ref p), some (.ref b), some (.ref g), some (.int (k : Int)), some (.ref (m k)), some (.ref u), some (.ref lr), none, some (.ref (a k)), some (.ref q), some (.int (i : Int)), none, none] ∧ Two K C S T H3 H' p g b a l m c lv ds' (fun j => (ds' j).map fun d => (d.fin, d.ls)) ps ∧ (∀ j < 2, (ds' j).length ≤ i + 1) ∧
          Dp K H' (.ref lr) dD ∧ Dp K H' (.ref u) dD ∧ okD dD = true) (fun TT hTT => ?_) ?_
        · refine ⟨L10.tabs, fun H11 e11 hT11 f11 => ?_⟩
          have L11 := L10.ext e11 hT11
          have hpa11 := PartsAt.ext hpa10 e11
          obtain ⟨⟨dx, st, h1, _⟩, _⟩ := id (L11.one k hk).st
          refine bodyT_run (i := (i : Int)) rfl ?_
          refine ⟨_, rfl, a k, dx, _, rfl, h1, rfl, _, rfl, q, t, ⟨wl, ls, fin⟩, rfl, hpa11, hok, fun b' H12 s12 nb hb12 => ?_⟩
          have L12 := L11.same s12
          have hpa12 := hpa11.same s12
          refine ⟨a k, l k, b', lv k, wl, fin, ls, ds k, rfl, (L12.one k hk).st, ⟨⟨t, hb12, hpa12.2.at⟩, hok.lv, hok.pic.w⟩, by omega, fun ev => ⟨fun d H13 b13 e1 e2 e3 e4 hd13 hl13 hS13 => ?_, fun dd ms H13 hri hs many s13 hd => ?_⟩, fun nv d H13 s13 hd13 => ?_⟩
          · rcases hcase with ⟨ewl, exs, hu10⟩ | ⟨nwl, _⟩
            · have hu12 := s12 _ _ (e11 _ _ hu10 (fun _ z => by cases z))
              obtain ⟨_, tl12, hl12, _⟩ := id (L12.one k hk).st
              have hul : u ≠ l k := fun z => by
                rw [z, hl12] at hu12
                injection hu12 with hu12
                injection hu12 with hu12
                cases tl12 <;> cases hu12
              have hc : Chain (lv k) (ds k ++ [d]) := .snoc (L12.one k hk).ch (by rw [e3, ← ewl]; exact hok.pic) (by rw [e2]; exact hok.lo) (by rw [e2]; exact hok.hi) (by rw [e2]; exact e4) (by rw [e3]; exact hd13) ?_
              · have L13 := L12.did hk b13 hS13 hc
                refine back_run fun lr nlr => ?_
                have sr := same_of (o := .lst [V.str "back", V.int (finOf (ds k) + fin)]) nlr
                have hu13 := sr _ _ (b13 _ _ hul hu12)
                dsimp only [gName, List.set]
                have L14 := L13.same sr
                have ek : put' st0 k (st0 k ++ [(fin, ls)]) = fun j => (put' ds k (ds k ++ [d]) j).map fun d => (d.fin, d.ls) := by
                  rw [xsE, hst0, e2, e3]
                rw [exs, ek] at L14
                refine hTT _ _ ⟨put' ds k (ds k ++ [d]), _, u, lr, .list [.str "back", .int (finOf (ds k) + fin)], rfl, L14, fun j hj => ?_, .lst (SqL.of upd_same) (.cons (.str _) (.cons (.int _) .nil)), .lst (SqL.of hu13) (.cons (.str _) (.cons (.int _) .nil)), ?_⟩
                · by_cases e : j = k
                  · rw [e, put_at, List.length_append]
                    show (ds k).length + 1 ≤ i + 1
                    omega
                  · rw [put_ne e]
                    exact Nat.le_succ_of_le (few j hj)
                · refine back_okD ?_
                  have f1 := far.1
                  have f2 : -big ≤ fin := hok.lo
                  have f3 : fin ≤ big := hok.hi
                  have eb : big = 1000000000000000000000000000000000000000 := by decide
                  have e39 : (10 : Nat) ^ 39 = 1000000000000000000000000000000000000000 := by decide
                  have e42 : (10 : Nat) ^ 42 = 1000000000000000000000000000000000000000000 := by decide
                  rw [e39] at f1
                  rw [e42]
                  have f4 : (ds k).length * 1000000000000000000000000000000000000000 ≤ 11 * 1000000000000000000000000000000000000000 := Nat.mul_le_mul_right _ (by omega)
                  omega
              · have hri : Rising (lv k) d.Ls := by
                  obtain ⟨_, ts, _, h4⟩ := id hS13
                  obtain ⟨_, _, _, _, hD⟩ := paired_last h4
                  exact hD.whole.pic.rise
                rw [e3]
                exact then_few h0 hri hd13
            · exact absurd ev nwl
          · have := then_few h0 hri hs
            have := far.2.2
            have f5 : ls.length ≤ 5 := hok.pic.few
            omega
          · rcases hcase with ⟨e1, _⟩ | ⟨_, exs, hu10⟩
            · exact absurd e1 nv
            have hu13 := s13 _ _ (s12 _ _ (e11 _ _ hu10 (fun _ z => by cases z)))
            refine ⟨xO, rfl, xmO, fun ea nea => ⟨rfl, d, "given", "OtherLevels", .int wl, .int wl, rfl, .inl ⟨rfl, rfl, rfl⟩, hd13, .plain (.int _), ?_, fun lr H14 s14 nlr hlr => ?_⟩⟩
            · rcases hg7 with h | h | h | h <;> rw [h] <;> decide +kernel
            dsimp only [gName, List.set]
            have L14 := (L12.same s13).same s14
            rw [exs, hst0] at L14
            refine hTT _ _ ⟨ds, _, u, lr, .list [.str "OtherLevels", .str (nS wl)], rfl, L14, fun j hj => Nat.le_succ_of_le (few j hj), .lst (SqL.of hlr) ?_, .lst (SqL.of (s14 _ _ hu13)) (.cons (.str _) (.cons (.str _) .nil)), ?_⟩
            · have e : (PyData.int wl).shown = nS wl := by rcases hg7 with h | h | h | h <;> rw [h] <;> decide +kernel
              rw [e]
              exact .cons (.str _) (.cons (.str _) .nil)
            · rcases hg7 with h | h | h | h <;> rw [h] <;> decide +kernel
        · rintro σ' H11 ⟨ds', ps2, u2, lr, dD, rfl, L11, few11, dp1, dp2, okd⟩
          obtain ⟨o1, o2, o3⟩ := okD_of okd
          refine ⟨_, rfl, _, dD, rfl, .plain dp1, o1, o2, o3, _, rfl, _, dD, rfl, .plain dp2, o1, o2, o3, rfl, false, ?_, iteF ?_⟩
          · show V.bl (!decide (V.str dD.shown = V.str dD.shown)) = _
            rw [decide_eq_true rfl]
            rfl
          dsimp only [tNext]
          have at2 : ∀ {j : Nat}, j < 2 → ∀ {f : Nat → V}, atI [f 0, f 1] (j : Int) = some (f j) := fun {j} hj {f} => by
            rcases (by omega : j = 0 ∨ j = 1) with e | e <;> subst e <;> rfl
          refine ⟨2, rfl, by decide, by decide, fun D hD => ?_⟩
          refine lc_range (lo := 0) (n := 2) (fun j H' => Same H11 H' ∧ H' D = some (.lst [])) ⟨same_of hD, upd_same⟩ (fun j H' hj z => ?_) (fun H' z => ?_)
          · obtain ⟨sa, hDl⟩ := z
            have LJ := L11.same sa
            have oJ := LJ.one j hj
            have e1 : (0 : Int) + (j : Int) = (j : Int) := Int.zero_add _
            rw [e1]
            refine ⟨rfl, ?_⟩
            refine ⟨_, rfl, _, rfl, g, _, _, _, rfl, rfl, SqL.of LJ.hg, at2 hj (f := fun j => .ref (c j)), c j, _, 0, .ref (a j), rfl, rfl, SqL.of (LJ.hc j hj), rfl, _, rfl, _, rfl, b, _, _, _, rfl, rfl, SqL.of LJ.hb, at2 hj (f := fun j => .int (lv j)), _, rfl, _, rfl, g, _, _, _, rfl, rfl, SqL.of LJ.hg, at2 hj (f := fun j => .ref (c j)), c j, _, 1, .ref (m j), rfl, rfl, SqL.of (LJ.hc j hj), rfl, ?_⟩
            refine ⟨a j, l j, m j, lv j, ds' j, ps2 j, rfl, LJ.gd j hj, oJ.st, oJ.ch, ?_, oJ.li, px_of oJ.pa, fun H'' s'' => ?_⟩
            · have := few11 j hj
              omega
            refine ⟨true, rfl, ?_⟩
            refine iteF ?_
            exact ⟨sa.trans s'', s'' _ _ hDl⟩
          · obtain ⟨sa, hDl⟩ := z
            refine ⟨(by show 0 ≤ sizeLine; decide), fun e0 ne0 => ?_⟩
            have se := same_of (o := .lst []) ne0
            refine ⟨.list [], .list [], .lst (SqL.of (se _ _ hDl)) .nil, .lst (SqL.of upd_same) .nil, by decide +kernel, by decide +kernel, ?_⟩
            refine ⟨false, by decide +kernel, iteF ?_⟩
            dsimp only [tNext]
            exact ⟨_, _, _, _, _, _, _, ds', ps2, rfl, L11.same (sa.trans se), few11⟩
    · rintro σ' H4 ⟨x3, x4, x5, x6, x8, x9, x10, ds, ps, rfl, L4, few⟩
      have o0 := L4.one 0 (by decide)
      have o1 := L4.one 1 (by decide)
      obtain ⟨⟨dx0, st0, h0a, _⟩, _⟩ := id o0.st
      obtain ⟨⟨dx1, st1, h1a, _⟩, _⟩ := id o1.st
      have ne : a 0 ≠ a 1 := fun z => by
        rw [z, h1a] at h0a
        injection h0a with h0a
        injection h0a with _ _ h0a
        unfold fldS at h0a
        simp only [List.cons.injEq, Prod.mk.injEq, V.ref.injEq] at h0a
        exact L4.sep.ll 0 (by decide) 1 (by decide) (by decide) h0a.2.2.1.2.symm
      have c0' := L4.hc 0 (by decide)
      have c1' := L4.hc 1 (by decide)
      refine ⟨_, rfl, g, _, 0, .ref (c 0), rfl, rfl, SqL.of L4.hg, rfl, c 0, _, 0, .ref (a 0), rfl, rfl, SqL.of c0', rfl, _, rfl, g, _, 1, .ref (c 1), rfl, rfl, SqL.of L4.hg, rfl, c 1, _, 0, .ref (a 1), rfl, rfl, SqL.of c1', rfl, a 0, a 1, dx0, dx1, _, _, rfl, rfl, ne, h0a, h1a, false, rfl, iteF ?_⟩
      refine ⟨_, rfl, g, _, 0, .ref (c 0), rfl, rfl, SqL.of L4.hg, rfl, c 0, _, 0, .ref (a 0), rfl, rfl, SqL.of c0', rfl, _, rfl, g, _, 1, .ref (c 1), rfl, rfl, SqL.of L4.hg, rfl, c 1, _, 0, .ref (a 1), rfl, rfl, SqL.of c1', rfl, a 0, a 1, dx0, dx1, _, _, rfl, rfl, ne, h0a, h1a, true, rfl, iteF ?_⟩
      dsimp only [tNext]
      refine ⟨_, rfl, _, _, rfl, by decide, by decide, L4.pail, fun r H5 r0 r1 hp5 b5 => ?_⟩
      have L5 := L4.butp hp5 b5
      refine ⟨_, _, rfl, rfl, ?_⟩
      dsimp only [gName, List.set]
      refine ⟨_, rfl, b, _, 0, .int (lv 0), rfl, rfl, SqL.of L5.hb, rfl, _, rfl, _, rfl, _, _, rfl, rfl, _, rfl, _, _, rfl, by decide, by decide, L5.pail, fun r2 H6 r3 r4 hp6 b6 => ?_⟩
      have L6 := L5.butp hp6 b6
      refine ⟨_, _, rfl, rfl, ?_⟩
      refine ⟨lv 0, (200 + r).toNat, (399 - (200 + r) + r2).toNat, ?_, L6.gd 0 (by decide), by omega, by omega, by omega, by omega, by omega, L6.tabs, fun H7 e7 hT7 => ?_⟩
      · rw [show (((200 + r).toNat : Nat) : Int) = 200 + r by omega, show (((399 - (200 + r) + r2).toNat : Nat) : Int) = 399 - (200 + r) + r2 by omega]
      · exact q _ (bt3.trans (L6.bt.trans (ButN.ext e7))) hT7
end
end Lamp
set_option Elab.async false
set_option linter.all false
set_option maxRecDepth 100000
set_option maxHeartbeats 2000000
namespace Lamp
open PySem PySem.Spec PyProof.Rows L2 LamX
section
variable {P : Program} {w : World} {K : PySem.W.Frag} {mg : Str → Option Value} {base : Heap}
theorem scLaw : FnScope ["_law_script", "_law_turn"] ["_law_script"] (defScope sLaw) := ⟨rfl, rfl, rfl, by decide +kernel, rfl, by decide +kernel, by decide +kernel⟩
def spLaw (K : PySem.W.Frag) (T : List (Addr × Str)) : Sp := fun vs H Q _ => ∃ (a : Addr) (ns : List Int), vs = [.ref a] ∧ SqL K H a (ns.map V.int) ∧ ns.length ≤ 63 ∧ (∀ z ∈ ns, Builtin.Int.intBits z ≤ 1048576) ∧ Tabs T H ∧ ∀ H', Q (.bl true) H'
theorem ok_law {f fR : Addr} {fd fdR : FuncData} {T : List (Addr × Str)} (F : Fun K "law" "law" sLaw f fd)
    (GR : FnG P w K mg base 13 fR fdR ["_law_pail"] (spRight K T)) (bR : Binds K fdR ["_law_pail"] []) (mR : mg "_law_right" = some (.ref fR)) (kR : PySem.W.keepIn K (.ref fR) = true)
    (Bg : Dr P w K mg base (spBegun K) "_law_begun" ["_law_script", "_law_turn"] 1)
    (mr : mg "range" = none) (ml : mg "len" = none) (mall : mg "all" = none) (mmax : mg "max" = none) (mmin : mg "min" = none) :
    FnG P w K mg base 14 f fd ["_law_script"] (spLaw K T) := by
  refine okG F scLaw (fun vs H Q E h => ?_) (fun cdv Ar outer s H vs Q E hgd hr h => ?_)
  · obtain ⟨a, ns, rfl, _⟩ := h
    rfl
  · obtain ⟨a, ns, rfl, hS1, hlen, hbits, hT, q⟩ := h
    refine ⟨_, pss_one (ps_ret (pe_callB (cr_all rfl) (by rfl) mall (by decide +kernel) (pa_cons (pe_lc (own := [("_law_turn", 1)]) (g := gName 1) (tt := tYes) rfl scLaw.nd
          (pi_range1 rfl mr (pa_cons (pe_callB (call_max2 rfl) (by rfl) mmax (by decide +kernel) (pa_cons pe_int (pa_cons (pe_callB (call_min2 rfl) (by rfl) mmin (by decide +kernel) (pa_cons (pe_callB call_len_seq (by rfl) ml PySem.boot_len (pa_cons (pv 0) pa_nil)) (pa_cons pe_int pa_nil))) pa_nil))) pa_nil))
          (blkOk_by (own := [("_law_turn", 1)]) (N := ["_law_script", "_law_turn"]) (sc := defScope sLaw) (by decide +kernel)) (fun _ _ _ _ _ => pg_name (i := 1) scLaw.nd rfl (Or.inl rfl)) (fun _ _ _ _ _ => pts_nil)
          (fun _ _ _ _ _ => pe_callG GR hgd hr rfl mR kR bR (pa_cons (pe_dr Bg (by decide) hr rfl (pa_cons (pv 0) (pa_cons (pv 1) pa_nil))) pa_nil))) pa_nil))), ?_⟩
    refine ⟨.ref a, rfl, a, _, rfl, .inl hS1, ?_⟩
    refine ⟨_, _, rfl, _, _, rfl, ?_⟩
    have hlenV : ((ns.map V.int).length : Nat) = ns.length := List.length_map _
    rw [hlenV]
    generalize hm : (if (if (5 : Int) < ((ns.length : Nat) : Int) then (5 : Int) else ((ns.length : Nat) : Int)) > 2 then (if (5 : Int) < ((ns.length : Nat) : Int) then (5 : Int) else ((ns.length : Nat) : Int)) else 2) = m
    have hm2 : 2 ≤ m ∧ m ≤ 5 := by
      rw [← hm]
      split
      · split <;> omega
      · omega
    obtain ⟨n, en⟩ : ∃ n : Nat, m = (n : Int) := ⟨m.toNat, by omega⟩
    subst en
    refine ⟨(n : Int), rfl, by omega, by omega, fun D hD => ?_⟩
    have e0 : ((n : Int)).toNat = n := by omega
    rw [e0]
    refine lc_range (lo := 0) (n := n) (fun i H' => ExtN H H' ∧ Tabs T H' ∧ H' D = some (.lst ((List.replicate i true).map V.bl))) ⟨ext_same (same_of hD), hT.ext (same_of hD), upd_same⟩ (fun i H' hi z => ?_) (fun H' z => ?_)
    · obtain ⟨sb, hTb, hlD⟩ := z
      have e1 : (0 : Int) + (i : Int) = (i : Int) := Int.zero_add _
      rw [e1]
      refine ⟨rfl, ?_⟩
      refine ⟨_, rfl, _, rfl, a, ns, (i : Int), rfl, sqL_ext sb hS1, hlen, hbits, by omega, by omega, fun H2 p s2 np hp => ⟨p, rfl, hp, hTb.ext s2, fun H3 bt hT3 => ?_⟩⟩
      have pD : D ≠ p := fun e => by rw [e, np] at hlD; cases hlD
      have atD : H3 D = some (.lst ((List.replicate i true).map V.bl)) := by
        have h := bt D (.lst ((List.replicate i true).map V.bl)) (by rw [delH_ne pD]; exact s2 _ _ hlD) (fun _ z => by cases z)
        rw [delH_ne pD] at h
        exact h
      refine ⟨_, atD, ?_, fun b o e n => ?_, tabs_upd atD hT3, ?_⟩
      · rw [List.length_map, List.length_replicate]
        exact small1000 (by omega)
      · have nb : b ≠ D := fun z => by rw [z, hD] at e; cases e
        have hb' := sb b o e n
        have npb : b ≠ p := fun z => by
          rw [z, np] at hb'
          cases hb'
        have h := bt b o (by rw [delH_ne npb]; exact s2 _ _ hb') n
        rw [delH_ne npb] at h
        rw [upd_ne nb]
        exact h
      · rw [upd_same, List.replicate_succ', List.map_append]
        rfl
    · refine ⟨D, List.replicate n true, rfl, SqL.of z.2.2, ?_⟩
      have e : (List.replicate n true).all id = true := by
        rw [List.all_eq_true]
        intro b hb
        exact (List.eq_of_mem_replicate hb)
      rw [e]
      exact q _
end
end Lamp
set_option Elab.async false
set_option linter.all false
set_option maxRecDepth 100000
set_option maxHeartbeats 2000000
namespace Lamp
open PySem PySem.Spec PyProof.Rows L2
/-! what the top has written of exception classes, as one answer -/
def tailOf : Nat → List Value
  | 0 => [.type "ValueError", .type "Exception", .type "BaseException", .type "object"]
  | 1 => [.type "LookupError", .type "Exception", .type "BaseException", .type "object"]
  | _ => [.type "ArithmeticError", .type "Exception", .type "BaseException", .type "object"]
def newOf : Nat → String
  | 0 => "ValueError.__new__"
  | 1 => "LookupError.__new__"
  | _ => "ArithmeticError.__new__"
def ecB (K : PySem.W.Frag) (C : Addr) (b : Nat) : Bool :=
  PySem.W.excInitIn K C (tailOf b) (newOf b) && (PySem.W.excOver K C (tailOf b) && (decide (PySem.W.findIn K (.ref C) "__setattr__" = some (some (.builtin "object.__setattr__"))) && (decide (PySem.W.findIn K (.ref C) "__getattribute__" = some (some (.builtin "BaseException.__getattribute__"))) &&
    (decide (PySem.W.findIn K (.ref C) "__getattr__" = some none) && (decide (PySem.W.subIn K (.ref C) (.type "BaseException") = some true) && (PySem.W.hasDictIn K C && (PySem.W.keepIn K (.ref C) &&
      (decide (PySem.W.findIn K (.ref C) "__class__" = some (some (.builtin "object.__class__"))) && decide (PySem.W.mroIn K C (.type "object") = some true)))))))))
theorem ecB_ok {K : PySem.W.Frag} {C : Addr} : ∀ {b : Nat}, ecB K C b = true → ∃ (B newId initId : String) (tail : List Value), EC K C B newId initId tail ∧ newId = newOf b ∧ tail = tailOf b := fun {b} h => by
  unfold ecB at h
  simp only [Bool.and_eq_true, decide_eq_true_eq] at h
  obtain ⟨h1, h2, h3, h4, h5, h6, h7, h8, h9, h10⟩ := h
  match b, h1, h2 with
  | 0, h1, h2 => exact ⟨_, _, _, _, ⟨PySem.F.excBase_ValueError, PySem.F.store_ValueError, h1, h2, h3, h4, h5, h6, h7, h8, h9, h10⟩, rfl, rfl⟩
  | 1, h1, h2 => exact ⟨_, _, _, _, ⟨PySem.F.excBase_LookupError, PySem.F.store_LookupError, h1, h2, h3, h4, h5, h6, h7, h8, h9, h10⟩, rfl, rfl⟩
  | b + 2, h1, h2 => exact ⟨_, _, _, _, ⟨PySem.F.excBase_ArithmeticError, PySem.F.store_ArithmeticError, h1, h2, h3, h4, h5, h6, h7, h8, h9, h10⟩, rfl, rfl⟩
/-- an exception class with an __init__ at f -/
def initB (K : PySem.W.Frag) (C f : Addr) (nm : Str) : Bool :=
  decide (PySem.W.findIn K (.ref C) nm = some none) && (decide (PySem.W.findIn K (.ref C) "__init__" = some (some (.ref f))) && decide (PySem.W.typeIn K (.ref f) = some (.type "function")))
def metaB (K : PySem.W.Frag) : Bool := decide (PySem.W.specialIn K (.builtin "object.__class__") "__get__" = some (some (.builtin "getset_descriptor.__get__"))) && decide (PySem.W.takesIn K (.builtin "object.__class__") = some true)
theorem metaB_ok {K : PySem.W.Frag} (h : metaB K = true) : ClsG K := by
  unfold metaB at h
  rw [Bool.and_eq_true] at h
  exact ⟨of_decide_eq_true h.1, of_decide_eq_true h.2⟩
theorem xc_mk {P : Program} {w : World} {K : PySem.W.Frag} {mg : Str → Option Value} {C fI : Addr} {x f : Str} {b : Nat} {fd : FuncData} (h1 : ecB K C b = true) (h2 : initB K C fI f = true) (hm : mg x = some (.ref C)) (F1 : ∀ base : Heap, FnOk P w K mg base CX0 1 fI fd ["self", f] (spInit K C f))
    (p1 : ∀ (s : Shared) (v u : Value), K.In s.heap → BindsTo s fd ⟨[v, u], []⟩ [("self", v), (f, u)]) (p2 : ∀ (s : Shared) (v u : Value), K.In s.heap → BindsTo s fd ⟨[v], [(f, u)]⟩ [("self", v), (f, u)]) : XC P w K mg C x f := by
  obtain ⟨B, n, i, t, T, _⟩ := ecB_ok h1
  unfold initB at h2
  simp only [Bool.and_eq_true, decide_eq_true_eq] at h2
  obtain ⟨g1, g2, g3⟩ := h2
  refine ⟨⟨B, n, i, t, T⟩, hm, g1, fI, fd, g2, g3, ?_, F1, p1, p2⟩
  unfold PySem.W.takerIn
  rw [g1]
  rfl
theorem xn_mk {K : PySem.W.Frag} {mg : Str → Option Value} {C : Addr} {x : Str} {b : Nat} (h1 : ecB K C b = true) (h2 : PySem.W.excIn K C (tailOf b) (newOf b) = true) (hm : mg x = some (.ref C)) : XN K mg C x := by
  obtain ⟨B, n, i, t, T, e1, e2⟩ := ecB_ok h1
  subst e1 e2
  exact ⟨⟨B, _, i, _, T, h2⟩, hm⟩
end Lamp
set_option Elab.async false
set_option linter.all false
set_option maxRecDepth 100000
set_option maxHeartbeats 2000000
namespace Lamp
open PySem PySem.Spec PyProof.Rows L2 LamX
abbrev sXO : Stmt := inClass (top 10) 0
abbrev sXT : Stmt := inClass (top 11) 0
theorem scXO : FnScope ["self", "given"] ["self", "given"] (defScope sXO) := ⟨rfl, rfl, rfl, by decide +kernel, rfl, by decide +kernel, by decide +kernel⟩
theorem scXT : FnScope ["self", "given"] ["self", "given"] (defScope sXT) := ⟨rfl, rfl, rfl, by decide +kernel, rfl, by decide +kernel, by decide +kernel⟩
abbrev sAns : Stmt := top 45
theorem scAns : FnScope ansN ["_law_call_here"] (defScope sAns) := ⟨rfl, rfl, rfl, by decide +kernel, rfl, by decide +kernel, by decide +kernel⟩
theorem ans_body : ∃ (j1 j2 : Nat) (p1 p2 p3 p4 p5 p6 p7 p8 p9 p10 p11 p12 p13 p14 p15 p16 p17 p18 : Pos), defBody sAns = [.Try [.Assign [.Name "_law_got" p1] (.Call (.Name "_law_call_here" p2) [] [] p3) p4] [.ExceptHandler (some (.Tuple [.Name "WrongValue" p5, .Name "WrongName" p6, .Name "NotPossible" p7] j1 p8)) (some "_law_e") [.Return (some (.Call (.Name "_law_sort" p9) [.Name "_law_e" p10] [] p11)) p12] p13] [] [] p14,
      .Return (some (.List [.Constant (.str "back") j2 p15, .Name "_law_got" p16] p17)) p18] := ⟨_, _, _, _, _, _, _, _, _, _, _, _, _, _, _, _, _, _, _, _, rfl⟩
theorem ansO_mk {P : Program} {w : World} {K : PySem.W.Frag} {mg : Str → Option Value} {base : Heap} {cA cB cC g : Addr} {fd : FuncData} {sp : SpO} {k : Nat} (S : SortO P w K mg base sp k) (mA : mg "WrongValue" = some (.ref cA)) (mB : mg "WrongName" = some (.ref cB)) (mC : mg "NotPossible" = some (.ref cC))
    (F : Fun K "_law_answer" "_law_answer" sAns g fd) (b : Binds K fd ["_law_call_here"] []) (m : mg "_law_answer" = some (.ref g)) (kp : PySem.W.keepIn K (.ref g) = true) : AnsO P w K mg base cA cB cC sp k := by
  obtain ⟨j1, j2, p1, p2, p3, p4, p5, p6, p7, p8, p9, p10, p11, p12, p13, p14, p15, p16, p17, p18, hb⟩ := ans_body
  exact ⟨S, mA, mB, mC, g, sAns, fd, j1, j2, p1, p2, p3, p4, p5, p6, p7, p8, p9, p10, p11, p12, p13, p14, p15, p16, p17, p18, F, b, m, kp, scAns, ⟨rfl, rfl, rfl⟩, ⟨rfl, rfl, rfl, rfl⟩, hb⟩
def xnB (K : PySem.W.Frag) (C : Addr) (b : Nat) : Bool := ecB K C b && PySem.W.excIn K C (tailOf b) (newOf b)
theorem xnB_ok {K : PySem.W.Frag} {mg : Str → Option Value} {C : Addr} {x : Str} {b : Nat} (h : xnB K C b = true) (hm : mg x = some (.ref C)) : XN K mg C x := by
  unfold xnB at h
  rw [Bool.and_eq_true] at h
  obtain ⟨B, n, i, t, T, e1, e2⟩ := ecB_ok h.1
  exact ⟨⟨B, n, i, t, T, by rw [e1, e2]; exact h.2⟩, hm⟩
/-- of one kind of exception -/
def ex1B (K : PySem.W.Frag) (cA cB cC x : Addr) : Bool := decide (PySem.W.exmAny K (.ref x) [.ref cA, .ref cB, .ref cC] = some true) && decide (PySem.W.typeIn K (.ref x) = some (.type "type"))
theorem ex1B_ok {K : PySem.W.Frag} {cA cB cC x : Addr} (h : ex1B K cA cB cC x = true) : PySem.W.exmAny K (.ref x) [.ref cA, .ref cB, .ref cC] = some true ∧ PySem.W.typeIn K (.ref x) = some (.type "type") := by
  unfold ex1B at h
  simp only [Bool.and_eq_true, decide_eq_true_eq] at h
  exact h
/-- an own class without an __eq__ of its own -/
def eqIB (K : PySem.W.Frag) (C : Addr) : Bool := decide (PySem.W.findIn K (.ref C) "__eq__" = some (some (.builtin "object.__eq__"))) && (decide (PySem.W.findIn K (.ref C) "__ne__" = some (some (.builtin "object.__ne__"))) && decide (PySem.W.mroIn K C (.type "object") = some true))
theorem eqIB_ok {K : PySem.W.Frag} {C : Addr} (h : eqIB K C = true) : EqI K C := by
  unfold eqIB at h
  simp only [Bool.and_eq_true, decide_eq_true_eq] at h
  exact ⟨h.1, h.2.1, h.2.2⟩
end Lamp
set_option Elab.async false
set_option linter.all false
set_option maxRecDepth 100000
set_option maxHeartbeats 2000000
namespace Lamp
open PySem PySem.Spec PyProof.Rows L2 ClX LamX
def noneB (K : PySem.W.Frag) : Bool := (["int", "divmod", "len", "abs", "range", "tuple", "sorted", "list", "isinstance", "bool", "str", "enumerate", "repr", "all", "max", "min", "sum", "dict", "ValueError", "LookupError", "ArithmeticError"] : List Str).all fun n => decide (PySem.W.nsIn K mainGlobals n = some none)
theorem none_of {K : PySem.W.Frag} (h : noneB K = true) {n : Str} (hn : n ∈ (["int", "divmod", "len", "abs", "range", "tuple", "sorted", "list", "isinstance", "bool", "str", "enumerate", "repr", "all", "max", "min", "sum", "dict", "ValueError", "LookupError", "ArithmeticError"] : List Str)) : PySem.W.nsIn K mainGlobals n = some none := by
  unfold noneB at h
  rw [List.all_eq_true] at h
  exact of_decide_eq_true (h n hn)
theorem two_of {α : Type} : ∀ {l : List α}, l.length = 2 → ∃ a b, l = [a, b]
  | [a, b], _ => ⟨a, b, rfl⟩
def clsB (K : PySem.W.Frag) (C : Addr) : Bool := PySem.W.plainGet K C Str.empty && (PySem.W.hasDictIn K C && (PySem.W.plainOver K C && (decide (PySem.W.findIn K (.ref C) "__setattr__" = some (some (.builtin "object.__setattr__"))) &&
  (decide (PySem.W.findIn K (.ref C) "_levels" = some none) && (decide (PySem.W.findIn K (.ref C) "_lamps" = some none) && (decide (PySem.W.findIn K (.ref C) "_end" = some none) && (PySem.W.makesIn K C && PySem.W.keepIn K (.ref C))))))))
def eqB (K : PySem.W.Frag) (C : Addr) : Bool := decide (PySem.W.findIn K (.ref C) "__ne__" = some (some (.builtin "object.__ne__"))) && (decide (PySem.W.mroIn K C (.type "object") = some true) && (decide (PySem.W.findIn K (.ref C) "__class__" = some (some (.builtin "object.__class__"))) &&
  (decide (PySem.W.specialIn K (.builtin "object.__class__") "__get__" = some (some (.builtin "getset_descriptor.__get__"))) && (decide (PySem.W.takesIn K (.builtin "object.__class__") = some true) && decide (PySem.W.kitOne K (.ref C) (.ref C) = some true)))))
theorem eqB_ok {K : PySem.W.Frag} {C : Addr} (h : eqB K C = true) : PySem.W.findIn K (.ref C) "__ne__" = some (some (.builtin "object.__ne__")) ∧ PySem.W.mroIn K C (.type "object") = some true ∧ IsR K C := by
  unfold eqB at h
  simp only [Bool.and_eq_true, decide_eq_true_eq] at h
  obtain ⟨h1, h2, h3, h4, h5, h6⟩ := h
  exact ⟨h1, h2, ⟨h3, h4, h5, h2, h6⟩⟩
theorem clsB_ok {K : PySem.W.Frag} {C : Addr} (h : clsB K C = true) : RCls K C ∧ PySem.W.makesIn K C = true ∧ PySem.W.keepIn K (.ref C) = true := by
  unfold clsB at h
  simp only [Bool.and_eq_true, decide_eq_true_eq] at h
  obtain ⟨h1, h2, h3, h4, h5, h6, h7, h8, h9⟩ := h
  exact ⟨⟨⟨h1, h2, h3, h4⟩, h5, h6, h7⟩, h8, h9⟩
def clsSB (K : PySem.W.Frag) (C : Addr) : Bool := PySem.W.plainGet K C Str.empty && (PySem.W.hasDictIn K C && (PySem.W.plainOver K C && (decide (PySem.W.findIn K (.ref C) "__setattr__" = some (some (.builtin "object.__setattr__"))) &&
  (decide (PySem.W.findIn K (.ref C) "_levels" = some none) && (decide (PySem.W.findIn K (.ref C) "_still" = some none) && (decide (PySem.W.findIn K (.ref C) "past" = some none) && (PySem.W.makesIn K C && PySem.W.keepIn K (.ref C))))))))
theorem clsSB_ok {K : PySem.W.Frag} {C : Addr} (h : clsSB K C = true) : SCls K C ∧ PySem.W.makesIn K C = true ∧ PySem.W.keepIn K (.ref C) = true := by
  unfold clsSB at h
  simp only [Bool.and_eq_true, decide_eq_true_eq] at h
  obtain ⟨h1, h2, h3, h4, h5, h6, h7, h8, h9⟩ := h
  exact ⟨⟨⟨h1, h2, h3, h4⟩, h5, h6, h7⟩, h8, h9⟩
theorem all_mk {P : Program} {w : World} {K : PySem.W.Frag} {mg : Str → Option Value} {fa : Addr} {hh : Heap} (X : K.In hh) (G : hh.Ns mainGlobals mg) (hfa : mg "law" = some (.ref fa)) {S' cA cB cC xO xT : Addr} {C aL : Addr} {odL : Option Addr} {tL0 tL1 tL2 tL3 tM : Tok} {nL0 : Nat} {slL : Array (Option Value)} {fII : Addr} {oc_fII kV_fII dc_fII pm_fII cd_fII ct_fII : Value} {od_fII an_fII : Option Addr} {sl_fII : Array (Option Value)} {fIL : Addr} {oc_fIL kV_fIL dc_fIL pm_fIL cd_fIL ct_fIL : Value} {od_fIL an_fIL : Option Addr} {sl_fIL : Array (Option Value)} {fIM : Addr} {oc_fIM kV_fIM dc_fIM pm_fIM cd_fIM ct_fIM : Value} {od_fIM an_fIM : Option Addr} {sl_fIM : Array (Option Value)} {fWL : Addr} {oc_fWL kV_fWL dc_fWL pm_fWL cd_fWL ct_fWL : Value} {od_fWL an_fWL : Option Addr} {sl_fWL : Array (Option Value)} {fRT : Addr} {oc_fRT kV_fRT dc_fRT pm_fRT cd_fRT ct_fRT : Value} {od_fRT an_fRT : Option Addr} {sl_fRT : Array (Option Value)} {fCL : Addr} {oc_fCL kV_fCL dc_fCL pm_fCL cd_fCL ct_fCL : Value} {od_fCL an_fCL : Option Addr} {sl_fCL : Array (Option Value)} {fCR : Addr} {oc_fCR kV_fCR dc_fCR pm_fCR cd_fCR ct_fCR : Value} {od_fCR an_fCR : Option Addr} {sl_fCR : Array (Option Value)} {fCS : Addr} {oc_fCS kV_fCS dc_fCS pm_fCS cd_fCS ct_fCS : Value} {od_fCS an_fCS : Option Addr} {sl_fCS : Array (Option Value)} {fCM : Addr} {oc_fCM kV_fCM dc_fCM pm_fCM cd_fCM ct_fCM : Value} {od_fCM an_fCM : Option Addr} {sl_fCM : Array (Option Value)} {fRo : Addr} {oc_fRo kV_fRo dc_fRo pm_fRo cd_fRo ct_fRo : Value} {od_fRo an_fRo : Option Addr} {sl_fRo : Array (Option Value)} {fTo : Addr} {oc_fTo kV_fTo dc_fTo pm_fTo cd_fTo ct_fTo : Value} {od_fTo an_fTo : Option Addr} {sl_fTo : Array (Option Value)} {fTh : Addr} {oc_fTh kV_fTh dc_fTh pm_fTh cd_fTh ct_fTh : Value} {od_fTh an_fTh : Option Addr} {sl_fTh : Array (Option Value)} {fBe : Addr} {oc_fBe kV_fBe dc_fBe pm_fBe cd_fBe ct_fBe : Value} {od_fBe an_fBe : Option Addr} {sl_fBe : Array (Option Value)} {fCa : Addr} {oc_fCa kV_fCa dc_fCa pm_fCa cd_fCa ct_fCa : Value} {od_fCa an_fCa : Option Addr} {sl_fCa : Array (Option Value)} {fAn : Addr} {oc_fAn kV_fAn dc_fAn pm_fAn cd_fAn ct_fAn : Value} {od_fAn an_fAn : Option Addr} {sl_fAn : Array (Option Value)} {fVa : Addr} {oc_fVa kV_fVa dc_fVa pm_fVa cd_fVa ct_fVa : Value} {od_fVa an_fVa : Option Addr} {sl_fVa : Array (Option Value)} {fPl : Addr} {oc_fPl kV_fPl dc_fPl pm_fPl cd_fPl ct_fPl : Value} {od_fPl an_fPl : Option Addr} {sl_fPl : Array (Option Value)} {fPc : Addr} {oc_fPc kV_fPc dc_fPc pm_fPc cd_fPc ct_fPc : Value} {od_fPc an_fPc : Option Addr} {sl_fPc : Array (Option Value)} {fSh : Addr} {oc_fSh kV_fSh dc_fSh pm_fSh cd_fSh ct_fSh : Value} {od_fSh an_fSh : Option Addr} {sl_fSh : Array (Option Value)} {fOf : Addr} {oc_fOf kV_fOf dc_fOf pm_fOf cd_fOf ct_fOf : Value} {od_fOf an_fOf : Option Addr} {sl_fOf : Array (Option Value)} {fTi : Addr} {oc_fTi kV_fTi dc_fTi pm_fTi cd_fTi ct_fTi : Value} {od_fTi an_fTi : Option Addr} {sl_fTi : Array (Option Value)} {fLT : Addr} {oc_fLT kV_fLT dc_fLT pm_fLT cd_fLT ct_fLT : Value} {od_fLT an_fLT : Option Addr} {sl_fLT : Array (Option Value)} {fMa : Addr} {oc_fMa kV_fMa dc_fMa pm_fMa cd_fMa ct_fMa : Value} {od_fMa an_fMa : Option Addr} {sl_fMa : Array (Option Value)} {fMr : Addr} {oc_fMr kV_fMr dc_fMr pm_fMr cd_fMr ct_fMr : Value} {od_fMr an_fMr : Option Addr} {sl_fMr : Array (Option Value)} {fSw : Addr} {oc_fSw kV_fSw dc_fSw pm_fSw cd_fSw ct_fSw : Value} {od_fSw an_fSw : Option Addr} {sl_fSw : Array (Option Value)} {fSo : Addr} {oc_fSo kV_fSo dc_fSo pm_fSo cd_fSo ct_fSo : Value} {od_fSo an_fSo : Option Addr} {sl_fSo : Array (Option Value)} {fAw : Addr} {oc_fAw kV_fAw dc_fAw pm_fAw cd_fAw ct_fAw : Value} {od_fAw an_fAw : Option Addr} {sl_fAw : Array (Option Value)} {fRg : Addr} {oc_fRg kV_fRg dc_fRg pm_fRg cd_fRg ct_fRg : Value} {od_fRg an_fRg : Option Addr} {sl_fRg : Array (Option Value)} {fLaw : Addr} {oc_fLaw kV_fLaw dc_fLaw pm_fLaw cd_fLaw ct_fLaw : Value} {od_fLaw an_fLaw : Option Addr} {sl_fLaw : Array (Option Value)} {gIn : Addr} {oc_gIn kV_gIn dc_gIn pm_gIn cd_gIn ct_gIn : Value} {od_gIn an_gIn : Option Addr} {sl_gIn : Array (Option Value)} {gEq : Addr} {oc_gEq kV_gEq dc_gEq pm_gEq cd_gEq ct_gEq : Value} {od_gEq an_gEq : Option Addr} {sl_gEq : Array (Option Value)} {hIn : Addr} {oc_hIn kV_hIn dc_hIn pm_hIn cd_hIn ct_hIn : Value} {od_hIn an_hIn : Option Addr} {sl_hIn : Array (Option Value)} {hDo : Addr} {oc_hDo kV_hDo dc_hDo pm_hDo cd_hDo ct_hDo : Value} {od_hDo an_hDo : Option Addr} {sl_hDo : Array (Option Value)} {hLn : Addr} {oc_hLn kV_hLn dc_hLn pm_hLn cd_hLn ct_hLn : Value} {od_hLn an_hLn : Option Addr} {sl_hLn : Array (Option Value)} {hBo : Addr} {oc_hBo kV_hBo dc_hBo pm_hBo cd_hBo ct_hBo : Value} {od_hBo an_hBo : Option Addr} {sl_hBo : Array (Option Value)} {iO : Addr} {oc_iO kV_iO dc_iO pm_iO cd_iO ct_iO : Value} {od_iO an_iO : Option Addr} {sl_iO : Array (Option Value)} {iT : Addr} {oc_iT kV_iT dc_iT pm_iT cd_iT ct_iT : Value} {od_iT an_iT : Option Addr} {sl_iT : Array (Option Value)} {gLv : Addr} {oc_gLv kV_gLv dc_gLv pm_gLv cd_gLv ct_gLv : Value} {od_gLv an_gLv : Option Addr} {sl_gLv : Array (Option Value)} {p_gLv : Addr} {rest_gLv : List Value} {gLa : Addr} {oc_gLa kV_gLa dc_gLa pm_gLa cd_gLa ct_gLa : Value} {od_gLa an_gLa : Option Addr} {sl_gLa : Array (Option Value)} {p_gLa : Addr} {rest_gLa : List Value} {gEn : Addr} {oc_gEn kV_gEn dc_gEn pm_gEn cd_gEn ct_gEn : Value} {od_gEn an_gEn : Option Addr} {sl_gEn : Array (Option Value)} {p_gEn : Addr} {rest_gEn : List Value} {gTx : Addr} {oc_gTx kV_gTx dc_gTx pm_gTx cd_gTx ct_gTx : Value} {od_gTx an_gTx : Option Addr} {sl_gTx : Array (Option Value)} {p_gTx : Addr} {rest_gTx : List Value} {hLv : Addr} {oc_hLv kV_hLv dc_hLv pm_hLv cd_hLv ct_hLv : Value} {od_hLv an_hLv : Option Addr} {sl_hLv : Array (Option Value)} {p_hLv : Addr} {rest_hLv : List Value} {hTr : Addr} {oc_hTr kV_hTr dc_hTr pm_hTr cd_hTr ct_hTr : Value} {od_hTr an_hTr : Option Addr} {sl_hTr : Array (Option Value)} {p_hTr : Addr} {rest_hTr : List Value} {hPl : Addr} {oc_hPl kV_hPl dc_hPl pm_hPl cd_hPl ct_hPl : Value} {od_hPl an_hPl : Option Addr} {sl_hPl : Array (Option Value)} {p_hPl : Addr} {rest_hPl : List Value} {hLa : Addr} {oc_hLa kV_hLa dc_hLa pm_hLa cd_hLa ct_hLa : Value} {od_hLa an_hLa : Option Addr} {sl_hLa : Array (Option Value)} {p_hLa : Addr} {rest_hLa : List Value} {hDn : Addr} {oc_hDn kV_hDn dc_hDn pm_hDn cd_hDn ct_hDn : Value} {od_hDn an_hDn : Option Addr} {sl_hDn : Array (Option Value)} {p_hDn : Addr} {rest_hDn : List Value}
    (nC : PySem.W.nsIn K mainGlobals "Round" = some (some (.ref C)))
    (nS : PySem.W.nsIn K mainGlobals "Street" = some (some (.ref S')))
    (n_cA : PySem.W.nsIn K mainGlobals "WrongValue" = some (some (.ref cA)))
    (n_cB : PySem.W.nsIn K mainGlobals "WrongName" = some (some (.ref cB)))
    (n_cC : PySem.W.nsIn K mainGlobals "NotPossible" = some (some (.ref cC)))
    (n_xO : PySem.W.nsIn K mainGlobals "OtherLevels" = some (some (.ref xO)))
    (n_xT : PySem.W.nsIn K mainGlobals "TooMany" = some (some (.ref xT)))
    (nf_fII : PySem.W.nsIn K mainGlobals "is_integer" = some (some (.ref fII)))
    (lf_fII : K.lookup fII = some ⟨oc_fII, od_fII, .func (PySem.W.fnOf "is_integer" "is_integer" (defArgs sIsInt) (defBody sIsInt) (defScope sIsInt) .none kV_fII dc_fII pm_fII an_fII cd_fII ct_fII), sl_fII⟩)
    (cf_fII : PySem.W.codeIn K cd_fII "is_integer" = true)
    (kf_fII : PySem.W.keepIn K (.ref fII) = true)
    (nf_fIL : PySem.W.nsIn K mainGlobals "is_levels" = some (some (.ref fIL)))
    (lf_fIL : K.lookup fIL = some ⟨oc_fIL, od_fIL, .func (PySem.W.fnOf "is_levels" "is_levels" (defArgs sIsLevels) (defBody sIsLevels) (defScope sIsLevels) .none kV_fIL dc_fIL pm_fIL an_fIL cd_fIL ct_fIL), sl_fIL⟩)
    (cf_fIL : PySem.W.codeIn K cd_fIL "is_levels" = true)
    (kf_fIL : PySem.W.keepIn K (.ref fIL) = true)
    (nf_fIM : PySem.W.nsIn K mainGlobals "is_lamp" = some (some (.ref fIM)))
    (lf_fIM : K.lookup fIM = some ⟨oc_fIM, od_fIM, .func (PySem.W.fnOf "is_lamp" "is_lamp" (defArgs sIsLamp) (defBody sIsLamp) (defScope sIsLamp) .none kV_fIM dc_fIM pm_fIM an_fIM cd_fIM ct_fIM), sl_fIM⟩)
    (cf_fIM : PySem.W.codeIn K cd_fIM "is_lamp" = true)
    (kf_fIM : PySem.W.keepIn K (.ref fIM) = true)
    (nf_fWL : PySem.W.nsIn K mainGlobals "wrong_lamp" = some (some (.ref fWL)))
    (lf_fWL : K.lookup fWL = some ⟨oc_fWL, od_fWL, .func (PySem.W.fnOf "wrong_lamp" "wrong_lamp" (defArgs sWrong) (defBody sWrong) (defScope sWrong) .none kV_fWL dc_fWL pm_fWL an_fWL cd_fWL ct_fWL), sl_fWL⟩)
    (cf_fWL : PySem.W.codeIn K cd_fWL "wrong_lamp" = true)
    (kf_fWL : PySem.W.keepIn K (.ref fWL) = true)
    (nf_fRT : PySem.W.nsIn K mainGlobals "round_text" = some (some (.ref fRT)))
    (lf_fRT : K.lookup fRT = some ⟨oc_fRT, od_fRT, .func (PySem.W.fnOf "round_text" "round_text" (defArgs sRoundText) (defBody sRoundText) (defScope sRoundText) .none kV_fRT dc_fRT pm_fRT an_fRT cd_fRT ct_fRT), sl_fRT⟩)
    (cf_fRT : PySem.W.codeIn K cd_fRT "round_text" = true)
    (kf_fRT : PySem.W.keepIn K (.ref fRT) = true)
    (nf_fCL : PySem.W.nsIn K mainGlobals "check_levels" = some (some (.ref fCL)))
    (lf_fCL : K.lookup fCL = some ⟨oc_fCL, od_fCL, .func (PySem.W.fnOf "check_levels" "check_levels" (defArgs sCkLv) (defBody sCkLv) (defScope sCkLv) .none kV_fCL dc_fCL pm_fCL an_fCL cd_fCL ct_fCL), sl_fCL⟩)
    (cf_fCL : PySem.W.codeIn K cd_fCL "check_levels" = true)
    (kf_fCL : PySem.W.keepIn K (.ref fCL) = true)
    (nf_fCR : PySem.W.nsIn K mainGlobals "check_round" = some (some (.ref fCR)))
    (lf_fCR : K.lookup fCR = some ⟨oc_fCR, od_fCR, .func (PySem.W.fnOf "check_round" "check_round" (defArgs sCkR) (defBody sCkR) (defScope sCkR) .none kV_fCR dc_fCR pm_fCR an_fCR cd_fCR ct_fCR), sl_fCR⟩)
    (cf_fCR : PySem.W.codeIn K cd_fCR "check_round" = true)
    (kf_fCR : PySem.W.keepIn K (.ref fCR) = true)
    (nf_fCS : PySem.W.nsIn K mainGlobals "check_rounds" = some (some (.ref fCS)))
    (lf_fCS : K.lookup fCS = some ⟨oc_fCS, od_fCS, .func (PySem.W.fnOf "check_rounds" "check_rounds" (defArgs sCkRs) (defBody sCkRs) (defScope sCkRs) .none kV_fCS dc_fCS pm_fCS an_fCS cd_fCS ct_fCS), sl_fCS⟩)
    (cf_fCS : PySem.W.codeIn K cd_fCS "check_rounds" = true)
    (kf_fCS : PySem.W.keepIn K (.ref fCS) = true)
    (nf_fCM : PySem.W.nsIn K mainGlobals "check_many" = some (some (.ref fCM)))
    (lf_fCM : K.lookup fCM = some ⟨oc_fCM, od_fCM, .func (PySem.W.fnOf "check_many" "check_many" (defArgs sCkMany) (defBody sCkMany) (defScope sCkMany) .none kV_fCM dc_fCM pm_fCM an_fCM cd_fCM ct_fCM), sl_fCM⟩)
    (cf_fCM : PySem.W.codeIn K cd_fCM "check_many" = true)
    (kf_fCM : PySem.W.keepIn K (.ref fCM) = true)
    (nf_fRo : PySem.W.nsIn K mainGlobals "round_of_lamps" = some (some (.ref fRo)))
    (lf_fRo : K.lookup fRo = some ⟨oc_fRo, od_fRo, .func (PySem.W.fnOf "round_of_lamps" "round_of_lamps" (defArgs sRol) (defBody sRol) (defScope sRol) .none kV_fRo dc_fRo pm_fRo an_fRo cd_fRo ct_fRo), sl_fRo⟩)
    (cf_fRo : PySem.W.codeIn K cd_fRo "round_of_lamps" = true)
    (kf_fRo : PySem.W.keepIn K (.ref fRo) = true)
    (nf_fTo : PySem.W.nsIn K mainGlobals "total" = some (some (.ref fTo)))
    (lf_fTo : K.lookup fTo = some ⟨oc_fTo, od_fTo, .func (PySem.W.fnOf "total" "total" (defArgs sTotal) (defBody sTotal) (defScope sTotal) .none kV_fTo dc_fTo pm_fTo an_fTo cd_fTo ct_fTo), sl_fTo⟩)
    (cf_fTo : PySem.W.codeIn K cd_fTo "total" = true)
    (kf_fTo : PySem.W.keepIn K (.ref fTo) = true)
    (nf_fTh : PySem.W.nsIn K mainGlobals "then" = some (some (.ref fTh)))
    (lf_fTh : K.lookup fTh = some ⟨oc_fTh, od_fTh, .func (PySem.W.fnOf "then" "then" (defArgs sThen) (defBody sThen) (defScope sThen) .none kV_fTh dc_fTh pm_fTh an_fTh cd_fTh ct_fTh), sl_fTh⟩)
    (cf_fTh : PySem.W.codeIn K cd_fTh "then" = true)
    (kf_fTh : PySem.W.keepIn K (.ref fTh) = true)
    (nf_fBe : PySem.W.nsIn K mainGlobals "_law_begun" = some (some (.ref fBe)))
    (lf_fBe : K.lookup fBe = some ⟨oc_fBe, od_fBe, .func (PySem.W.fnOf "_law_begun" "_law_begun" (defArgs sBegun) (defBody sBegun) (defScope sBegun) .none kV_fBe dc_fBe pm_fBe an_fBe cd_fBe ct_fBe), sl_fBe⟩)
    (cf_fBe : PySem.W.codeIn K cd_fBe "_law_begun" = true)
    (kf_fBe : PySem.W.keepIn K (.ref fBe) = true)
    (nf_fCa : PySem.W.nsIn K mainGlobals "_law_cast" = some (some (.ref fCa)))
    (lf_fCa : K.lookup fCa = some ⟨oc_fCa, od_fCa, .func (PySem.W.fnOf "_law_cast" "_law_cast" (defArgs sCast) (defBody sCast) (defScope sCast) .none kV_fCa dc_fCa pm_fCa an_fCa cd_fCa ct_fCa), sl_fCa⟩)
    (cf_fCa : PySem.W.codeIn K cd_fCa "_law_cast" = true)
    (kf_fCa : PySem.W.keepIn K (.ref fCa) = true)
    (nf_fAn : PySem.W.nsIn K mainGlobals "_law_any_of" = some (some (.ref fAn)))
    (lf_fAn : K.lookup fAn = some ⟨oc_fAn, od_fAn, .func (PySem.W.fnOf "_law_any_of" "_law_any_of" (defArgs sAny) (defBody sAny) (defScope sAny) .none kV_fAn dc_fAn pm_fAn an_fAn cd_fAn ct_fAn), sl_fAn⟩)
    (cf_fAn : PySem.W.codeIn K cd_fAn "_law_any_of" = true)
    (kf_fAn : PySem.W.keepIn K (.ref fAn) = true)
    (nf_fVa : PySem.W.nsIn K mainGlobals "_law_vast" = some (some (.ref fVa)))
    (lf_fVa : K.lookup fVa = some ⟨oc_fVa, od_fVa, .func (PySem.W.fnOf "_law_vast" "_law_vast" (defArgs sVast) (defBody sVast) (defScope sVast) .none kV_fVa dc_fVa pm_fVa an_fVa cd_fVa ct_fVa), sl_fVa⟩)
    (cf_fVa : PySem.W.codeIn K cd_fVa "_law_vast" = true)
    (kf_fVa : PySem.W.keepIn K (.ref fVa) = true)
    (nf_fPl : PySem.W.nsIn K mainGlobals "_law_place" = some (some (.ref fPl)))
    (lf_fPl : K.lookup fPl = some ⟨oc_fPl, od_fPl, .func (PySem.W.fnOf "_law_place" "_law_place" (defArgs sPlace) (defBody sPlace) (defScope sPlace) .none kV_fPl dc_fPl pm_fPl an_fPl cd_fPl ct_fPl), sl_fPl⟩)
    (cf_fPl : PySem.W.codeIn K cd_fPl "_law_place" = true)
    (kf_fPl : PySem.W.keepIn K (.ref fPl) = true)
    (nf_fPc : PySem.W.nsIn K mainGlobals "_law_picture" = some (some (.ref fPc)))
    (lf_fPc : K.lookup fPc = some ⟨oc_fPc, od_fPc, .func (PySem.W.fnOf "_law_picture" "_law_picture" (defArgs sPicture) (defBody sPicture) (defScope sPicture) .none kV_fPc dc_fPc pm_fPc an_fPc cd_fPc ct_fPc), sl_fPc⟩)
    (cf_fPc : PySem.W.codeIn K cd_fPc "_law_picture" = true)
    (kf_fPc : PySem.W.keepIn K (.ref fPc) = true)
    (nf_fSh : PySem.W.nsIn K mainGlobals "_law_sheet" = some (some (.ref fSh)))
    (lf_fSh : K.lookup fSh = some ⟨oc_fSh, od_fSh, .func (PySem.W.fnOf "_law_sheet" "_law_sheet" (defArgs sSheet) (defBody sSheet) (defScope sSheet) .none kV_fSh dc_fSh pm_fSh an_fSh cd_fSh ct_fSh), sl_fSh⟩)
    (cf_fSh : PySem.W.codeIn K cd_fSh "_law_sheet" = true)
    (kf_fSh : PySem.W.keepIn K (.ref fSh) = true)
    (nf_fOf : PySem.W.nsIn K mainGlobals "_law_of" = some (some (.ref fOf)))
    (lf_fOf : K.lookup fOf = some ⟨oc_fOf, od_fOf, .func (PySem.W.fnOf "_law_of" "_law_of" (defArgs sOf) (defBody sOf) (defScope sOf) .none kV_fOf dc_fOf pm_fOf an_fOf cd_fOf ct_fOf), sl_fOf⟩)
    (cf_fOf : PySem.W.codeIn K cd_fOf "_law_of" = true)
    (kf_fOf : PySem.W.keepIn K (.ref fOf) = true)
    (nf_fTi : PySem.W.nsIn K mainGlobals "_law_tidy" = some (some (.ref fTi)))
    (lf_fTi : K.lookup fTi = some ⟨oc_fTi, od_fTi, .func (PySem.W.fnOf "_law_tidy" "_law_tidy" (defArgs sTidy) (defBody sTidy) (defScope sTidy) .none kV_fTi dc_fTi pm_fTi an_fTi cd_fTi ct_fTi), sl_fTi⟩)
    (cf_fTi : PySem.W.codeIn K cd_fTi "_law_tidy" = true)
    (kf_fTi : PySem.W.keepIn K (.ref fTi) = true)
    (nf_fLT : PySem.W.nsIn K mainGlobals "_law_then" = some (some (.ref fLT)))
    (lf_fLT : K.lookup fLT = some ⟨oc_fLT, od_fLT, .func (PySem.W.fnOf "_law_then" "_law_then" (defArgs sLThen) (defBody sLThen) (defScope sLThen) .none kV_fLT dc_fLT pm_fLT an_fLT cd_fLT ct_fLT), sl_fLT⟩)
    (cf_fLT : PySem.W.codeIn K cd_fLT "_law_then" = true)
    (kf_fLT : PySem.W.keepIn K (.ref fLT) = true)
    (nf_fMa : PySem.W.nsIn K mainGlobals "_law_mate" = some (some (.ref fMa)))
    (lf_fMa : K.lookup fMa = some ⟨oc_fMa, od_fMa, .func (PySem.W.fnOf "_law_mate" "_law_mate" (defArgs sMate) (defBody sMate) (defScope sMate) .none kV_fMa dc_fMa pm_fMa an_fMa cd_fMa ct_fMa), sl_fMa⟩)
    (cf_fMa : PySem.W.codeIn K cd_fMa "_law_mate" = true)
    (kf_fMa : PySem.W.keepIn K (.ref fMa) = true)
    (nf_fMr : PySem.W.nsIn K mainGlobals "_law_many_right" = some (some (.ref fMr)))
    (lf_fMr : K.lookup fMr = some ⟨oc_fMr, od_fMr, .func (PySem.W.fnOf "_law_many_right" "_law_many_right" (defArgs sMany) (defBody sMany) (defScope sMany) .none kV_fMr dc_fMr pm_fMr an_fMr cd_fMr ct_fMr), sl_fMr⟩)
    (cf_fMr : PySem.W.codeIn K cd_fMr "_law_many_right" = true)
    (kf_fMr : PySem.W.keepIn K (.ref fMr) = true)
    (nf_fSw : PySem.W.nsIn K mainGlobals "_law_shows" = some (some (.ref fSw)))
    (lf_fSw : K.lookup fSw = some ⟨oc_fSw, od_fSw, .func (PySem.W.fnOf "_law_shows" "_law_shows" (defArgs sShows) (defBody sShows) (defScope sShows) .none kV_fSw dc_fSw pm_fSw an_fSw cd_fSw ct_fSw), sl_fSw⟩)
    (cf_fSw : PySem.W.codeIn K cd_fSw "_law_shows" = true)
    (kf_fSw : PySem.W.keepIn K (.ref fSw) = true)
    (nf_fSo : PySem.W.nsIn K mainGlobals "_law_sort" = some (some (.ref fSo)))
    (lf_fSo : K.lookup fSo = some ⟨oc_fSo, od_fSo, .func (PySem.W.fnOf "_law_sort" "_law_sort" (defArgs sSort) (defBody sSort) (defScope sSort) .none kV_fSo dc_fSo pm_fSo an_fSo cd_fSo ct_fSo), sl_fSo⟩)
    (cf_fSo : PySem.W.codeIn K cd_fSo "_law_sort" = true)
    (kf_fSo : PySem.W.keepIn K (.ref fSo) = true)
    (nf_fAw : PySem.W.nsIn K mainGlobals "_law_answer" = some (some (.ref fAw)))
    (lf_fAw : K.lookup fAw = some ⟨oc_fAw, od_fAw, .func (PySem.W.fnOf "_law_answer" "_law_answer" (defArgs sAns) (defBody sAns) (defScope sAns) .none kV_fAw dc_fAw pm_fAw an_fAw cd_fAw ct_fAw), sl_fAw⟩)
    (cf_fAw : PySem.W.codeIn K cd_fAw "_law_answer" = true)
    (kf_fAw : PySem.W.keepIn K (.ref fAw) = true)
    (nf_fRg : PySem.W.nsIn K mainGlobals "_law_right" = some (some (.ref fRg)))
    (lf_fRg : K.lookup fRg = some ⟨oc_fRg, od_fRg, .func (PySem.W.fnOf "_law_right" "_law_right" (defArgs sRight) (defBody sRight) (defScope sRight) .none kV_fRg dc_fRg pm_fRg an_fRg cd_fRg ct_fRg), sl_fRg⟩)
    (cf_fRg : PySem.W.codeIn K cd_fRg "_law_right" = true)
    (kf_fRg : PySem.W.keepIn K (.ref fRg) = true)
    (nf_fLaw : PySem.W.nsIn K mainGlobals "law" = some (some (.ref fLaw)))
    (lf_fLaw : K.lookup fLaw = some ⟨oc_fLaw, od_fLaw, .func (PySem.W.fnOf "law" "law" (defArgs sLaw) (defBody sLaw) (defScope sLaw) .none kV_fLaw dc_fLaw pm_fLaw an_fLaw cd_fLaw ct_fLaw), sl_fLaw⟩)
    (cf_fLaw : PySem.W.codeIn K cd_fLaw "law" = true)
    (kf_fLaw : PySem.W.keepIn K (.ref fLaw) = true)
    (fm_gIn : PySem.W.findIn K (.ref C) "__init__" = some (some (.ref gIn)))
    (lf_gIn : K.lookup gIn = some ⟨oc_gIn, od_gIn, .func (PySem.W.fnOf "__init__" "Round.__init__" (defArgs sInit) (defBody sInit) (defScope sInit) .none kV_gIn dc_gIn pm_gIn an_gIn cd_gIn ct_gIn), sl_gIn⟩)
    (cf_gIn : PySem.W.codeIn K cd_gIn "Round.__init__" = true)
    (kf_gIn : PySem.W.keepIn K (.ref gIn) = true)
    (if_gIn : PySem.W.isFn K (.ref gIn) = true)
    (fm_gEq : PySem.W.findIn K (.ref C) "__eq__" = some (some (.ref gEq)))
    (lf_gEq : K.lookup gEq = some ⟨oc_gEq, od_gEq, .func (PySem.W.fnOf "__eq__" "Round.__eq__" (defArgs sEqR) (defBody sEqR) (defScope sEqR) .none kV_gEq dc_gEq pm_gEq an_gEq cd_gEq ct_gEq), sl_gEq⟩)
    (cf_gEq : PySem.W.codeIn K cd_gEq "Round.__eq__" = true)
    (kf_gEq : PySem.W.keepIn K (.ref gEq) = true)
    (if_gEq : PySem.W.isFn K (.ref gEq) = true)
    (fm_hIn : PySem.W.findIn K (.ref S') "__init__" = some (some (.ref hIn)))
    (lf_hIn : K.lookup hIn = some ⟨oc_hIn, od_hIn, .func (PySem.W.fnOf "__init__" "Street.__init__" (defArgs sStInit) (defBody sStInit) (defScope sStInit) .none kV_hIn dc_hIn pm_hIn an_hIn cd_hIn ct_hIn), sl_hIn⟩)
    (cf_hIn : PySem.W.codeIn K cd_hIn "Street.__init__" = true)
    (kf_hIn : PySem.W.keepIn K (.ref hIn) = true)
    (if_hIn : PySem.W.isFn K (.ref hIn) = true)
    (fm_hDo : PySem.W.findIn K (.ref S') "do" = some (some (.ref hDo)))
    (lf_hDo : K.lookup hDo = some ⟨oc_hDo, od_hDo, .func (PySem.W.fnOf "do" "Street.do" (defArgs sDo) (defBody sDo) (defScope sDo) .none kV_hDo dc_hDo pm_hDo an_hDo cd_hDo ct_hDo), sl_hDo⟩)
    (cf_hDo : PySem.W.codeIn K cd_hDo "Street.do" = true)
    (kf_hDo : PySem.W.keepIn K (.ref hDo) = true)
    (if_hDo : PySem.W.isFn K (.ref hDo) = true)
    (fm_hLn : PySem.W.findIn K (.ref S') "__len__" = some (some (.ref hLn)))
    (lf_hLn : K.lookup hLn = some ⟨oc_hLn, od_hLn, .func (PySem.W.fnOf "__len__" "Street.__len__" (defArgs sStLen) (defBody sStLen) (defScope sStLen) .none kV_hLn dc_hLn pm_hLn an_hLn cd_hLn ct_hLn), sl_hLn⟩)
    (cf_hLn : PySem.W.codeIn K cd_hLn "Street.__len__" = true)
    (kf_hLn : PySem.W.keepIn K (.ref hLn) = true)
    (if_hLn : PySem.W.isFn K (.ref hLn) = true)
    (fm_hBo : PySem.W.findIn K (.ref S') "__bool__" = some (some (.ref hBo)))
    (lf_hBo : K.lookup hBo = some ⟨oc_hBo, od_hBo, .func (PySem.W.fnOf "__bool__" "Street.__bool__" (defArgs sStBool) (defBody sStBool) (defScope sStBool) .none kV_hBo dc_hBo pm_hBo an_hBo cd_hBo ct_hBo), sl_hBo⟩)
    (cf_hBo : PySem.W.codeIn K cd_hBo "Street.__bool__" = true)
    (kf_hBo : PySem.W.keepIn K (.ref hBo) = true)
    (if_hBo : PySem.W.isFn K (.ref hBo) = true)
    (fm_iO : PySem.W.findIn K (.ref xO) "__init__" = some (some (.ref iO)))
    (lf_iO : K.lookup iO = some ⟨oc_iO, od_iO, .func (PySem.W.fnOf "__init__" "OtherLevels.__init__" (defArgs sXO) (defBody sXO) (defScope sXO) .none kV_iO dc_iO pm_iO an_iO cd_iO ct_iO), sl_iO⟩)
    (cf_iO : PySem.W.codeIn K cd_iO "OtherLevels.__init__" = true)
    (kf_iO : PySem.W.keepIn K (.ref iO) = true)
    (if_iO : PySem.W.isFn K (.ref iO) = true)
    (fm_iT : PySem.W.findIn K (.ref xT) "__init__" = some (some (.ref iT)))
    (lf_iT : K.lookup iT = some ⟨oc_iT, od_iT, .func (PySem.W.fnOf "__init__" "TooMany.__init__" (defArgs sXT) (defBody sXT) (defScope sXT) .none kV_iT dc_iT pm_iT an_iT cd_iT ct_iT), sl_iT⟩)
    (cf_iT : PySem.W.codeIn K cd_iT "TooMany.__init__" = true)
    (kf_iT : PySem.W.keepIn K (.ref iT) = true)
    (if_iT : PySem.W.isFn K (.ref iT) = true)
    (pa_gLv : PySem.W.findIn K (.ref C) "levels" = some (some (.ref p_gLv)))
    (pr_gLv : PySem.W.recIn K p_gLv "property" = some (.ref gLv :: rest_gLv))
    (pg_gLv : PySem.W.specialIn K (.ref p_gLv) "__get__" = some (some (.builtin "property.__get__")))
    (pt_gLv : PySem.W.takesIn K (.ref p_gLv) = some true)
    (lf_gLv : K.lookup gLv = some ⟨oc_gLv, od_gLv, .func (PySem.W.fnOf "levels" "Round.levels" (defArgs sLevels) (defBody sLevels) (defScope sLevels) .none kV_gLv dc_gLv pm_gLv an_gLv cd_gLv ct_gLv), sl_gLv⟩)
    (cf_gLv : PySem.W.codeIn K cd_gLv "Round.levels" = true)
    (kf_gLv : PySem.W.keepIn K (.ref gLv) = true)
    (pa_gLa : PySem.W.findIn K (.ref C) "lamps" = some (some (.ref p_gLa)))
    (pr_gLa : PySem.W.recIn K p_gLa "property" = some (.ref gLa :: rest_gLa))
    (pg_gLa : PySem.W.specialIn K (.ref p_gLa) "__get__" = some (some (.builtin "property.__get__")))
    (pt_gLa : PySem.W.takesIn K (.ref p_gLa) = some true)
    (lf_gLa : K.lookup gLa = some ⟨oc_gLa, od_gLa, .func (PySem.W.fnOf "lamps" "Round.lamps" (defArgs sLampsP) (defBody sLampsP) (defScope sLampsP) .none kV_gLa dc_gLa pm_gLa an_gLa cd_gLa ct_gLa), sl_gLa⟩)
    (cf_gLa : PySem.W.codeIn K cd_gLa "Round.lamps" = true)
    (kf_gLa : PySem.W.keepIn K (.ref gLa) = true)
    (pa_gEn : PySem.W.findIn K (.ref C) "end" = some (some (.ref p_gEn)))
    (pr_gEn : PySem.W.recIn K p_gEn "property" = some (.ref gEn :: rest_gEn))
    (pg_gEn : PySem.W.specialIn K (.ref p_gEn) "__get__" = some (some (.builtin "property.__get__")))
    (pt_gEn : PySem.W.takesIn K (.ref p_gEn) = some true)
    (lf_gEn : K.lookup gEn = some ⟨oc_gEn, od_gEn, .func (PySem.W.fnOf "end" "Round.end" (defArgs sEnd) (defBody sEnd) (defScope sEnd) .none kV_gEn dc_gEn pm_gEn an_gEn cd_gEn ct_gEn), sl_gEn⟩)
    (cf_gEn : PySem.W.codeIn K cd_gEn "Round.end" = true)
    (kf_gEn : PySem.W.keepIn K (.ref gEn) = true)
    (pa_gTx : PySem.W.findIn K (.ref C) "text" = some (some (.ref p_gTx)))
    (pr_gTx : PySem.W.recIn K p_gTx "property" = some (.ref gTx :: rest_gTx))
    (pg_gTx : PySem.W.specialIn K (.ref p_gTx) "__get__" = some (some (.builtin "property.__get__")))
    (pt_gTx : PySem.W.takesIn K (.ref p_gTx) = some true)
    (lf_gTx : K.lookup gTx = some ⟨oc_gTx, od_gTx, .func (PySem.W.fnOf "text" "Round.text" (defArgs sText) (defBody sText) (defScope sText) .none kV_gTx dc_gTx pm_gTx an_gTx cd_gTx ct_gTx), sl_gTx⟩)
    (cf_gTx : PySem.W.codeIn K cd_gTx "Round.text" = true)
    (kf_gTx : PySem.W.keepIn K (.ref gTx) = true)
    (pa_hLv : PySem.W.findIn K (.ref S') "levels" = some (some (.ref p_hLv)))
    (pr_hLv : PySem.W.recIn K p_hLv "property" = some (.ref hLv :: rest_hLv))
    (pg_hLv : PySem.W.specialIn K (.ref p_hLv) "__get__" = some (some (.builtin "property.__get__")))
    (pt_hLv : PySem.W.takesIn K (.ref p_hLv) = some true)
    (lf_hLv : K.lookup hLv = some ⟨oc_hLv, od_hLv, .func (PySem.W.fnOf "levels" "Street.levels" (defArgs sStLevels) (defBody sStLevels) (defScope sStLevels) .none kV_hLv dc_hLv pm_hLv an_hLv cd_hLv ct_hLv), sl_hLv⟩)
    (cf_hLv : PySem.W.codeIn K cd_hLv "Street.levels" = true)
    (kf_hLv : PySem.W.keepIn K (.ref hLv) = true)
    (pa_hTr : PySem.W.findIn K (.ref S') "trip" = some (some (.ref p_hTr)))
    (pr_hTr : PySem.W.recIn K p_hTr "property" = some (.ref hTr :: rest_hTr))
    (pg_hTr : PySem.W.specialIn K (.ref p_hTr) "__get__" = some (some (.builtin "property.__get__")))
    (pt_hTr : PySem.W.takesIn K (.ref p_hTr) = some true)
    (lf_hTr : K.lookup hTr = some ⟨oc_hTr, od_hTr, .func (PySem.W.fnOf "trip" "Street.trip" (defArgs sStTrip) (defBody sStTrip) (defScope sStTrip) .none kV_hTr dc_hTr pm_hTr an_hTr cd_hTr ct_hTr), sl_hTr⟩)
    (cf_hTr : PySem.W.codeIn K cd_hTr "Street.trip" = true)
    (kf_hTr : PySem.W.keepIn K (.ref hTr) = true)
    (pa_hPl : PySem.W.findIn K (.ref S') "place" = some (some (.ref p_hPl)))
    (pr_hPl : PySem.W.recIn K p_hPl "property" = some (.ref hPl :: rest_hPl))
    (pg_hPl : PySem.W.specialIn K (.ref p_hPl) "__get__" = some (some (.builtin "property.__get__")))
    (pt_hPl : PySem.W.takesIn K (.ref p_hPl) = some true)
    (lf_hPl : K.lookup hPl = some ⟨oc_hPl, od_hPl, .func (PySem.W.fnOf "place" "Street.place" (defArgs sStPlace) (defBody sStPlace) (defScope sStPlace) .none kV_hPl dc_hPl pm_hPl an_hPl cd_hPl ct_hPl), sl_hPl⟩)
    (cf_hPl : PySem.W.codeIn K cd_hPl "Street.place" = true)
    (kf_hPl : PySem.W.keepIn K (.ref hPl) = true)
    (pa_hLa : PySem.W.findIn K (.ref S') "lamps" = some (some (.ref p_hLa)))
    (pr_hLa : PySem.W.recIn K p_hLa "property" = some (.ref hLa :: rest_hLa))
    (pg_hLa : PySem.W.specialIn K (.ref p_hLa) "__get__" = some (some (.builtin "property.__get__")))
    (pt_hLa : PySem.W.takesIn K (.ref p_hLa) = some true)
    (lf_hLa : K.lookup hLa = some ⟨oc_hLa, od_hLa, .func (PySem.W.fnOf "lamps" "Street.lamps" (defArgs sStLamps) (defBody sStLamps) (defScope sStLamps) .none kV_hLa dc_hLa pm_hLa an_hLa cd_hLa ct_hLa), sl_hLa⟩)
    (cf_hLa : PySem.W.codeIn K cd_hLa "Street.lamps" = true)
    (kf_hLa : PySem.W.keepIn K (.ref hLa) = true)
    (pa_hDn : PySem.W.findIn K (.ref S') "done" = some (some (.ref p_hDn)))
    (pr_hDn : PySem.W.recIn K p_hDn "property" = some (.ref hDn :: rest_hDn))
    (pg_hDn : PySem.W.specialIn K (.ref p_hDn) "__get__" = some (some (.builtin "property.__get__")))
    (pt_hDn : PySem.W.takesIn K (.ref p_hDn) = some true)
    (lf_hDn : K.lookup hDn = some ⟨oc_hDn, od_hDn, .func (PySem.W.fnOf "done" "Street.done" (defArgs sStDone) (defBody sStDone) (defScope sStDone) .none kV_hDn dc_hDn pm_hDn an_hDn cd_hDn ct_hDn), sl_hDn⟩)
    (cf_hDn : PySem.W.codeIn K cd_hDn "Street.done" = true)
    (kf_hDn : PySem.W.keepIn K (.ref hDn) = true)
    (nL : PySem.W.nsIn K mainGlobals "LEVELS" = some (some (.ref aL)))
    (lL : K.lookup aL = some ⟨.type "tuple", odL, .seq #[.int 2 tL0, .int 3 tL1, .int 5 tL2, .int 7 tL3] nL0, slL⟩)
    (nM : PySem.W.nsIn K mainGlobals "MOST_LAMPS" = some (some (.int 400 tM)))
    (all : (noneB K && (clsB K C && (eqB K C && (clsSB K S' && (ecB K xO 2 && (ecB K xT 2 && (initB K xO iO "given" && (initB K xT iT "given" && (kdgB K cA cB cC xO xT xO false false true true false && (kdgB K cA cB cC xO xT xT false false true false true && (ex1B K cA cB cC xO && (ex1B K cA cB cC xT && (eqIB K S' && (metaB K && (codeB K cd_fRg && (codeB K cd_fMr && (decide (tabA K cd_fRg ≠ tabA K cd_fMr)))))))))))))))))) = true) :
    ∃ (fd : FuncData) (cs : List (Addr × Addr)) (sp : Sp), (∀ p ∈ cs, TabOf K mg ["_law_right", "_law_many_right"] p) ∧ (∀ (s : Shared) (u : Value), BindsTo s fd ⟨[u], []⟩ [("_law_script", u)]) ∧ (∀ (H : Hp) (a : Addr) (ns : List Int), ns.length ≤ 63 → (∀ z ∈ ns, Builtin.Int.intBits z ≤ 1048576) → (∀ p ∈ cs, H p.2 = some (.tbl #[])) → SqL K H a (ns.map V.int) → sp [.ref a] H (fun v _ => v = .bl true) E0) ∧
      ∀ base : Heap, K.In base → base.Ns mainGlobals mg → (∀ p ∈ cs, TabB base mg p.1 p.2) → FnG P w K mg base 14 fa fd ["_law_script"] sp := by
  have e := hfa.symm.trans (PySem.W.mg_of X G nf_fLaw)
  cases e
  rw [Bool.and_eq_true, Bool.and_eq_true, Bool.and_eq_true, Bool.and_eq_true, Bool.and_eq_true, Bool.and_eq_true, Bool.and_eq_true, Bool.and_eq_true, Bool.and_eq_true, Bool.and_eq_true, Bool.and_eq_true, Bool.and_eq_true, Bool.and_eq_true, Bool.and_eq_true, Bool.and_eq_true, Bool.and_eq_true, decide_eq_true_eq] at all
  obtain ⟨hnone, hcls, heq, hclsS, eO, eT, jO, jT, kdO, kdT, exO, exT, heqi, hmeta, cb_fRg, cb_fMr, cne⟩ := all
  obtain ⟨hne, hmro, S⟩ := eqB_ok heq
  obtain ⟨R, hmakes, hkeep⟩ := clsB_ok hcls
  obtain ⟨RS, smakes, skeep⟩ := clsSB_ok hclsS
  obtain ⟨xmO, yO⟩ := ex1B_ok exO
  obtain ⟨xmT, yT⟩ := ex1B_ok exT
  have none := fun {n : Str} hn => PySem.W.mg_none_of X G (none_of hnone (n := n) hn)
  have F_fII := fun_mk (st := sIsInt) lf_fII cf_fII kf_fII
  have b_fII := F_fII.binds (ps := ["value"]) fun _ _ _ _ _ _ us hl => match us, hl with | [_], _ => rfl
  have m_fII := PySem.W.mg_of X G nf_fII
  have F_fIL := fun_mk (st := sIsLevels) lf_fIL cf_fIL kf_fIL
  have b_fIL := F_fIL.binds (ps := ["value"]) fun _ _ _ _ _ _ us hl => match us, hl with | [_], _ => rfl
  have m_fIL := PySem.W.mg_of X G nf_fIL
  have F_fIM := fun_mk (st := sIsLamp) lf_fIM cf_fIM kf_fIM
  have b_fIM := F_fIM.binds (ps := ["levels", "value"]) fun _ _ _ _ _ _ us hl => match us, hl with | [_, _], _ => rfl
  have m_fIM := PySem.W.mg_of X G nf_fIM
  have F_fWL := fun_mk (st := sWrong) lf_fWL cf_fWL kf_fWL
  have b_fWL := F_fWL.binds (ps := ["levels", "lamps"]) fun _ _ _ _ _ _ us hl => match us, hl with | [_, _], _ => rfl
  have m_fWL := PySem.W.mg_of X G nf_fWL
  have F_fRT := fun_mk (st := sRoundText) lf_fRT cf_fRT kf_fRT
  have b_fRT := F_fRT.binds (ps := ["levels", "lamps", "end"]) fun _ _ _ _ _ _ us hl => match us, hl with | [_, _, _], _ => rfl
  have m_fRT := PySem.W.mg_of X G nf_fRT
  have F_fCL := fun_mk (st := sCkLv) lf_fCL cf_fCL kf_fCL
  have b_fCL := F_fCL.binds (ps := ["value"]) fun _ _ _ _ _ _ us hl => match us, hl with | [_], _ => rfl
  have m_fCL := PySem.W.mg_of X G nf_fCL
  have F_fCR := fun_mk (st := sCkR) lf_fCR cf_fCR kf_fCR
  have b_fCR := F_fCR.binds (ps := ["value"]) fun _ _ _ _ _ _ us hl => match us, hl with | [_], _ => rfl
  have m_fCR := PySem.W.mg_of X G nf_fCR
  have F_fCS := fun_mk (st := sCkRs) lf_fCS cf_fCS kf_fCS
  have b_fCS := F_fCS.binds (ps := ["trip", "second"]) fun _ _ _ _ _ _ us hl => match us, hl with | [_, _], _ => rfl
  have m_fCS := PySem.W.mg_of X G nf_fCS
  have F_fCM := fun_mk (st := sCkMany) lf_fCM cf_fCM kf_fCM
  have b_fCM := F_fCM.binds (ps := ["many"]) fun _ _ _ _ _ _ us hl => match us, hl with | [_], _ => rfl
  have m_fCM := PySem.W.mg_of X G nf_fCM
  have F_fRo := fun_mk (st := sRol) lf_fRo cf_fRo kf_fRo
  have b_fRo := F_fRo.binds (ps := ["levels", "lamps", "end"]) fun _ _ _ _ _ _ us hl => match us, hl with | [_, _, _], _ => rfl
  have m_fRo := PySem.W.mg_of X G nf_fRo
  have F_fTo := fun_mk (st := sTotal) lf_fTo cf_fTo kf_fTo
  have b_fTo := F_fTo.binds (ps := ["levels", "parts"]) fun _ _ _ _ _ _ us hl => match us, hl with | [_, _], _ => rfl
  have m_fTo := PySem.W.mg_of X G nf_fTo
  have F_fTh := fun_mk (st := sThen) lf_fTh cf_fTh kf_fTh
  have b_fTh := F_fTh.binds (ps := ["trip", "second"]) fun _ _ _ _ _ _ us hl => match us, hl with | [_, _], _ => rfl
  have m_fTh := PySem.W.mg_of X G nf_fTh
  have F_fBe := fun_mk (st := sBegun) lf_fBe cf_fBe kf_fBe
  have b_fBe := F_fBe.binds (ps := ["_law_script", "_law_turn"]) fun _ _ _ _ _ _ us hl => match us, hl with | [_, _], _ => rfl
  have m_fBe := PySem.W.mg_of X G nf_fBe
  have F_fCa := fun_mk (st := sCast) lf_fCa cf_fCa kf_fCa
  have b_fCa := F_fCa.binds (ps := ["_law_pail", "_law_many"]) fun _ _ _ _ _ _ us hl => match us, hl with | [_, _], _ => rfl
  have m_fCa := PySem.W.mg_of X G nf_fCa
  have F_fAn := fun_mk (st := sAny) lf_fAn cf_fAn kf_fAn
  have b_fAn := F_fAn.binds (ps := ["_law_pail", "_law_some"]) fun _ _ _ _ _ _ us hl => match us, hl with | [_, _], _ => rfl
  have m_fAn := PySem.W.mg_of X G nf_fAn
  have F_fVa := fun_mk (st := sVast) lf_fVa cf_fVa kf_fVa
  have b_fVa := F_fVa.binds (ps := ["_law_pail", "_law_many"]) fun _ _ _ _ _ _ us hl => match us, hl with | [_, _], _ => rfl
  have m_fVa := PySem.W.mg_of X G nf_fVa
  have F_fPl := fun_mk (st := sPlace) lf_fPl cf_fPl kf_fPl
  have b_fPl := F_fPl.binds (ps := ["_law_pail"]) fun _ _ _ _ _ _ us hl => match us, hl with | [_], _ => rfl
  have m_fPl := PySem.W.mg_of X G nf_fPl
  have F_fPc := fun_mk (st := sPicture) lf_fPc cf_fPc kf_fPc
  have b_fPc := F_fPc.binds (ps := ["_law_pail", "_law_p", "_law_many"]) fun _ _ _ _ _ _ us hl => match us, hl with | [_, _, _], _ => rfl
  have m_fPc := PySem.W.mg_of X G nf_fPc
  have F_fSh := fun_mk (st := sSheet) lf_fSh cf_fSh kf_fSh
  have b_fSh := F_fSh.binds (ps := ["_law_parts"]) fun _ _ _ _ _ _ us hl => match us, hl with | [_], _ => rfl
  have m_fSh := PySem.W.mg_of X G nf_fSh
  have F_fOf := fun_mk (st := sOf) lf_fOf cf_fOf kf_fOf
  have b_fOf := F_fOf.binds (ps := ["_law_parts"]) fun _ _ _ _ _ _ us hl => match us, hl with | [_], _ => rfl
  have m_fOf := PySem.W.mg_of X G nf_fOf
  have F_fTi := fun_mk (st := sTidy) lf_fTi cf_fTi kf_fTi
  have b_fTi := F_fTi.binds (ps := ["_law_p", "_law_chart"]) fun _ _ _ _ _ _ us hl => match us, hl with | [_, _], _ => rfl
  have m_fTi := PySem.W.mg_of X G nf_fTi
  have F_fLT := fun_mk (st := sLThen) lf_fLT cf_fLT kf_fLT
  have b_fLT := F_fLT.binds (ps := ["_law_near", "_law_far"]) fun _ _ _ _ _ _ us hl => match us, hl with | [_, _], _ => rfl
  have m_fLT := PySem.W.mg_of X G nf_fLT
  have F_fMa := fun_mk (st := sMate) lf_fMa cf_fMa kf_fMa
  have b_fMa := F_fMa.binds (ps := ["_law_pail", "_law_p"]) fun _ _ _ _ _ _ us hl => match us, hl with | [_, _], _ => rfl
  have m_fMa := PySem.W.mg_of X G nf_fMa
  have F_fMr := fun_mk (st := sMany) lf_fMr cf_fMr kf_fMr
  have b_fMr := F_fMr.binds (ps := ["_law_p", "_law_size", "_law_more"]) fun _ _ _ _ _ _ us hl => match us, hl with | [_, _, _], _ => rfl
  have m_fMr := PySem.W.mg_of X G nf_fMr
  have F_fSw := fun_mk (st := sShows) lf_fSw cf_fSw kf_fSw
  have b_fSw := F_fSw.binds (ps := ["_law_mine", "_law_p", "_law_done_here"]) fun _ _ _ _ _ _ us hl => match us, hl with | [_, _, _], _ => rfl
  have m_fSw := PySem.W.mg_of X G nf_fSw
  have F_fSo := fun_mk (st := sSort) lf_fSo cf_fSo kf_fSo
  have b_fSo := F_fSo.binds (ps := ["_law_e"]) fun _ _ _ _ _ _ us hl => match us, hl with | [_], _ => rfl
  have m_fSo := PySem.W.mg_of X G nf_fSo
  have F_fAw := fun_mk (st := sAns) lf_fAw cf_fAw kf_fAw
  have b_fAw := F_fAw.binds (ps := ["_law_call_here"]) fun _ _ _ _ _ _ us hl => match us, hl with | [_], _ => rfl
  have m_fAw := PySem.W.mg_of X G nf_fAw
  have F_fRg := fun_mk (st := sRight) lf_fRg cf_fRg kf_fRg
  have b_fRg := F_fRg.binds (ps := ["_law_pail"]) fun _ _ _ _ _ _ us hl => match us, hl with | [_], _ => rfl
  have m_fRg := PySem.W.mg_of X G nf_fRg
  have F_fLaw := fun_mk (st := sLaw) lf_fLaw cf_fLaw kf_fLaw
  have F_gIn := fun_mk (st := sInit) lf_gIn cf_gIn kf_gIn
  have b_gIn := F_gIn.binds (ps := ["self", "levels", "lamps", "end"]) fun _ _ _ _ _ _ us hl => match us, hl with | [_, _, _, _], _ => rfl
  have F_gEq := fun_mk (st := sEqR) lf_gEq cf_gEq kf_gEq
  have b_gEq := F_gEq.binds (ps := ["self", "other"]) fun _ _ _ _ _ _ us hl => match us, hl with | [_, _], _ => rfl
  have F_hIn := fun_mk (st := sStInit) lf_hIn cf_hIn kf_hIn
  have b_hIn := F_hIn.binds (ps := ["self", "levels"]) fun _ _ _ _ _ _ us hl => match us, hl with | [_, _], _ => rfl
  have F_hDo := fun_mk (st := sDo) lf_hDo cf_hDo kf_hDo
  have b_hDo := F_hDo.binds (ps := ["self", "trip"]) fun _ _ _ _ _ _ us hl => match us, hl with | [_, _], _ => rfl
  have F_hLn := fun_mk (st := sStLen) lf_hLn cf_hLn kf_hLn
  have b_hLn := F_hLn.binds (ps := ["self"]) fun _ _ _ _ _ _ us hl => match us, hl with | [_], _ => rfl
  have F_hBo := fun_mk (st := sStBool) lf_hBo cf_hBo kf_hBo
  have b_hBo := F_hBo.binds (ps := ["self"]) fun _ _ _ _ _ _ us hl => match us, hl with | [_], _ => rfl
  have F_iO := fun_mk (st := sXO) lf_iO cf_iO kf_iO
  have b_iO := F_iO.binds (ps := ["self", "given"]) fun _ _ _ _ _ _ us hl => match us, hl with | [_, _], _ => rfl
  have F_iT := fun_mk (st := sXT) lf_iT cf_iT kf_iT
  have b_iT := F_iT.binds (ps := ["self", "given"]) fun _ _ _ _ _ _ us hl => match us, hl with | [_, _], _ => rfl
  have F_gLv := fun_mk (st := sLevels) lf_gLv cf_gLv kf_gLv
  have b_gLv := F_gLv.binds (ps := ["self"]) fun _ _ _ _ _ _ us hl => match us, hl with | [_], _ => rfl
  have F_gLa := fun_mk (st := sLampsP) lf_gLa cf_gLa kf_gLa
  have b_gLa := F_gLa.binds (ps := ["self"]) fun _ _ _ _ _ _ us hl => match us, hl with | [_], _ => rfl
  have F_gEn := fun_mk (st := sEnd) lf_gEn cf_gEn kf_gEn
  have b_gEn := F_gEn.binds (ps := ["self"]) fun _ _ _ _ _ _ us hl => match us, hl with | [_], _ => rfl
  have F_gTx := fun_mk (st := sText) lf_gTx cf_gTx kf_gTx
  have b_gTx := F_gTx.binds (ps := ["self"]) fun _ _ _ _ _ _ us hl => match us, hl with | [_], _ => rfl
  have F_hLv := fun_mk (st := sStLevels) lf_hLv cf_hLv kf_hLv
  have b_hLv := F_hLv.binds (ps := ["self"]) fun _ _ _ _ _ _ us hl => match us, hl with | [_], _ => rfl
  have F_hTr := fun_mk (st := sStTrip) lf_hTr cf_hTr kf_hTr
  have b_hTr := F_hTr.binds (ps := ["self"]) fun _ _ _ _ _ _ us hl => match us, hl with | [_], _ => rfl
  have F_hPl := fun_mk (st := sStPlace) lf_hPl cf_hPl kf_hPl
  have b_hPl := F_hPl.binds (ps := ["self"]) fun _ _ _ _ _ _ us hl => match us, hl with | [_], _ => rfl
  have F_hLa := fun_mk (st := sStLamps) lf_hLa cf_hLa kf_hLa
  have b_hLa := F_hLa.binds (ps := ["self"]) fun _ _ _ _ _ _ us hl => match us, hl with | [_], _ => rfl
  have F_hDn := fun_mk (st := sStDone) lf_hDn cf_hDn kf_hDn
  have b_hDn := F_hDn.binds (ps := ["self"]) fun _ _ _ _ _ _ us hl => match us, hl with | [_], _ => rfl
  have mR := PySem.W.mg_of X G nC
  have mLv := PySem.W.mg_of X G nL
  have mML := PySem.W.mg_of X G nM
  have four : ∀ H, SqT K H aL [.int 2, .int 3, .int 5, .int 7] := fun H => .inr ⟨_, _, _, lL, rfl, rfl, (by show 4 ≤ sizeLine; decide), .cons ⟨_, rfl⟩ (.cons ⟨_, rfl⟩ (.cons ⟨_, rfl⟩ (.cons ⟨_, rfl⟩ .nil)))⟩
  have mS := PySem.W.mg_of X G nS
  have m_cA := PySem.W.mg_of X G n_cA
  have m_cB := PySem.W.mg_of X G n_cB
  have m_cC := PySem.W.mg_of X G n_cC
  have m_xO := PySem.W.mg_of X G n_xO
  have m_xT := PySem.W.mg_of X G n_xT
  refine ⟨PySem.W.fnOf "law" "law" (defArgs sLaw) (defBody sLaw) (defScope sLaw) .none kV_fLaw dc_fLaw pm_fLaw an_fLaw cd_fLaw ct_fLaw, [(codeA cd_fRg, tabA K cd_fRg), (codeA cd_fMr, tabA K cd_fMr)], spLaw K [(tabA K cd_fRg, qR), (tabA K cd_fMr, qM)], ?_, fun s u => .of_eq rfl, ?_, fun base _ _ tb => ?_⟩
  · intro p hp
    simp only [List.mem_cons, List.not_mem_nil, or_false] at hp
    rcases hp with rfl | rfl
    · exact ⟨"_law_right", by decide, _, _, _, _, PySem.W.mg_of X G nf_fRg, lf_fRg, rfl, rfl, cb_fRg, rfl⟩
    · exact ⟨"_law_many_right", by decide, _, _, _, _, PySem.W.mg_of X G nf_fMr, lf_fMr, rfl, rfl, cb_fMr, rfl⟩
  · intro H a ns h1 h2 h3 hS
    refine ⟨a, ns, rfl, hS, h1, h2, fun x hx => ?_, fun _ => rfl⟩
    simp only [List.mem_cons, List.not_mem_nil, or_false] at hx
    rcases hx with rfl | rfl
    · exact TabS.nil (h3 (codeA cd_fRg, tabA K cd_fRg) (by simp))
    · exact TabS.nil (h3 (codeA cd_fMr, tabA K cd_fMr) (by simp))
  have tb_fRg : TabB base mg (codeA cd_fRg) (tabA K cd_fRg) := tb (codeA cd_fRg, tabA K cd_fRg) (by simp)
  have ca_fRg : cd_fRg = .ref (codeA cd_fRg) := (codeB_ok cb_fRg).1
  have tb_fMr : TabB base mg (codeA cd_fMr) (tabA K cd_fMr) := tb (codeA cd_fMr, tabA K cd_fMr) (by simp)
  have ca_fMr : cd_fMr = .ref (codeA cd_fMr) := (codeB_ok cb_fMr).1
  have d_fII : Dr P w K mg base spIsInt "is_integer" ["value"] 1 := ⟨⟨fII, _, ok_isInt F_fII (none (n := "isinstance") (by decide +kernel)) (none (n := "int") (by decide +kernel)) (none (n := "bool") (by decide +kernel)), b_fII, m_fII, kf_fII⟩⟩
  have d_fIL : Dr P w K mg base spIsLevels "is_levels" ["value"] 2 := ⟨⟨fIL, _, ok_isLevels F_fIL d_fII mLv four, b_fIL, m_fIL, kf_fIL⟩⟩
  have d_fIM : Dr P w K mg base spIsLamp "is_lamp" ["levels", "value"] 2 := ⟨⟨fIM, _, ok_isLamp F_fIM d_fII (none (n := "isinstance") (by decide +kernel)) (none (n := "tuple") (by decide +kernel)) (none (n := "len") (by decide +kernel)), b_fIM, m_fIM, kf_fIM⟩⟩
  have d_fWL : Dr P w K mg base (spWrong K) "wrong_lamp" ["levels", "lamps"] 3 := ⟨⟨fWL, _, ok_wrong F_fWL d_fIM (none (n := "enumerate") (by decide +kernel)), b_fWL, m_fWL, kf_fWL⟩⟩
  have gI : FnOk P w K mg base CX0 4 gIn _ ["self", "levels", "lamps", "end"] (spInitR K C) := ok_initR F_gIn R d_fII d_fIL d_fWL mML (none (n := "isinstance") (by decide +kernel)) (none (n := "tuple") (by decide +kernel)) (none (n := "len") (by decide +kernel))
  have M : MkR P w K mg base C := ⟨⟨gIn, _, ⟨hmakes, fm_gIn, if_gIn, hkeep⟩, gI, b_gIn, fun s x u1 u2 u3 => .of_eq rfl⟩⟩
  have Z : Ask3 P w K mg base C := ⟨⟨⟨p_gLv, gLv, _, ⟨pa_gLv, pg_gLv, pt_gLv, ⟨_, pr_gLv⟩⟩, ok_levels F_gLv R, b_gLv⟩⟩, ⟨⟨p_gLa, gLa, _, ⟨pa_gLa, pg_gLa, pt_gLa, ⟨_, pr_gLa⟩⟩, ok_lamps F_gLa R, b_gLa⟩⟩, ⟨⟨p_gEn, gEn, _, ⟨pa_gEn, pg_gEn, pt_gEn, ⟨_, pr_gEn⟩⟩, ok_end F_gEn R, b_gEn⟩⟩⟩
  have ZO : XC P w K mg xO "OtherLevels" "given" := xc_mk eO jO m_xO (fun base => ok_init F_iO scXO rfl (by decide +kernel) (by decide +kernel) (by decide) (by decide)) (fun s v u _ => .of_eq rfl) (fun s v u _ => .of_eq rfl)
  have ZT : XC P w K mg xT "TooMany" "given" := xc_mk eT jT m_xT (fun base => ok_init F_iT scXT rfl (by decide +kernel) (by decide +kernel) (by decide) (by decide)) (fun s v u _ => .of_eq rfl) (fun s v u _ => .of_eq rfl)
  have DO := kdgB_ok (by obtain ⟨B, n, i, t, T, _⟩ := ecB_ok eO; exact ⟨B, n, i, t, T⟩) kdO
  have DT := kdgB_ok (by obtain ⟨B, n, i, t, T, _⟩ := ecB_ok eT; exact ⟨B, n, i, t, T⟩) kdT
  have EI := eqIB_ok heqi
  have d_fRT : Dr P w K mg base (spRoundText K) "round_text" ["levels", "lamps", "end"] 1 := ⟨⟨fRT, _, ok_roundText F_fRT, b_fRT, m_fRT, kf_fRT⟩⟩
  have d_fCL : Dr P w K mg base spCkLv "check_levels" ["value"] 3 := ⟨⟨fCL, _, ok_ckLv F_fCL d_fIL, b_fCL, m_fCL, kf_fCL⟩⟩
  have d_fCR : Dr P w K mg base (spCkR C) "check_round" ["value"] 1 := ⟨⟨fCR, _, ok_ckR F_fCR R S mR (none (n := "isinstance") (by decide +kernel)), b_fCR, m_fCR, kf_fCR⟩⟩
  have x_fCS : DrX P w K mg base (spCkRsX C xO) "check_rounds" ["trip", "second"] 3 := ⟨⟨fCS, _, ok_ckRsX F_fCS R Z d_fCR ZO yO, b_fCS, m_fCS, kf_fCS⟩⟩
  have x_fCM : DrX P w K mg base (spCkManyX xT) "check_many" ["many"] 3 := ⟨⟨fCM, _, ok_ckManyX F_fCM ZT yT mML, b_fCM, m_fCM, kf_fCM⟩⟩
  have x_fRo : DrX P w K mg base (spRolX K C xT) "round_of_lamps" ["levels", "lamps", "end"] 7 := ⟨⟨fRo, _, ok_rolX F_fRo x_fCM M mR (none (n := "len") (by decide +kernel)), b_fRo, m_fRo, kf_fRo⟩⟩
  have d_fTo : Dr P w K mg base (spTotal K) "total" ["levels", "parts"] 1 := ⟨⟨fTo, _, ok_total F_fTo (none (n := "tuple") (by decide +kernel)) (none (n := "sorted") (by decide +kernel)), b_fTo, m_fTo, kf_fTo⟩⟩
  have x_fTh : DrX P w K mg base (spThenT K C xO xT) "then" ["trip", "second"] 8 := ⟨⟨fTh, _, ok_thenT F_fTh R Z x_fCS d_fTo x_fRo, b_fTh, m_fTh, kf_fTh⟩⟩
  have Tx : PrR P w K mg base C "text" (spText K C) 2 := ⟨⟨p_gTx, gTx, _, ⟨pa_gTx, pg_gTx, pt_gTx, ⟨_, pr_gTx⟩⟩, ok_text F_gTx R d_fRT, b_gTx⟩⟩
  have gEq_ : FnOk P w K mg base CX0 1 gEq _ ["self", "other"] (spEqR K C) := ok_eqR F_gEq R S mR (none (n := "isinstance") (by decide +kernel))
  have EqZ : EqO P w K mg base C (spEqR K C) 1 := ⟨⟨gEq, _, fm_gEq, if_gEq, gEq_, b_gEq⟩, hne, hmro⟩
  have Lv : PrR P w K mg base S' "levels" (spStLevels K C S') 1 := ⟨⟨p_hLv, hLv, _, ⟨pa_hLv, pg_hLv, pt_hLv, ⟨_, pr_hLv⟩⟩, ok_stLevels F_hLv RS, b_hLv⟩⟩
  have Tr : PrR P w K mg base S' "trip" (spStTrip K C S') 1 := ⟨⟨p_hTr, hTr, _, ⟨pa_hTr, pg_hTr, pt_hTr, ⟨_, pr_hTr⟩⟩, ok_stTrip F_hTr RS, b_hTr⟩⟩
  have Pl : PrR P w K mg base S' "place" (spStPlace K C S') 3 := ⟨⟨p_hPl, hPl, _, ⟨pa_hPl, pg_hPl, pt_hPl, ⟨_, pr_hPl⟩⟩, ok_stPlace F_hPl R RS Z Tr, b_hPl⟩⟩
  have La : PrR P w K mg base S' "lamps" (spStLamps K C S') 3 := ⟨⟨p_hLa, hLa, _, ⟨pa_hLa, pg_hLa, pt_hLa, ⟨_, pr_hLa⟩⟩, ok_stLamps F_hLa R RS Z Tr, b_hLa⟩⟩
  have Dn : PrR P w K mg base S' "done" (spStDone K C S') 1 := ⟨⟨p_hDn, hDn, _, ⟨pa_hDn, pg_hDn, pt_hDn, ⟨_, pr_hDn⟩⟩, ok_stDone F_hDn RS (none (n := "tuple") (by decide +kernel)), b_hDn⟩⟩
  have MS : MkS P w K mg base C S' := ⟨⟨hIn, _, ⟨smakes, fm_hIn, if_hIn, skeep⟩, ok_stInit F_hIn RS d_fCL M mR, b_hIn⟩⟩
  have MK : MkSK P w K mg base C S' := ⟨⟨hIn, _, ⟨smakes, fm_hIn, if_hIn, skeep⟩, ok_stInit F_hIn RS d_fCL M mR, fun s x u => .of_eq rfl⟩⟩
  have Do : DoT P w K mg base C S' xO xT := ⟨⟨hDo, _, ⟨fm_hDo, if_hDo, kf_hDo⟩, ok_doT F_hDo R RS Z Tr x_fTh, b_hDo, fun s x u => .of_eq rfl⟩⟩
  have Ln : OwnM P w K mg base S' "__len__" (spStLen K C S') 1 := ⟨⟨hLn, _, fm_hLn, if_hLn, ok_stLen F_hLn RS (none (n := "len") (by decide +kernel)), b_hLn⟩⟩
  have Bo : OwnM P w K mg base S' "__bool__" spBool 1 := ⟨⟨hBo, _, fm_hBo, if_hBo, ok_stBool F_hBo, b_hBo⟩⟩
  have d_fCa : Dr P w K mg base spCast "_law_cast" ["_law_pail", "_law_many"] 1 := ⟨⟨fCa, _, ok_cast F_fCa (none (n := "int") (by decide +kernel)) (none (n := "divmod") (by decide +kernel)), b_fCa, m_fCa, kf_fCa⟩⟩
  have d_fBe : Dr P w K mg base (spBegun K) "_law_begun" ["_law_script", "_law_turn"] 1 := ⟨⟨fBe, _, ok_begun F_fBe (none (n := "int") (by decide +kernel)) (none (n := "len") (by decide +kernel)) (none (n := "abs") (by decide +kernel)), b_fBe, m_fBe, kf_fBe⟩⟩
  have gCa : FnOk P w K mg base CX0 1 fCa _ _ spCast := ok_cast F_fCa (none (n := "int") (by decide +kernel)) (none (n := "divmod") (by decide +kernel))
  have d_fAn : Dr P w K mg base spAny "_law_any_of" ["_law_pail", "_law_some"] 2 := ⟨⟨fAn, _, ok_any F_fAn gCa b_fCa m_fCa kf_fCa (none (n := "len") (by decide +kernel)), b_fAn, m_fAn, kf_fAn⟩⟩
  have d_fVa : Dr P w K mg base spVast "_law_vast" ["_law_pail", "_law_many"] 2 := ⟨⟨fVa, _, ok_vast F_fVa d_fCa (none (n := "int") (by decide +kernel)) (none (n := "range") (by decide +kernel)), b_fVa, m_fVa, kf_fVa⟩⟩
  have d_fPl : Dr P w K mg base spPlace "_law_place" ["_law_pail"] 3 := ⟨⟨fPl, _, ok_place F_fPl d_fCa d_fVa, b_fPl, m_fPl, kf_fPl⟩⟩
  have d_fPc : Dr P w K mg base (spPicture K) "_law_picture" ["_law_pail", "_law_p", "_law_many"] 4 := ⟨⟨fPc, _, ok_picture F_fPc d_fCa d_fPl (none (n := "range") (by decide +kernel)) (none (n := "tuple") (by decide +kernel)) (none (n := "sorted") (by decide +kernel)) (none (n := "list") (by decide +kernel)), b_fPc, m_fPc, kf_fPc⟩⟩
  have d_fSh : Dr P w K mg base (spSheet K) "_law_sheet" ["_law_parts"] 1 := ⟨⟨fSh, _, ok_sheet F_fSh (none (n := "str") (by decide +kernel)), b_fSh, m_fSh, kf_fSh⟩⟩
  have d_fOf : Dr P w K mg base (spOf K C) "_law_of" ["_law_parts"] 6 := ⟨⟨fOf, _, ok_of F_fOf M mR, b_fOf, m_fOf, kf_fOf⟩⟩
  have d_fTi : Dr P w K mg base (spTidy K) "_law_tidy" ["_law_p", "_law_chart"] 1 := ⟨⟨fTi, _, ok_tidy F_fTi (none (n := "tuple") (by decide +kernel)) (none (n := "sorted") (by decide +kernel)) (none (n := "list") (by decide +kernel)) (none (n := "int") (by decide +kernel)), b_fTi, m_fTi, kf_fTi⟩⟩
  have d_fLT : Dr P w K mg base (spLThen K) "_law_then" ["_law_near", "_law_far"] 2 := ⟨⟨fLT, _, ok_lthen F_fLT d_fTi (none (n := "dict") (by decide +kernel)), b_fLT, m_fLT, kf_fLT⟩⟩
  have d_fMa : Dr P w K mg base (spMate K) "_law_mate" ["_law_pail", "_law_p"] 5 := ⟨⟨fMa, _, ok_mate F_fMa d_fAn d_fPl d_fPc, b_fMa, m_fMa, kf_fMa⟩⟩
  have gSo : FnO P w K mg base 2 fSo _ ["_law_e"] (spSort K xO xT) := ok_sort F_fSo (metaB_ok hmeta) ⟨m_cA, m_cB, m_cC, m_xO, m_xT, (none (n := "ValueError") (by decide +kernel)), (none (n := "LookupError") (by decide +kernel)), (none (n := "ArithmeticError") (by decide +kernel))⟩ DO DT (none (n := "isinstance") (by decide +kernel)) (none (n := "repr") (by decide +kernel)) (none (n := "len") (by decide +kernel))
  have Aw : AnsO P w K mg base cA cB cC (spSort K xO xT) 2 := ansO_mk ⟨⟨fSo, _, gSo, b_fSo, m_fSo, kf_fSo⟩⟩ m_cA m_cB m_cC F_fAw b_fAw m_fAw kf_fAw
  have gSw := ok_shows F_fSw R RS d_fLT d_fSh Lv Pl La Tr Dn Tx Ln Bo (none (n := "len") (by decide +kernel)) (none (n := "bool") (by decide +kernel)) (none (n := "repr") (by decide +kernel))
  have gMr := ok_many (T := [(tabA K cd_fRg, qR), (tabA K cd_fMr, qM)]) F_fMr ca_fMr tb_fMr (by simp) (fun p hp e => by
    simp only [List.mem_cons, List.not_mem_nil, or_false] at hp
    rcases hp with rfl | rfl
    · exact absurd e cne
    · rfl) RS M mR MS mS Do Tr EqZ Aw xmT (none (n := "range") (by decide +kernel)) (none (n := "str") (by decide +kernel)) (none (n := "tuple") (by decide +kernel))
  have gRg := ok_right (T := [(tabA K cd_fRg, qR), (tabA K cd_fMr, qM)]) F_fRg ca_fRg tb_fRg (by simp) (fun p hp e => by
    simp only [List.mem_cons, List.not_mem_nil, or_false] at hp
    rcases hp with rfl | rfl
    · rfl
    · exact absurd e.symm cne) RS EI d_fAn d_fCa d_fMa d_fOf MS MK mS Do Aw gSw b_fSw m_fSw kf_fSw gMr b_fMr m_fMr kf_fMr xmO (none (n := "range") (by decide +kernel)) (none (n := "str") (by decide +kernel)) (none (n := "sum") (by decide +kernel)) (none (n := "repr") (by decide +kernel)) (none (n := "int") (by decide +kernel))
  exact ok_law F_fLaw gRg b_fRg m_fRg kf_fRg d_fBe (none (n := "range") (by decide +kernel)) (none (n := "len") (by decide +kernel)) (none (n := "all") (by decide +kernel)) (none (n := "max") (by decide +kernel)) (none (n := "min") (by decide +kernel))
open PySem.W in
theorem walk {l : PySem.W.OpenLaw} {q : Program} {loose : List Str} {XP : (Str → Option Value) → Heap → Prop} {YP : World → Heap → Prop} {d : DefRec} {K : Params → PySem.W.Frag} (hn : l.most = some 63) (hdf : d.params.defaults = []) (hrec : ∀ x ∈ (["_law_right", "_law_many_right"] : List Str), ((recsOf q).any fun e => e.name == x) = true) (hY : ∀ (w : World) (h : Heap), YP w h → (K w.params).In h)
    (F : ∀ (w : World) (mg : Str → Option Value) (fa : Addr) (h : Heap), (K w.params).In h → h.Ns mainGlobals mg → mg d.name = some (.ref fa) → ∃ (fd : FuncData) (cs : List (Addr × Addr)) (sp : Sp), (∀ p ∈ cs, TabOf (K w.params) mg ["_law_right", "_law_many_right"] p) ∧ (∀ (s : Shared) (u : Value), BindsTo s fd ⟨[u], []⟩ [("_law_script", u)]) ∧
      (∀ (H : Hp) (a : Addr) (ns : List Int), ns.length ≤ 63 → (∀ z ∈ ns, Builtin.Int.intBits z ≤ 1048576) → (∀ p ∈ cs, H p.2 = some (.tbl #[])) → SqL (K w.params) H a (ns.map V.int) → sp [.ref a] H (fun v _ => v = .bl true) E0) ∧
        ∀ base : Heap, (K w.params).In base → base.Ns mainGlobals mg → (∀ p ∈ cs, TabB base mg p.1 p.2) → FnG l.prog w (K w.params) mg base 14 fa fd ["_law_script"] sp) : PySem.W.WalkO q loose XP YP l.row.toRowW d [] (fun f vs => PySem.call f vs) :=
  walk_ofGT (n := 63) (k := 14) (x := "_law_script") ["_law_right", "_law_many_right"] hn (by decide) hdf ⟨rfl, by decide, by decide⟩ hrec hY F
end Lamp
set_option Elab.async false
open PySem PySem.W PyProof.Rows
set_option maxRecDepth 100000 in
set_option maxHeartbeats 0 in
theorem PySem.Challenge.cw_lamprounds_k55_whole_streets_led_holds : PySem.Challenge.rw_lamprounds_k55_whole_streets_led.Holds := by
  w_on; o_law; k_head; (case hw => w_witness2)
  k_fill
  refine Lamp.walk (l := PySem.Challenge.rw_lamprounds_k55_whole_streets_led) rfl rfl ?hrec (fun w h Y => PySem.W.km_in_of Y) ?F
  (case hrec => decide +kernel)
  case F =>
    intro w mg fa h KX G hmg
    refine' Lamp.all_mk KX G hmg ?nC ?nS ?n_cA ?n_cB ?n_cC ?n_xO ?n_xT ?nf_fII ?lf_fII ?cf_fII ?kf_fII ?nf_fIL ?lf_fIL ?cf_fIL ?kf_fIL ?nf_fIM ?lf_fIM ?cf_fIM ?kf_fIM ?nf_fWL ?lf_fWL ?cf_fWL ?kf_fWL ?nf_fRT ?lf_fRT ?cf_fRT ?kf_fRT ?nf_fCL ?lf_fCL ?cf_fCL ?kf_fCL ?nf_fCR ?lf_fCR ?cf_fCR ?kf_fCR ?nf_fCS ?lf_fCS ?cf_fCS ?kf_fCS ?nf_fCM ?lf_fCM ?cf_fCM ?kf_fCM ?nf_fRo ?lf_fRo ?cf_fRo ?kf_fRo ?nf_fTo ?lf_fTo ?cf_fTo ?kf_fTo ?nf_fTh ?lf_fTh ?cf_fTh ?kf_fTh ?nf_fBe ?lf_fBe ?cf_fBe ?kf_fBe ?nf_fCa ?lf_fCa ?cf_fCa ?kf_fCa ?nf_fAn ?lf_fAn ?cf_fAn ?kf_fAn ?nf_fVa ?lf_fVa ?cf_fVa ?kf_fVa ?nf_fPl ?lf_fPl ?cf_fPl ?kf_fPl ?nf_fPc ?lf_fPc ?cf_fPc ?kf_fPc ?nf_fSh ?lf_fSh ?cf_fSh ?kf_fSh ?nf_fOf ?lf_fOf ?cf_fOf ?kf_fOf ?nf_fTi ?lf_fTi ?cf_fTi ?kf_fTi ?nf_fLT ?lf_fLT ?cf_fLT ?kf_fLT ?nf_fMa ?lf_fMa ?cf_fMa ?kf_fMa ?nf_fMr ?lf_fMr ?cf_fMr ?kf_fMr ?nf_fSw ?lf_fSw ?cf_fSw ?kf_fSw ?nf_fSo ?lf_fSo ?cf_fSo ?kf_fSo ?nf_fAw ?lf_fAw ?cf_fAw ?kf_fAw ?nf_fRg ?lf_fRg ?cf_fRg ?kf_fRg ?nf_fLaw ?lf_fLaw ?cf_fLaw ?kf_fLaw ?fm_gIn ?lf_gIn ?cf_gIn ?kf_gIn ?if_gIn ?fm_gEq ?lf_gEq ?cf_gEq ?kf_gEq ?if_gEq ?fm_hIn ?lf_hIn ?cf_hIn ?kf_hIn ?if_hIn ?fm_hDo ?lf_hDo ?cf_hDo ?kf_hDo ?if_hDo ?fm_hLn ?lf_hLn ?cf_hLn ?kf_hLn ?if_hLn ?fm_hBo ?lf_hBo ?cf_hBo ?kf_hBo ?if_hBo ?fm_iO ?lf_iO ?cf_iO ?kf_iO ?if_iO ?fm_iT ?lf_iT ?cf_iT ?kf_iT ?if_iT ?pa_gLv ?pr_gLv ?pg_gLv ?pt_gLv ?lf_gLv ?cf_gLv ?kf_gLv ?pa_gLa ?pr_gLa ?pg_gLa ?pt_gLa ?lf_gLa ?cf_gLa ?kf_gLa ?pa_gEn ?pr_gEn ?pg_gEn ?pt_gEn ?lf_gEn ?cf_gEn ?kf_gEn ?pa_gTx ?pr_gTx ?pg_gTx ?pt_gTx ?lf_gTx ?cf_gTx ?kf_gTx ?pa_hLv ?pr_hLv ?pg_hLv ?pt_hLv ?lf_hLv ?cf_hLv ?kf_hLv ?pa_hTr ?pr_hTr ?pg_hTr ?pt_hTr ?lf_hTr ?cf_hTr ?kf_hTr ?pa_hPl ?pr_hPl ?pg_hPl ?pt_hPl ?lf_hPl ?cf_hPl ?kf_hPl ?pa_hLa ?pr_hLa ?pg_hLa ?pt_hLa ?lf_hLa ?cf_hLa ?kf_hLa ?pa_hDn ?pr_hDn ?pg_hDn ?pt_hDn ?lf_hDn ?cf_hDn ?kf_hDn ?nL ?lL ?nM ?all
    (case nC => k_is)
    (case nS => k_is)
    (case n_cA => k_is)
    (case n_cB => k_is)
    (case n_cC => k_is)
    (case n_xO => k_is)
    (case n_xT => k_is)
    (case nf_fII => k_is)
    (case lf_fII => k_is)
    (case cf_fII => k_is)
    (case kf_fII => k_is)
    (case nf_fIL => k_is)
    (case lf_fIL => k_is)
    (case cf_fIL => k_is)
    (case kf_fIL => k_is)
    (case nf_fIM => k_is)
    (case lf_fIM => k_is)
    (case cf_fIM => k_is)
    (case kf_fIM => k_is)
    (case nf_fWL => k_is)
    (case lf_fWL => k_is)
    (case cf_fWL => k_is)
    (case kf_fWL => k_is)
    (case nf_fRT => k_is)
    (case lf_fRT => k_is)
    (case cf_fRT => k_is)
    (case kf_fRT => k_is)
    (case nf_fCL => k_is)
    (case lf_fCL => k_is)
    (case cf_fCL => k_is)
    (case kf_fCL => k_is)
    (case nf_fCR => k_is)
    (case lf_fCR => k_is)
    (case cf_fCR => k_is)
    (case kf_fCR => k_is)
    (case nf_fCS => k_is)
    (case lf_fCS => k_is)
    (case cf_fCS => k_is)
    (case kf_fCS => k_is)
    (case nf_fCM => k_is)
    (case lf_fCM => k_is)
    (case cf_fCM => k_is)
    (case kf_fCM => k_is)
    (case nf_fRo => k_is)
    (case lf_fRo => k_is)
    (case cf_fRo => k_is)
    (case kf_fRo => k_is)
    (case nf_fTo => k_is)
    (case lf_fTo => k_is)
    (case cf_fTo => k_is)
    (case kf_fTo => k_is)
    (case nf_fTh => k_is)
    (case lf_fTh => k_is)
    (case cf_fTh => k_is)
    (case kf_fTh => k_is)
    (case nf_fBe => k_is)
    (case lf_fBe => k_is)
    (case cf_fBe => k_is)
    (case kf_fBe => k_is)
    (case nf_fCa => k_is)
    (case lf_fCa => k_is)
    (case cf_fCa => k_is)
    (case kf_fCa => k_is)
    (case nf_fAn => k_is)
    (case lf_fAn => k_is)
    (case cf_fAn => k_is)
    (case kf_fAn => k_is)
    (case nf_fVa => k_is)
    (case lf_fVa => k_is)
    (case cf_fVa => k_is)
    (case kf_fVa => k_is)
    (case nf_fPl => k_is)
    (case lf_fPl => k_is)
    (case cf_fPl => k_is)
    (case kf_fPl => k_is)
    (case nf_fPc => k_is)
    (case lf_fPc => k_is)
    (case cf_fPc => k_is)
    (case kf_fPc => k_is)
    (case nf_fSh => k_is)
    (case lf_fSh => k_is)
    (case cf_fSh => k_is)
    (case kf_fSh => k_is)
    (case nf_fOf => k_is)
    (case lf_fOf => k_is)
    (case cf_fOf => k_is)
    (case kf_fOf => k_is)
    (case nf_fTi => k_is)
    (case lf_fTi => k_is)
    (case cf_fTi => k_is)
    (case kf_fTi => k_is)
    (case nf_fLT => k_is)
    (case lf_fLT => k_is)
    (case cf_fLT => k_is)
    (case kf_fLT => k_is)
    (case nf_fMa => k_is)
    (case lf_fMa => k_is)
    (case cf_fMa => k_is)
    (case kf_fMa => k_is)
    (case nf_fMr => k_is)
    (case lf_fMr => k_is)
    (case cf_fMr => k_is)
    (case kf_fMr => k_is)
    (case nf_fSw => k_is)
    (case lf_fSw => k_is)
    (case cf_fSw => k_is)
    (case kf_fSw => k_is)
    (case nf_fSo => k_is)
    (case lf_fSo => k_is)
    (case cf_fSo => k_is)
    (case kf_fSo => k_is)
    (case nf_fAw => k_is)
    (case lf_fAw => k_is)
    (case cf_fAw => k_is)
    (case kf_fAw => k_is)
    (case nf_fRg => k_is)
    (case lf_fRg => k_is)
    (case cf_fRg => k_is)
    (case kf_fRg => k_is)
    (case nf_fLaw => k_is)
    (case lf_fLaw => k_is)
    (case cf_fLaw => k_is)
    (case kf_fLaw => k_is)
    (case fm_gIn => k_is)
    (case lf_gIn => k_is)
    (case cf_gIn => k_is)
    (case kf_gIn => k_is)
    (case if_gIn => k_is)
    (case fm_gEq => k_is)
    (case lf_gEq => k_is)
    (case cf_gEq => k_is)
    (case kf_gEq => k_is)
    (case if_gEq => k_is)
    (case fm_hIn => k_is)
    (case lf_hIn => k_is)
    (case cf_hIn => k_is)
    (case kf_hIn => k_is)
    (case if_hIn => k_is)
    (case fm_hDo => k_is)
    (case lf_hDo => k_is)
    (case cf_hDo => k_is)
    (case kf_hDo => k_is)
    (case if_hDo => k_is)
    (case fm_hLn => k_is)
    (case lf_hLn => k_is)
    (case cf_hLn => k_is)
    (case kf_hLn => k_is)
    (case if_hLn => k_is)
    (case fm_hBo => k_is)
    (case lf_hBo => k_is)
    (case cf_hBo => k_is)
    (case kf_hBo => k_is)
    (case if_hBo => k_is)
    (case fm_iO => k_is)
    (case lf_iO => k_is)
    (case cf_iO => k_is)
    (case kf_iO => k_is)
    (case if_iO => k_is)
    (case fm_iT => k_is)
    (case lf_iT => k_is)
    (case cf_iT => k_is)
    (case kf_iT => k_is)
    (case if_iT => k_is)
    (case pa_gLv => k_is)
    (case pr_gLv => k_is)
    (case pg_gLv => k_is)
    (case pt_gLv => k_is)
    (case lf_gLv => k_is)
    (case cf_gLv => k_is)
    (case kf_gLv => k_is)
    (case pa_gLa => k_is)
    (case pr_gLa => k_is)
    (case pg_gLa => k_is)
    (case pt_gLa => k_is)
    (case lf_gLa => k_is)
    (case cf_gLa => k_is)
    (case kf_gLa => k_is)
    (case pa_gEn => k_is)
    (case pr_gEn => k_is)
    (case pg_gEn => k_is)
    (case pt_gEn => k_is)
    (case lf_gEn => k_is)
    (case cf_gEn => k_is)
    (case kf_gEn => k_is)
    (case pa_gTx => k_is)
    (case pr_gTx => k_is)
    (case pg_gTx => k_is)
    (case pt_gTx => k_is)
    (case lf_gTx => k_is)
    (case cf_gTx => k_is)
    (case kf_gTx => k_is)
    (case pa_hLv => k_is)
    (case pr_hLv => k_is)
    (case pg_hLv => k_is)
    (case pt_hLv => k_is)
    (case lf_hLv => k_is)
    (case cf_hLv => k_is)
    (case kf_hLv => k_is)
    (case pa_hTr => k_is)
    (case pr_hTr => k_is)
    (case pg_hTr => k_is)
    (case pt_hTr => k_is)
    (case lf_hTr => k_is)
    (case cf_hTr => k_is)
    (case kf_hTr => k_is)
    (case pa_hPl => k_is)
    (case pr_hPl => k_is)
    (case pg_hPl => k_is)
    (case pt_hPl => k_is)
    (case lf_hPl => k_is)
    (case cf_hPl => k_is)
    (case kf_hPl => k_is)
    (case pa_hLa => k_is)
    (case pr_hLa => k_is)
    (case pg_hLa => k_is)
    (case pt_hLa => k_is)
    (case lf_hLa => k_is)
    (case cf_hLa => k_is)
    (case kf_hLa => k_is)
    (case pa_hDn => k_is)
    (case pr_hDn => k_is)
    (case pg_hDn => k_is)
    (case pt_hDn => k_is)
    (case lf_hDn => k_is)
    (case cf_hDn => k_is)
    (case kf_hDn => k_is)
    (case nL => k_is)
    (case lL => k_is)
    (case nM => k_is)
    (case all => kernel_rfl)
