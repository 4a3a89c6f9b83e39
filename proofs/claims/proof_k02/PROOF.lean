import PyProof.Rows.All
import Wide.All
import OpenK.AllK
import Wide.FinOn
import HandS.ForMost
import HandS.Wide
import HandS.WideBits
import HandS.EndBits
import HandS.Steps
import HandS.ExcInit
import KE.KExcLine
import KE.KExcIs
import HandS.ExcOwn
import HandS.ExcValue
import HandS.IsInst
import HandS.ExcField
import HandS.Conv
import HandS.SortInts
import HandS.HotCalls
import KE.DataFind
import HandS.Lambda
import HandS.EndOwn
import HandS.TupAny
import KE.GoesMore
import HandS.Style
import KE.KCallOwn
import HandS.Property
import HandS.ClsMeth
import HandS.RaiseMore
import HandS.WordsExc
import HandS.MakeKwOnly
import HandS.Text
import HandS.StrMore
import HandS.FStr
import KE.IntTextLaws
import HandS.NoneIn
import PyProof.ExcBaseAll.LookupError
import PyProof.ExcBaseAll.ArithmeticError
import PyProof.ExcBaseAll.ValueError
import PySem.Challenge.RW_lamprounds_k02_rounds_judged
set_option Elab.async false
set_option linter.all false
set_option maxRecDepth 100000
namespace Lamp
open PySem PySem.Spec PyProof.Rows L2
/-! A def's promise where it is known that no repr is under way. -/
structure FnG (P : Program) (w : World) (K : PySem.W.Frag) (mg : Str → Option Value) (base : Heap) (k : Nat) (f : Addr) (fd : FuncData) (ps : List Str) (sp : Sp) : Prop where
  many : ∀ vs H Q E, sp vs H Q E → vs.length = ps.length
  goes : ∀ (A : Around) (out : List Env) (s : Shared) (H : Hp) (ar : Args) (us : List Value) (vs : List V) (Q : VK) (E : XK), A.guards = some [] → Room k A → Env0 P w K mg base A out s H →
    BindsTo s fd ar (ps.zip us) → Vals vs us → sp vs H Q E → codeAny (model P w) A (.call (.ref f) ar) (CR CX0 out P w H s Q E) s
section
variable {P : Program} {w : World} {K : PySem.W.Frag} {mg : Str → Option Value} {base : Heap}
theorem FnG.of {k : Nat} {f : Addr} {fd : FuncData} {ps : List Str} {sp : Sp} (F : FnOk P w K mg base CX0 k f fd ps sp) : FnG P w K mg base k f fd ps sp :=
  ⟨F.len, fun A out s H ar us vs Q E _ hr he hb hv hs => F.run A out s H ar us vs Q E hr he hb hv hs⟩
theorem FnG.up {j k : Nat} {f : Addr} {fd : FuncData} {ps : List Str} {sp : Sp} (F : FnG P w K mg base j f fd ps sp) (h : j ≤ k) : FnG P w K mg base k f fd ps sp :=
  ⟨F.many, fun A out s H ar us vs Q E hg hr he hb hv hs => F.goes A out s H ar us vs Q E hg (hr.mono h) he hb hv hs⟩
/-- the rule for a def, by its body -/
theorem okG {x qual : Str} {st : Stmt} {f : Addr} {fd : FuncData} {N ps : List Str} {k : Nat} {sp : Sp} (F : Fun K x qual st f fd) (S : FnScope N ps (defScope st)) (len : ∀ vs H Q E, sp vs H Q E → vs.length = ps.length)
    (hbody : ∀ (cdv : Value) (A : Around) (outer : List Env) (s : Shared) (H : Hp) (vs : List V) (Q : VK) (E : XK), A.guards = some [] → Room k (A.deeper (envOfC qual (defScope st) s.heap.objs.size f cdv)) → sp vs H Q E →
      ∃ t, PSs (cxOf CX0 P w K mg base N qual (defScope st) f cdv A outer s H E).nox (defBody st) t ∧ t { nx := fun _ H' => Q .non H', rt := Q } (start N vs) H) : FnG P w K mg base (k + 1) f fd ps sp := by
  obtain ⟨oc, od, kV, doc, pm, an, cdv, ct, osl, efd, hlk, hcode⟩ := F.ex
  subst efd
  refine ⟨len, fun A out s H ar us vs Q E hgd hroom hst hbind hvals hs => ?_⟩
  have hcount := len _ _ _ _ hs
  have inK : K.In s.heap := hst.mod.kin.keeps fun b o e => (hst.bs b o e).1
  have noLim : s.heap.NoLimit := hst.mod.nolimit.keeps fun b o e => (hst.bs b o e).1
  refine codeAny_call_function hroom.depth (inK _ _ hlk) rfl S.co S.gen rfl (PySem.W.codeRec_of inK hcode) (hbind _ _ _ _ ?_)
  refine wpAny_newFunctionEnv_cells S.kind (fun y hy => ?_) fun env eenv s1 xin => ?_
  · obtain ⟨nm, val⟩ := y
    cases S.par nm (List.of_mem_zip hy).1 with
    | inl isLocal => exact .inl isLocal
    | inr isCell => exact .inr ⟨isCell, PySem.W.cellsFrom_some _ _ _ (.inl isCell)⟩
  subst eenv
  refine ⟨noLim.keeps xin.toInCall.keep, codeAny_func ?_⟩
  obtain ⟨t, ht0, hq⟩ := hbody cdv A out s H vs Q E hgd (hroom.deeper _) hs
  have ht := ht0.nox
  have inv0 : Inv (cxOf CX0 P w K mg base N qual (defScope st) f cdv A out s H E) [] (start N vs) H s1 := inv_start S hroom.hd hst hcount hvals xin
  have fin : ∀ {σ' : L2.St} {H' : Hp} {v : V} {u : Value} {s' : Shared}, Inv (cxOf CX0 P w K mg base N qual (defScope st) f cdv A out s H E) [] σ' H' s' → RelV v u → Q v H' → CE out P w H s Q u s' := fun J rv q => ⟨_, _, J.os, J.bare, J.base, J.hok, rv, q⟩
  refine wpAny_mono (ht.run [] s1 (start N vs) H _ inv0 hq) (fun flow s' told => ?_) fun e s' told => told
  match flow, told with
  | .ret u, ⟨v, σ', H', J, rv, q⟩ => exact fin J rv q
  | .next, ⟨σ', H', J, q⟩ => exact fin (v := V.non) (u := Value.none) J rfl q
  | .brk, ⟨_, _, _, q⟩ => exact False.elim q
  | .cont, ⟨_, _, _, q⟩ => exact False.elim q
end
section
variable {X : Cx} {k : Nat} {f : Addr} {fd : FuncData} {ps : List Str} {sp : Sp} {dvs : List V} {ds : List Value} {x : Str} {p pos : Pos} {e : Expr} {es : List Expr} {t : TA}
theorem runG {pins : List (Addr × Obj)} {σ : L2.St} {H : Hp} {s : Shared} {Q : VK} {us : List Value} {vs : List V} (F : FnG X.prog X.w X.K X.mg X.base k f fd ps sp) (hgd : X.A.guards = some []) (hr : Room k X.A) (hb : Binds X.K fd ps [])
    (I : Inv X pins σ H s) (r : Vals vs us) (h : sp vs H Q E0) : wpAny (model X.prog X.w) X.A (call (.ref f) us) (EP X pins σ Q) X.xe s := by
  have hl : (us ++ []).length = ps.length := by rw [List.append_nil, ← r.length]; exact F.many _ _ _ _ h
  have hbb := hb s us I.kIn hl
  rw [List.append_nil] at hbb
  refine wpAny_call (codeAny_mono (F.goes X.A X.stack s H ⟨us, []⟩ us vs Q E0 hgd hr I.env0 hbb r h) fun res s' told => ?_)
  match res, told with
  | .error _, told => exact False.elim told
  | .ok (.ret u), told => exact I.after told
  | .ok .next, told => exact False.elim told
  | .ok .brk, told => exact False.elim told
  | .ok .cont, told => exact False.elim told
/-- f(e, ..) -/
def tCallG (sp : Sp) (t : TA) : TE := fun σ H Q => t σ H fun vs H1 => sp vs H1 Q E0
theorem pe_callG (F : FnG X.prog X.w X.K X.mg X.base k f fd ps sp) (hgd : X.A.guards = some []) (hr : Room k X.A) (hg : Gl X x) (hm : X.mg x = some (.ref f)) (hk : PySem.W.keepIn X.K (.ref f) = true) (hb : Binds X.K fd ps [])
    (ha : PA X (e :: es) t) (hdb : (x == ("__debug__" : Str)) = false := by decide) (he : starEach (e :: es) X.env = (false, eval e X.env) :: starEach es X.env := by rfl) (hpl : (backTo pos (starEach es X.env)).any (·.1) = false := by rfl) :
    PE X (.Call (.Name x p) (e :: es) [] pos) (tCallG sp t) :=
  ⟨fun pins s σ H Q I h => wpAny_Call_Name_kw (ld_glob I hg hm (PySem.W.callWith_K (h₀ := X.base) I.ok.mod.kin hk (thn (ha.run pos pins s σ H _ I h) fun us s1 ⟨vs, H1, I1, r, q⟩ =>
    ⟨I1.kIn, runG F hgd hr hb I1 r q⟩) he hpl) hdb)⟩
end
/-! the law's own call, from its promise -/
theorem law_goes {P : Program} {w : World} {K : PySem.W.Frag} {mg mb : Str → Option Value} {k : Nat} {fa a : Addr} {fd : FuncData} {x : Str} {sp : Sp} {sh : Shared} {vs : List Value} {ns : List Int} {H : Hp}
    (inK : K.In sh.heap) (nsG : sh.heap.Ns mainGlobals mg) (nsB : sh.heap.Ns builtinsNs mb) (bltn : ∀ x : Str, x ≠ "__name__" → mb x = bootBuiltins x) (noLim : sh.heap.NoLimit) (noGen : sh.gens = #[])
    (there : sh.heap.get? a = some { cls := .type "list", data := .seq vs.toArray }) (room : Room k callerA)
    (F : ∀ base : Heap, K.In base → base.Ns mainGlobals mg → FnG P w K mg base k fa fd [x] sp) (hbind : ∀ (s : Shared) (u : Value), BindsTo s fd ⟨[u], []⟩ [(x, u)])
    (asked : sp [.ref a] H (fun v _ => v = .bl true) E0) (only : Only H) (hok : HOk P w H sh.heap) (alone : ∀ b u, H b = some u → b = a ∧ K.lookup a = none) :
    codeAny (model P w) callerA (.call (.ref fa) ⟨[.ref a], []⟩) (fun r s' => r = .ok (.ret (.bool true)) ∧ OldK sh.heap s'.heap ∧ s'.os = sh.os ∧ AllBare s'.gens) sh := by
  have untold : ∀ {b : Addr} {o : Obj}, sh.heap.get? b = some o → (b = a → o.cls ≠ .type "list") → H b = none := fun {b o} e ne => by
    cases q : H b with
    | none => rfl
    | some u =>
      have eb := (alone b u q).1
      subst eb
      rw [there] at e
      cases e
      exact absurd rfl (ne rfl)
  have nsKeep : ∀ {b : Addr} {m : Str → Option Value}, sh.heap.Ns b m → (hidT sh.heap H).Ns b m := fun {b m} told => by
    obtain ⟨o, es, ep, e, d, r⟩ := told
    refine ⟨o, es, ep, hidT_get e ?_, d, r⟩
    cases q : H b with
    | none => rfl
    | some u =>
      have eb := (alone b u q).1
      subst eb
      rw [there] at e
      cases e
      exact Data.noConfusion d
  have inK' : K.In (hidT sh.heap H) := fun b o e => hidT_get (inK b o e) (by
    cases q : H b with
    | none => rfl
    | some u =>
      obtain ⟨eb, none⟩ := alone b u q
      rw [eb, none] at e
      cases e)
  obtain ⟨mc, lim1, lim2⟩ := noLim
  have start0 : Env0 P w K mg (hidT sh.heap H) callerA [] sh H :=
    { frames := rfl, mod := ⟨inK', nsKeep nsG, ⟨mb, nsKeep nsB, bltn⟩, ⟨mc, nsKeep lim1, lim2⟩⟩, bs := fun b o e => of_hidT e, bsz := Nat.le_of_eq (hidT_size _ _), funs := trivial, frf := (fun b hb => nomatch hb), hok := hok, bare := .of_eq noGen }
  refine codeAny_mono ((F _ inK' (nsKeep nsG)).goes callerA [] sh H ⟨[.ref a], []⟩ [.ref a] [.ref a] _ _ rfl room start0 (hbind sh (.ref a)) (.cons rfl .nil) asked) fun res s' told => ?_
  match res, told with
  | .error _, told => exact False.elim told
  | .ok .next, told => exact False.elim told
  | .ok .brk, told => exact False.elim told
  | .ok .cont, told => exact False.elim told
  | .ok (.ret u), ⟨v, H', os, bare, un, hok', rv, ev⟩ =>
    have ev' : v = .bl true := ev
    subst ev'
    have eu : u = Value.bool true := rv
    subst eu
    refine ⟨rfl, OldK.of_keep fun b o e => ?_, os, bare⟩
    rcases only b with none | ⟨ob, xs, froz⟩
    · exact un.keep b o e none (fun z => nomatch z) (fun z => nomatch z)
    · have old := (hok b _ froz).1
      have new := (hok' b _ (un.frzs b ob _ froz)).1
      rw [e] at old
      cases old
      exact new
theorem law_goes2 {P : Program} {w : World} {K : PySem.W.Frag} {mg mb : Str → Option Value} {k : Nat} {fa a : Addr} {fd : FuncData} {x : Str} {sp : Sp} {sh : Shared} {vs : List Value} {ns : List Int}
    (inK : K.In sh.heap) (nsG : sh.heap.Ns mainGlobals mg) (nsB : sh.heap.Ns builtinsNs mb) (bltn : ∀ x : Str, x ≠ "__name__" → mb x = bootBuiltins x) (noLim : sh.heap.NoLimit) (noGen : sh.gens = #[])
    (there : sh.heap.get? a = some { cls := .type "list", data := .seq vs.toArray }) (areInts : IntsAre vs ns) (short : ns.length ≤ sizeLine) (room : Room k callerA)
    (F : ∀ base : Heap, K.In base → base.Ns mainGlobals mg → FnG P w K mg base k fa fd [x] sp) (hbind : ∀ (s : Shared) (u : Value), BindsTo s fd ⟨[u], []⟩ [(x, u)])
    (asked : ∀ H : Hp, Only H → SqL K H a (ns.map V.int) → sp [.ref a] H (fun v _ => v = .bl true) E0) :
    codeAny (model P w) callerA (.call (.ref fa) ⟨[.ref a], []⟩) (fun r s' => r = .ok (.ret (.bool true)) ∧ OldK sh.heap s'.heap ∧ s'.os = sh.os ∧ AllBare s'.gens) sh := by
  have vals := vals_ints areInts
  have same := areInts.length
  cases look : K.lookup a with
  | some o =>
    have e := inK a o look
    rw [there] at e
    cases e
    have on : Only fun _ => none := fun _ => .inl rfl
    exact law_goes (ns := ns) inK nsG nsB bltn noLim noGen there room F hbind (asked _ on (.inr ⟨_, vs.toArray, _, look, rfl, rfl, rfl, by rw [List.size_toArray, same]; exact short, vals⟩)) on (fun b u z => nomatch z) (fun b u z => nomatch z)
  | none =>
    let held : HO := .frz { cls := .type "list", data := .seq vs.toArray } (.lst (ns.map V.int))
    have at_ : ∀ b, b = a → (fun c => if c = a then some held else none : Hp) b = some held := fun b e => if_pos e
    have off : ∀ b, b ≠ a → (fun c => if c = a then some held else none : Hp) b = none := fun b e => if_neg e
    have on : Only fun c => if c = a then some held else none := fun b => by
      by_cases eb : b = a
      · exact .inr ⟨_, _, at_ b eb⟩
      · exact .inl (off b eb)
    refine law_goes (ns := ns) inK nsG nsB bltn noLim noGen there room F hbind (asked _ on (.inl (.inr ⟨_, at_ a rfl⟩))) on (fun b u z => ?_) (fun b u z => ?_)
    · by_cases eb : b = a
      · subst eb
        have z2 := (at_ b rfl).symm.trans z
        cases z2
        exact ⟨there, by rw [List.length_map]; exact short, vs, _, vals, there⟩
      · have z2 := (off b eb).symm.trans z
        cases z2
    · by_cases eb : b = a
      · exact ⟨eb, look⟩
      · have z2 := (off b eb).symm.trans z
        cases z2
open PySem.W in
theorem walk_ofG {l : PySem.W.OpenLaw} {n k : Nat} {q : Program} {loose : List Str} {XP : (Str → Option Value) → Heap → Prop} {YP : World → Heap → Prop} {d : DefRec} {K : Params → PySem.W.Frag} {sp : World → Sp} {x : Str}
    (hn : l.most = some n) (hn2 : n ≤ sizeLine) (hdf : d.params.defaults = []) (hr : Room k callerA) (hY : ∀ (w : World) (h : Heap), YP w h → (K w.params).In h)
    (F : ∀ (w : World) (mg : Str → Option Value) (fa : Addr) (h : Heap), (K w.params).In h → h.Ns mainGlobals mg → mg d.name = some (.ref fa) → ∃ fd : FuncData, (∀ (s : Shared) (u : Value), BindsTo s fd ⟨[u], []⟩ [(x, u)]) ∧
        ∀ base : Heap, (K w.params).In base → base.Ns mainGlobals mg → FnG l.prog w (K w.params) mg base k fa fd [x] (sp w))
    (hsp : ∀ (w : World) (H : Hp) (a : Addr) (ns : List Int), ns.length ≤ n → (∀ z ∈ ns, Builtin.Int.intBits z ≤ 1048576) → Only H → SqL (K w.params) H a (ns.map V.int) → sp w [.ref a] H (fun v _ => v = .bl true) E0) :
    PySem.W.WalkO q loose XP YP l.row.toRowW d [] (fun f vs => PySem.call f vs) :=
  Att.attach_callB hn hdf fun w s₀ s₁ mg mb fa o pm cd doc a vs ns G Y ho hd hcd hmg hobj hints hlen hbits hg => by
    obtain ⟨fd, hb, hF⟩ := F w mg fa _ (hY w _ Y) G.T.g hmg
    exact law_goes2 (hY w _ Y) G.T.g G.T.b G.T.builtins G.T.nolimit hg hobj hints (Nat.le_trans hlen hn2) hr hF hb fun H hO hS => hsp w H a ns hlen hbits hO hS
end Lamp
set_option Elab.async false
set_option linter.all false
set_option maxRecDepth 100000
namespace Lamp
open PySem PySem.Spec PyProof.Rows L2
/-! repr of data -/
mutual
theorem dp_nodict {K : PySem.W.Frag} {H : Hp} : ∀ (d : PyData) (v : V), Dp K H v d → d.hasDict = false
  | .none, _, _ => by simp only [PyData.hasDict]
  | .bool _, _, _ => by simp only [PyData.hasDict]
  | .int _, _, _ => by simp only [PyData.hasDict]
  | .str _, _, _ => by simp only [PyData.hasDict]
  | .list ds, _, h => by
    cases h with
    | lst hs ha => simpa only [PyData.hasDict] using dpAll_nodict ds _ ha
  | .tuple ds, _, h => by
    cases h with
    | tup hs ha => simpa only [PyData.hasDict] using dpAll_nodict ds _ ha
  | .dict _, _, h => by cases h
theorem dpAll_nodict {K : PySem.W.Frag} {H : Hp} : ∀ (ds : List PyData) (vs : List V), DpAll K H vs ds → PyData.hasDictAll ds = false
  | [], _, _ => by simp only [PyData.hasDictAll]
  | d :: ds, _, h => by
    cases h with
    | cons h1 h2 => simp only [PyData.hasDictAll, dp_nodict d _ h1, dpAll_nodict ds _ h2, Bool.or_self]
end
/-- the data of a scalar -/
def scalD : V → Option PyData
  | .non => some .none
  | .bl b => some (.bool b)
  | .int i => some (.int i)
  | .str x => some (.str x)
  | _ => none
def keyD : Key → PyData
  | .inl i => .int i
  | .inr x => .str x
/-- a value that shows as data: data without dicts, or a dict of scalars -/
inductive Dq (K : PySem.W.Frag) (H : Hp) : V → PyData → Prop
  | plain {v : V} {d : PyData} : Dp K H v d → Dq K H v d
  | dict {a : Addr} {kvs : List (Key × V)} {es : List (PyData × PyData)} : H a = some (.dK kvs) → kvs.map (fun p => (keyD p.1, scalD p.2)) = es.map (fun p => (p.1, some p.2)) → Dq K H (.ref a) (.dict es)
theorem scal_reads {h : Heap} {v : V} {u : Value} {d : PyData} (e : scalD v = some d) (r : RelV v u) : Reads h u d [] := by
  cases v with
  | non => cases e; cases r; exact .none
  | bl b => cases e; cases r; exact .bool b
  | int i => cases e; obtain ⟨t, rfl⟩ := r; exact .int i t
  | str x => cases e; obtain ⟨t, rfl⟩ := r; exact .str x t
  | byt _ => cases e
  | flt _ => cases e
  | ref _ => cases e
  | ty _ => cases e
theorem key_reads {h : Heap} {k : Key} {u : Value} (e : keyIs k u = true) : Reads h u (keyD k) [] := by
  rcases keyIs_shape e with ⟨i, t, rfl, rfl⟩ | ⟨x, t, rfl, rfl⟩
  · exact .int i t
  · exact .str x t
theorem entries_read {P : Program} {w : World} {h : Heap} : ∀ {ents : List DictEntry} {vs : List (Key × Value)} {kvs : List (Key × V)} {es : List (PyData × PyData)}, Pairs (mixKind P w) ents vs → KV kvs vs →
    kvs.map (fun p => (keyD p.1, scalD p.2)) = es.map (fun p => (p.1, some p.2)) → ReadsAll h (ents.map (·.key)) (es.map (·.1)) [] ∧ ReadsAll h (ents.map (·.val)) (es.map (·.2)) [] := by
  intro ents vs kvs es hp
  induction hp generalizing kvs es with
  | nil =>
    intro hk e
    cases hk
    cases es with
    | nil => exact ⟨.nil, .nil⟩
    | cons _ _ => cases e
  | @cons en kv ents vs hkey hval _ ih =>
    intro hk e
    cases hk with
    | @cons p _ kvs' _ hpq hrest =>
      obtain ⟨ek, ev⟩ := hpq
      cases es with
      | nil => cases e
      | cons q es' =>
        simp only [List.map_cons, List.cons.injEq, Prod.mk.injEq] at e
        obtain ⟨⟨e1, e2⟩, e3⟩ := e
        obtain ⟨r1, r2⟩ := ih hrest e3
        have hkey' : keyIs p.1 en.key = true := by rw [ek]; exact hkey
        have k1 : Reads h en.key q.1 [] := by rw [← e1]; exact key_reads hkey'
        have k2 : Reads h en.val q.2 [] := scal_reads e2 (by rw [hval]; exact ev)
        exact ⟨by simpa using ReadsAll.cons k1 r1, by simpa using ReadsAll.cons k2 r2⟩
theorem dq_reads {X : Cx} {pins : List (Addr × Obj)} {σ : L2.St} {H : Hp} {s : Shared} (I : Inv X pins σ H s) {v : V} {u : Value} {d : PyData} (h : Dq X.K H v d) (r : RelV v u) :
    ∃ as, Reads s.heap u d as ∧ (d.hasDict = true → sysModules ∉ as) := by
  cases h with
  | plain h =>
    obtain ⟨as, q⟩ := Dp.reads I d v u h r
    exact ⟨as, q, fun z => by rw [dp_nodict d v h] at z; cases z⟩
  | @dict a kvs es ha he =>
    have eu : u = Value.ref a := r
    subst eu
    obtain ⟨_, low, vs, hk, o, ents, ep, h1, h2, h3, _, h5, _⟩ := (show ObjOk X.prog X.w H s.heap a (.dK kvs) from I.hok a _ ha)
    obtain ⟨q1, q2⟩ := entries_read (h := s.heap) h5 hk he
    refine ⟨_, Reads.dict h1 h2.1 h3 q1 q2, fun _ hm => ?_⟩
    simp at hm
    rw [← hm] at low
    simp at low
/-- repr(x) of data -/
def rReprD (K : PySem.W.Frag) : List V → Hp → VK → Prop := fun xs H Q => ∃ v d, xs = [v] ∧ Dq K H v d ∧ d.showable = true ∧ d.depth ≤ 60 ∧ d.shown.length ≤ sizeLine ∧ Q (.str d.shown) H
theorem call_reprD {X : Cx} (hgd : X.A.guards = some []) (hu : X.A.units + 64 < cLine) : CallR X (.builtin "repr") (rReprD X.K) := by
  intro pins s σ H xs us Q I r h
  obtain ⟨v, d, rfl, hd, hs, hdep, hlen, q⟩ := h
  obtain ⟨u, rfl, rv⟩ := vals1 r
  obtain ⟨as, hr, hsm⟩ := dq_reads I hd rv
  cases hr with
  | none => exact PySem.P.repr_of_none ⟨.str _, H, I.tok _, ⟨_, rfl⟩, q⟩
  | bool b => exact PySem.P.repr_of_bool ⟨.str _, H, I.tok _, ⟨_, rfl⟩, q⟩
  | int i t => exact PySem.P.repr_of_int (by simpa [PyData.showable] using hs) ⟨.str _, H, I.tok _, ⟨_, rfl⟩, q⟩
  | str x t => exact PySem.P.repr_of_str ⟨.str _, H, I.tok _, ⟨_, rfl⟩, q⟩ (by simpa [PyData.shown] using hlen)
  | list h1 h2 h3 h4 => exact repr_of_reads' (.list h1 h2 h3 h4) hs hsm hgd (by omega) (fun _ _ e => e) (fun h' u tk k => ⟨.str _, H, I.kept k, ⟨_, rfl⟩, q⟩) hlen
  | tuple h1 h2 h3 h4 => exact repr_of_reads' (.tuple h1 h2 h3 h4) hs hsm hgd (by omega) (fun _ _ e => e) (fun h' u tk k => ⟨.str _, H, I.kept k, ⟨_, rfl⟩, q⟩) hlen
  | dict h1 h2 h3 h4 h5 => exact repr_of_reads' (.dict h1 h2 h3 h4 h5) hs hsm hgd (by omega) (fun _ _ e => e) (fun h' u tk k => ⟨.str _, H, I.kept k, ⟨_, rfl⟩, q⟩) hlen
end Lamp
set_option Elab.async false
set_option linter.all false
set_option maxRecDepth 100000
set_option maxHeartbeats 4000000
namespace PySem
namespace LampX
open HandSPX Builtin Builtin.ObjectAttr
/-! an exception class of the program called, with keywords too -/
section
variable {prog : Program} {w : World} {M : Model} {A : Around} {E : Value → Shared → Prop} {R : Result → Shared → Prop} {h : Heap} {g : Array GenState} {d : Drawn} {t : Nat} {os : OsState}
variable {cn cq : Str} {C N : Addr} {bs bm tail : List Value} {hdct : Bool} {sn : List Str} {sub : List Value} {ab : Bool} {col : Option Bool} {dd : Option Addr} {k0 k1 k2 k3 k5 : Option Value} {B newId initId : String} {rest : List Value} {kw : List (Str × Value)}
theorem newChecked (F : ExcBaseFacts B newId initId tail) (hT : ∀ X : String, bm.contains (.type X) = tail.contains (.type X)) {Q : Unit → Shared → Prop}
    (hC : h.get? C = some (excClassObj cn cq C N bs bm hdct sn sub ab col dd k0 k1 k2 k3 k5 newId)) (hq : Q () ⟨h, g, d, t, os⟩) : wpAny M A (checkBuiltinCall newId ⟨.ref C :: rest, kw⟩) Q E ⟨h, g, d, t, os⟩ := by
  have below : (Value.ref C :: bm).contains (.type B) = true := by rw [List.contains_cons, hT, F.hasB, Bool.or_true]
  have plain := F.noStar
  simp only [checkBuiltinCall, F.newKind, F.newSplit, F.newRow]
  repeat (first | refine wpAny_loadPart_at hC ?_ | (refine wpAny_isSubtype_exc hC ?_; rw [below]) | refine wpAny_staticBase_exc hC ?_ | refine wpAny_madeBy_exc hC ?_ | simp only [bne_self_eq_false, Bool.false_eq_true, if_false] | wp_step)
  exact hq
theorem newMade (F : ExcBaseFacts B newId initId tail) (hT : ∀ X : String, bm.contains (.type X) = tail.contains (.type X))
    (hC : h.get? C = some (excClassObj cn cq C N bs bm hdct sn sub ab col dd k0 k1 k2 k3 k5 newId))
    (hq : R (.ok (.ret (.ref (h.objs.size + 1)))) ⟨(h.push (W.kdv_tup rest)).push (excO C h.objs.size), g, d, t, os⟩) (short : rest.length ≤ sizeLine) :
    codeAny (model prog w) A (.builtin newId ⟨.ref C :: rest, kw⟩) R ⟨h, g, d, t, os⟩ := by
  have stops := F.ends
  have isB : (Value.ref C :: bm).contains (.type B) = true := by rw [List.contains_cons, hT, F.hasB, Bool.or_true]
  have notA : (Value.ref C :: bm).contains (.type "AttributeError") = false := by rw [List.contains_cons, hT, F.noAttr] <;> rfl
  have notN : (Value.ref C :: bm).contains (.type "NameError") = false := by rw [List.contains_cons, hT, F.noName] <;> rfl
  refine codeAny_builtinAt F.entry ?_
  unfold Builtin.«BaseException.__new__»
  refine wpAt_bind ?_
  show wpAt _ _ _ (stack >>= _) _ _ _
  refine wpAt_bind (wpAt_stack fun p below => wpAt_of_wpAny ?_)
  wp_walk
  refine wpAt_of_wpAny ?_
  rw [F.owner]
  repeat (first | with_reducible refine wpAny_madeHere_exc F.canon hC ?_ | with_reducible refine wpAny_loadPart_at hC ?_ | (with_reducible refine wpAny_isSubtype_exc hC ?_; first | rw [isB] | rw [notA] | rw [notN]) | wp_step)
  show R _ _
  rw [Heap.size_push]
  exact hq
theorem typeCalled (F : ExcBaseFacts B newId initId tail) (hT : ∀ X : String, bm.contains (.type X) = tail.contains (.type X)) {fI : Addr} {Q : Fin → Shared → Prop}
    (hC : h.get? C = some (excClassObj cn cq C N bs bm hdct sn sub ab col dd k0 k1 k2 k3 k5 newId))
    (hi : W.Looks (model prog w) h (typeLookup (.ref C) "__init__") (some (.ref fI))) (hb : ∀ self, W.Looks (model prog w) h (bindSpecial (.ref fI) self) (.ref fI, [self])) (short : rest.length ≤ sizeLine)
    (hq : codeAny (model prog w) A (.call (.ref fI) ⟨.ref (h.objs.size + 1) :: rest, kw⟩)
      (fun r s' => match r with | .ok (.ret v) => v = .none ∧ Q (.done (.ret (.ref (h.objs.size + 1)))) s' | .ok _ => False | .error e => E e s') ⟨(h.push (W.kdv_tup rest)).push (excO C h.objs.size), g, d, t, os⟩) :
    wpAny (model prog w) A (Builtin.«type.__call__» ⟨.ref C :: rest, kw⟩) Q E ⟨h, g, d, t, os⟩ := by
  repeat (first | with_reducible refine wpAny_loadPart_at hC ?_ | with_reducible refine wpAny_madeBy_exc hC ?_ | wp_step)
  refine codeAny_call_builtin_code (Code.quiet_builtin _ F.quiet) (newChecked F hT hC ?_)
  refine newMade F hT hC ?_ short
  show wpAny _ _ _ _ _ _
  have stays : ∀ b o, h.get? b = some o → ((h.push (W.kdv_tup rest)).push (excO C h.objs.size)).get? b = some o := fun b o e => Heap.get?_push_of_some _ (Heap.get?_push_of_some _ e)
  have classThere := stays _ _ hC
  have newThere : ((h.push (W.kdv_tup rest)).push (excO C h.objs.size)).get? (h.objs.size + 1) = some (excO C h.objs.size) := by heap_get
  have ownClass : (Value.ref C :: bm).contains (.ref C) = true := by simp
  have initLook := hi.keeps stays
  have initBound := (hb (.ref (h.objs.size + 1))).keeps stays
  unfold isInstance
  repeat (first | with_reducible refine wpAny_loadPart_at newThere ?_ | (with_reducible refine wpAny_isSubtype_exc classThere ?_; rw [ownClass]) | wp_step)
  show wpAny _ _ (typeLookup (.ref C) _) _ _ _
  refine initLook.at ?_
  refine wpAny_holding (wpAny_bind (initBound.at ?_))
  refine wpAny_bind (wpAny_call (codeAny_mono hq fun r s' z => ?_))
  rcases r with e | (v | _ | _ | _) <;> first | exact z | exact z.elim | skip
  obtain ⟨rfl, z⟩ := z
  first
    | exact wpAny_pure (wpAny_pure z)
    | (wp_walk; exact z)
theorem typeCallChecked {Q : Unit → Shared → Prop} (hC : h.get? C = some (excClassObj cn cq C N bs bm hdct sn sub ab col dd k0 k1 k2 k3 k5 newId))
    (hq : Q () ⟨h, g, d, t, os⟩) : wpAny M A (checkBuiltinCall "type.__call__" ⟨.ref C :: rest, kw⟩) Q E ⟨h, g, d, t, os⟩ := by
  have isSub := tc_sub
  have isClass : (⟨h, g, d, t, os⟩ : Shared).TypeIs (.ref C) "type" := ⟨_, hC, rfl⟩
  simp only [checkBuiltinCall, tc_kind, tc_split]
  repeat (any_goals (first | assumption | with_reducible refine wpAny_loadPart_at hC ?_ | with_reducible refine wpAny_onRaise ?_ | with_reducible refine wpAny_map ?_ | wp_step))
/-- the class called -/
theorem excCalled (F : ExcBaseFacts B newId initId tail) (hT : ∀ X : String, bm.contains (.type X) = tail.contains (.type X)) {fI : Addr}
    (hC : h.get? C = some (excClassObj cn cq C N bs bm hdct sn sub ab col dd k0 k1 k2 k3 k5 newId))
    (hi : W.Looks (model prog w) h (typeLookup (.ref C) "__init__") (some (.ref fI))) (hb : ∀ self, W.Looks (model prog w) h (bindSpecial (.ref fI) self) (.ref fI, [self])) (short : rest.length ≤ sizeLine)
    (hq : codeAny (model prog w) (A.under (.builtin "type.__call__" ⟨.ref C :: rest, kw⟩)) (.call (.ref fI) ⟨.ref (h.objs.size + 1) :: rest, kw⟩) (W.InitBack (h.objs.size + 1) R) ⟨(h.push (W.kdv_tup rest)).push (excO C h.objs.size), g, d, t, os⟩) :
    codeAny (model prog w) A (.call (.ref C) ⟨rest, kw⟩) R ⟨h, g, d, t, os⟩ := by
  have look := tc_lookup
  have bound := tc_bind (.ref C)
  have isClass : (⟨h, g, d, t, os⟩ : Shared).TypeIs (.ref C) "type" := ⟨_, hC, rfl⟩
  refine codeAny_of_tree ?_
  show wpAny _ _ (callAny (.ref C) _) _ _ _
  repeat (any_goals (first | assumption | with_reducible refine wpAny_loadPart_at hC ?_ | wp_step))
  refine ⟨rfl, ?_⟩
  refine codeAny_call_builtin_at (Code.quiet_builtin _ (by decide +kernel)) entry_typeCall (typeCallChecked hC (typeCalled F hT hC hi hb short ?_))
  refine codeAny_mono hq fun r s' z => ?_
  rcases r with e | (v | _ | _ | _) <;> exact z
end
end LampX
end PySem
set_option Elab.async false
set_option linter.all false
set_option maxRecDepth 100000
set_option maxHeartbeats 4000000
namespace PySem
namespace LampX
open PySem.W Builtin.ObjectAttr
section
variable {prog : Program} {w : World} {A : Around} {s : Shared} {K : Frag} {C : Addr} {B : String} {tail : List Value}
/-- the first field of an exception: its dict is laid -/
theorem firstField {x t : Addr} {name : Str} {tk : Tok} {v : Value} {R : Result → Shared → Prop} (SF : StoreFacts B tail "object.__setattr__" "object") (inK : K.In s.heap) (there : s.heap.get? x = some (excObj C t none .none))
    (over : excOver K C tail = true) (taker : takerIn K C name = some none) (dict : hasDictIn K C = true)
    (hq : ∀ h' tk' dx, (∀ b o, b ≠ x → s.heap.get? b = some o → h'.get? b = some o) → s.heap.objs.size ≤ dx → dx ≠ x → h'.get? x = some (excObj C t (some dx) .none) →
      h'.Ns1 dx (fun y => if y = name then some v else none) → R (.ok (.ret .none)) { s with heap := h', toks := tk' }) :
    codeAny (model prog w) A (.call (.builtin "object.__setattr__") ⟨[.ref x, .str name tk, v], []⟩) R s := by
  have fresh : x ≠ s.heap.objs.size := Nat.ne_of_lt (Heap.lt_size there)
  refine osa_openX (od := none) SF inK ⟨there, rfl, rfl, trivial⟩ over taker fun b => ?_
  obtain ⟨cd, hcd, hdd⟩ := any_some dict
  refine wpAny_bind (wpAny_pure (wpAny_bind (instanceDict_exc there (looks_clsIn inK hcd) hdd ?_)))
  show wpAny _ _ (storeInDict s.heap.objs.size (.str name tk) name v) _ _ _
  have was : (s.heap.push (dictOf [] 0)).get? x = some (excObj C t none .none) := Heap.get?_push_of_some _ there
  refine HandSPX.store_in_new ⟨_, #[], _, (Heap.get?_update_ne _ _ _ _ fresh.symm).trans (Heap.get?_push_at rfl rfl), rfl, fun e he => absurd he (by simp), fun _ => rfl⟩ fun h' tk' named kept => ?_
  refine hq h' tk' s.heap.objs.size (fun b o hb ho => ?_) (Nat.le_refl _) fresh.symm ?_ named
  · exact (kept.2 b (Nat.ne_of_lt (Heap.lt_size ho))).trans ((Heap.get?_update_ne _ _ _ _ hb).trans (Heap.get?_push_of_some _ ho))
  · exact (kept.2 x fresh).trans (Heap.get?_update_self _ was rfl)
end
end LampX
end PySem
namespace Lamp
open PySem PySem.Spec PyProof.Rows L2
/-- what the written part says of an exception class of the program -/
structure EC (K : PySem.W.Frag) (C : Addr) (B newId initId : String) (tail : List Value) : Prop where
  F : ExcBaseFacts B newId initId tail
  S : StoreFacts B tail "object.__setattr__" "object"
  made : PySem.W.excInitIn K C tail newId = true
  over : PySem.W.excOver K C tail = true
  sa : PySem.W.findIn K (.ref C) "__setattr__" = some (some (.builtin "object.__setattr__"))
  ga : PySem.W.findIn K (.ref C) "__getattribute__" = some (some (.builtin "BaseException.__getattribute__"))
  gg : PySem.W.findIn K (.ref C) "__getattr__" = some none
  exC : PySem.W.subIn K (.ref C) (.type "BaseException") = some true
  hd : PySem.W.hasDictIn K C = true
  kp : PySem.W.keepIn K (.ref C) = true
  cls : PySem.W.findIn K (.ref C) "__class__" = some (some (.builtin "object.__class__"))
  obj : PySem.W.mroIn K C (.type "object") = some true
section
variable {X : Cx} {pins : List (Addr × Obj)} {σ : L2.St} {H : Hp} {s : Shared} {a C : Addr} {f : Str} {y : V} {u : Value} {Q : Unit → Shared → Prop} {E : Value → Shared → Prop} {A : Around} {B newId initId : String} {tail : List Value}
theorem store1 (T : EC X.K C B newId initId tail) (I : Inv X pins σ H s) (e : H a = some (exo a C none)) (ht : PySem.W.takerIn X.K C f = some none) (ry : RelV y u)
    (h : ∀ dx s', H dx = none → dx ≠ a → Inv X pins σ (upd (upd H dx (exd dx [(f, y)])) a (exo a C (some dx))) s' → Q () s') : wpAny (model X.prog X.w) A (setAttr (.ref a) f u) Q E s := by
  obtain ⟨t1, there⟩ := exo_at I.hok e
  refine PySem.W.set_plain I.kIn (ox := PySem.W.excObj C t1 none .none) (od := none) ⟨there, rfl, rfl, trivial⟩ T.sa ?_
  refine PySem.LampX.firstField (s := { s with toks := s.toks + 1 }) T.S I.kIn there T.over ht T.hd fun h' tk' dx kept new other now named => ?_
  have free : H dx = none := I.hok.fresh new
  have notNew : ∀ {b : Addr} {o : Obj}, s.heap.get? b = some o → b ≠ dx := fun {b o} q => Nat.ne_of_lt (Nat.lt_of_lt_of_le (Heap.lt_size q) new)
  have notA : ∀ {b : Addr}, H b = none → b ≠ a := fun {b} n z => by rw [z, e] at n; cases n
  have un : Un X.fs [] H (upd (upd H dx (exd dx [(f, y)])) a (exo a C (some dx))) s.heap h' :=
    ⟨fun b o q n _ _ => kept b o (notA n) q, fun b o q n _ _ => ⟨o.slots, kept b o (notA n) q⟩, fun b o q n _ => by rw [upd_ne (notA n), upd_ne (notNew q)]; exact n,
      fun b o q _ => by
        by_cases hb : b = a
        · subst hb; exact ⟨_, now⟩
        · exact ⟨o, kept b o hb q⟩,
      fun b xs q => by rw [upd_ne (at_ne e q exo_tup), upd_ne (ne_of_none q free)]; exact q,
      fun b o v q => by rw [upd_ne (at_ne e q exo_frz), upd_ne (ne_of_none q free)]; exact q,
      fun b ps q => ⟨#[], by rw [upd_ne (at_ne e q exo_tbl), upd_ne (ne_of_none q free), q]; simp⟩⟩
  refine h dx _ free other (I.un (t' := tk') un fun b o q => ?_)
  by_cases hb : b = a
  · subst hb
    rw [upd_same] at q
    cases q
    exact exo_ok now
  · rw [upd_ne hb] at q
    by_cases hbd : b = dx
    · subst hbd
      rw [upd_same] at q
      cases q
      exact exd_ok named (relO_put (fs := []) ry fun g => True.intro)
    · rw [upd_ne hbd] at q
      refine (I.hok b o q).stay (fun c v hc z => kept c v ?_ z) (fun c hc => ?_) fun c xs hc => ?_
      · rcases hc with rfl | hc
        · exact hb
        · exact at_ne e hc exo_own
      · rw [upd_ne (at_ne e hc exo_own), upd_ne (ne_of_none hc free)]; exact hc
      · rw [upd_ne (at_ne e hc exo_tup), upd_ne (ne_of_none hc free)]; exact hc
end
/-- self.f = e in an exception's __init__ -/
def tStore1 (K : PySem.W.Frag) (f : Str) (to te : TE) : TS := fun D σ H => te σ H fun y H1 => to σ H1 fun x H2 => ∃ (a C : Addr), x = .ref a ∧ (∃ (B newId initId : String) (tail : List Value), EC K C B newId initId tail) ∧ PySem.W.takerIn K C f = some none ∧
  H2 a = some (exo a C none) ∧ ∀ dx, H2 dx = none → dx ≠ a → D.nx σ (upd (upd H2 dx (exd dx [(f, y)])) a (exo a C (some dx)))
theorem ps_store1 {X : Cx} {o e : Expr} {to te : TE} {f : Str} {p pos : Pos} (ho : PE X o to) (he : PE X e te) (hs : swapsWith e (some (.Attribute o f p)) pos.line X.env = pure false := by rfl) : PS X (.Assign [.Attribute o f p] e pos) (tStore1 X.K f to te) := by
  refine ⟨fun pins s σ H D I h => plainObj_wpAny_Assign_Attribute (thn (he.run pins s σ H _ I h) fun v s1 ⟨y, H1, I1, r1, q1⟩ => thn (ho.run pins s1 σ H1 _ I1 q1) fun u s2 ⟨x, H2, I2, r2, told⟩ => ?_) hs⟩
  obtain ⟨a, C, ex, ⟨B, newId, initId, tail, T⟩, ht, ea, q⟩ := told
  subst ex
  have eu : u = Value.ref a := r2
  subst eu
  exact store1 T I2 ea ht r1 fun dx s' n ne J => ⟨σ, _, J, q dx n ne⟩
end Lamp
set_option Elab.async false
set_option linter.all false
set_option maxRecDepth 100000
set_option maxHeartbeats 4000000
namespace Lamp
open PySem PySem.Spec PyProof.Rows L2
/-- the promise of an __init__ that keeps its one argument under f -/
def spInit (K : PySem.W.Frag) (C : Addr) (f : Str) : Sp := fun vs H Q _ => ∃ (a : Addr) (y : V), vs = [.ref a, y] ∧ (∃ (B newId initId : String) (tail : List Value), EC K C B newId initId tail) ∧ PySem.W.takerIn K C f = some none ∧ H a = some (exo a C none) ∧
  ∀ dx, H dx = none → dx ≠ a → Q .non (upd (upd H dx (exd dx [(f, y)])) a (exo a C (some dx)))
section
variable {P : Program} {w : World} {K : PySem.W.Frag} {mg : Str → Option Value} {base : Heap}
theorem ok_init {fI C : Addr} {fd : FuncData} {st : Stmt} {qual f : Str} {p1 p2 p3 p4 : Pos} (F : Fun K "__init__" qual st fI fd) (S : FnScope ["self", f] ["self", f] (defScope st))
    (hb : defBody st = [.Assign [.Attribute (.Name "self" p1) f p2] (.Name f p3) p4]) (v0 : (defScope st).names.lookup ("self" : Str) = some NameKind.local) (v1 : (defScope st).names.lookup f = some NameKind.local)
    (d1 : (f == ("__debug__" : Str)) = false) (d2 : (f == ("__classdict__" : Str)) = false) : FnOk P w K mg base CX0 1 fI fd ["self", f] (spInit K C f) := by
  refine F.ok S (fun vs H Q E h => ?_) (fun cdv A outer s H vs Q E hr h => ?_)
  · obtain ⟨a, y, rfl, _⟩ := h
    rfl
  · obtain ⟨a, y, rfl, T, ht, ha, q⟩ := h
    rw [hb]
    refine ⟨_, pss_one (ps_store1 (pv 0 rfl (Or.inl v0)) (pv 1 rfl (Or.inl v1) d1 d2)), ?_⟩
    exact ⟨_, rfl, _, rfl, a, C, rfl, T, ht, ha, q⟩
end
/-- C(e), C(f=e): a new exception with the field f -/
def tMkE (C : Addr) (f : Str) (ta : TE) : TE := fun σ H Q => ta σ H fun y H1 => ∀ a dx, H1 a = none → H1 dx = none → dx ≠ a → Q (.ref a) (upd (upd (upd H1 a (exo a C none)) dx (exd dx [(f, y)])) a (exo a C (some dx)))
section
variable {X : Cx} {C fI : Addr} {fd : FuncData} {f x : Str} {B newId initId : String} {tail : List Value} {p pos kpos : Pos} {e : Expr} {ta : TE}
theorem run_mkE {pins : List (Addr × Obj)} {σ : L2.St} {H : Hp} {s : Shared} {Q : VK} {u : Value} {y : V} {us : List Value} {kw : List (Str × Value)} {k : Nat} (T : EC X.K C B newId initId tail) (iC : PySem.W.findIn X.K (.ref C) "__init__" = some (some (.ref fI))) (tI : PySem.W.typeIn X.K (.ref fI) = some (.type "function"))
    (ht : PySem.W.takerIn X.K C f = some none) (F1 : FnOk X.prog X.w X.K X.mg X.base CX0 k fI fd ["self", f] (spInit X.K C f)) (hr : Room (k + 1) X.A)
    (hb : ∀ (s : Shared) (v : Value), X.K.In s.heap → BindsTo s fd ⟨v :: us, kw⟩ [("self", v), (f, u)]) (I : Inv X pins σ H s) (r : RelV y u) (short : us.length ≤ sizeLine)
    (h : ∀ a dx, H a = none → H dx = none → dx ≠ a → Q (.ref a) (upd (upd (upd H a (exo a C none)) dx (exd dx [(f, y)])) a (exo a C (some dx)))) :
    wpAny (model X.prog X.w) X.A (call (.ref C) us kw) (EP X pins σ Q) X.xe s := by
  obtain ⟨nm, N, qn, bs, bm, hdct, sn, sub, ab, col, dd, k0, k1, k2, k3, k5, hC, hT⟩ := PySem.W.excInit_of I.kIn T.made
  obtain ⟨hp, g, dr, tk, os⟩ := s
  have above : hp.objs.size ≤ hp.objs.size + 1 := Nat.le_succ _
  have new : H (hp.objs.size + 1) = none := I.hok.fresh above
  have kept : ∀ b o, hp.get? b = some o → ((hp.push (PySem.W.kdv_tup us)).push (PySem.HandSPX.excO C hp.objs.size)).get? b = some o := fun b o e => Heap.get?_push_of_some _ (Heap.get?_push_of_some _ e)
  have there : ((hp.push (PySem.W.kdv_tup us)).push (PySem.HandSPX.excO C hp.objs.size)).get? (hp.objs.size + 1) = some (PySem.HandSPX.excO C hp.objs.size) := by heap_get
  have I2 : Inv X pins σ (upd H (hp.objs.size + 1) (exo (hp.objs.size + 1) C none)) ⟨(hp.push (PySem.W.kdv_tup us)).push (PySem.HandSPX.excO C hp.objs.size), g, dr, tk, os⟩ :=
    I.laid (t' := tk) (a := hp.objs.size + 1) (o := exo (hp.objs.size + 1) C none) (h' := (hp.push (PySem.W.kdv_tup us)).push (PySem.HandSPX.excO C hp.objs.size)) kept above (exo_ok there)
  have asked : spInit X.K C f [.ref (hp.objs.size + 1), y] (upd H (hp.objs.size + 1) (exo (hp.objs.size + 1) C none)) (fun v H2 => v = .non ∧ Q (.ref (hp.objs.size + 1)) H2) E0 :=
    ⟨_, y, rfl, ⟨B, newId, initId, tail, T⟩, ht, upd_same, fun dx hn ne => ⟨rfl, h _ dx new (by rw [upd_ne ne] at hn; exact hn) ne⟩⟩
  refine wpAny_call (PySem.LampX.excCalled T.F hT hC (PySem.W.looks_findIn I.kIn iC) (fun self => PySem.W.bind_fn I.kIn self tI) short
    (codeAny_mono (F1.run _ X.stack _ _ ⟨Value.ref (hp.objs.size + 1) :: us, kw⟩ [Value.ref (hp.objs.size + 1), u] _ _ E0 ?rm ?ev (hb _ _ I2.kIn) (.cons (show RelV (V.ref _) (Value.ref _) from rfl) (.cons r .nil)) asked) fun res s' told => ?_))
  case rm => exact hr.make C us kw
  case ev => exact I2.env0.make C us kw
  match res, told with
  | .error _, told => exact False.elim told
  | .ok .next, told => exact False.elim told
  | .ok .brk, told => exact False.elim told
  | .ok .cont, told => exact False.elim told
  | .ok (.ret v), told =>
    obtain ⟨z, H', I3, rv, ez, q3⟩ := I2.after told
    subst ez
    exact ⟨rv, ⟨V.ref (hp.objs.size + 1), H', I3, rfl, q3⟩⟩
theorem pe_mkE {k : Nat} (T : EC X.K C B newId initId tail) (iC : PySem.W.findIn X.K (.ref C) "__init__" = some (some (.ref fI))) (tI : PySem.W.typeIn X.K (.ref fI) = some (.type "function")) (ht : PySem.W.takerIn X.K C f = some none)
    (F1 : FnOk X.prog X.w X.K X.mg X.base CX0 k fI fd ["self", f] (spInit X.K C f)) (hr : Room (k + 1) X.A) (hb : ∀ (s : Shared) (v u : Value), X.K.In s.heap → BindsTo s fd ⟨[v, u], []⟩ [("self", v), (f, u)]) (hg : Gl X x) (hm : X.mg x = some (.ref C))
    (ha : PE X e ta) (hs : starEach [e] X.env = (false, eval e X.env) :: starEach [] X.env := by rfl) (hdb : (x == ("__debug__" : Str)) = false := by decide) : PE X (.Call (.Name x p) [e] [] pos) (tMkE C f ta) := by
  refine ⟨fun pins s σ H Q I h => wpAny_Call_Name_kw (ld_glob I hg hm (PySem.W.callWith_K (h₀ := X.base) I.ok.mod.kin T.kp ?_ hs (by rfl)) hdb)⟩
  rw [hs]
  show wpAny _ _ (spliced ((false, eval e X.env) :: backTo pos (starEach [] X.env))) _ _ s
  refine Calls.spliced_cons (thn (ha.run pins s σ H _ I h) fun u s1 ⟨y, H1, I1, r1, q1⟩ => Calls.spliced_nil ⟨I1.kIn, ?_⟩)
  exact run_mkE (us := [u]) (kw := []) T iC tI ht F1 hr (fun s v hk => hb s v u hk) I1 r1 (by show 1 ≤ sizeLine; decide) q1
/-- the same with keywords: their values, one -/
def tMkK (C : Addr) (f : Str) (tk : TA) : TE := fun σ H Q => tk σ H fun zs H1 => ∃ y, zs = [y] ∧ ∀ a dx, H1 a = none → H1 dx = none → dx ≠ a → Q (.ref a) (upd (upd (upd H1 a (exo a C none)) dx (exd dx [(f, y)])) a (exo a C (some dx)))
theorem pe_mkK {k : Nat} {kws : List Keyword} {tk : TA} (T : EC X.K C B newId initId tail) (iC : PySem.W.findIn X.K (.ref C) "__init__" = some (some (.ref fI))) (tI : PySem.W.typeIn X.K (.ref fI) = some (.type "function")) (ht : PySem.W.takerIn X.K C f = some none)
    (F1 : FnOk X.prog X.w X.K X.mg X.base CX0 k fI fd ["self", f] (spInit X.K C f)) (hr : Room (k + 1) X.A) (hb : ∀ (s : Shared) (v u : Value), X.K.In s.heap → BindsTo s fd ⟨[v], [(f, u)]⟩ [("self", v), (f, u)]) (hg : Gl X x) (hm : X.mg x = some (.ref C))
    (hkw : PK X kws tk) (hall : (backToKw pos (keywordEach kws X.env)).all (·.1.isSome) = true := by rfl) (hks : (backToKw pos (keywordEach kws X.env)).filterMap (·.1) = [f] := by rfl) (hdb : (x == ("__debug__" : Str)) = false := by decide)
    (hpl : ((backTo pos (starEach [] X.env)).any (·.1) || (backToKw pos (keywordEach kws X.env)).any (·.1.isNone)) = false := by rfl) : PE X (.Call (.Name x p) [] kws pos) (tMkK C f tk) := by
  refine ⟨fun pins s σ H Q I h => ?_⟩
  refine wpAny_Call_Name_kw (ld_glob I hg hm ?_ hdb)
  refine PySem.W.callWith_KW0 (h₀ := X.base) I.ok.mod.kin T.kp hall (thn (hkw.run pos pins s σ H _ I h) fun ws s2 told => ?_) hpl
  obtain ⟨zs, H2, I2, rz, y, ez, q2⟩ := told
  subst ez
  rw [hks]
  cases rz with
  | @cons _ u _ us r rest =>
    cases rest
    exact ⟨I2.kIn, run_mkE (us := []) (kw := [(f, u)]) T iC tI ht F1 hr (fun s v hk => hb s v u hk) I2 r (Nat.zero_le _) q2⟩
end
/-- C() where the program gives no __init__: a new exception -/
theorem pe_mk0 {X : Cx} {C : Addr} {x : Str} {B newId initId : String} {tail : List Value} {p pos : Pos} (F : ExcBaseFacts B newId initId tail) (q : PySem.W.excIn X.K C tail newId = true) (gC : X.mg x = some (.ref C)) (kC : PySem.W.keepIn X.K (.ref C) = true) (hg : Gl X x)
    (hdb : (x == ("__debug__" : Str)) = false := by decide) : PE X (.Call (.Name x p) [] [] pos) (fun _ H Q => ∀ a, H a = none → Q (.ref a) (upd H a (exo a C none))) := by
  refine ⟨fun pins s σ H Q I h => wpAny_Call_Name_kw (ld_glob I hg gC (PySem.W.callWith_K0 I.kIn kC ?_) hdb)⟩
  show wpAny _ _ (call (.ref C) []) _ _ _
  obtain ⟨bm, N, nm, qn, bs, hdct, sn, sub, ab, col, dd, k0, k1, k2, k3, k5, mN, hC, hN, hni, T⟩ := exc_obj I.kIn q
  obtain ⟨hp, g, dr, tk, os⟩ := s
  refine wpAny_call_exc_subT F T hC hN hni (fun h' a hm => ?_) (by show 0 ≤ sizeLine; exact Nat.zero_le _)
  have new : H a = none := I.hok.gone hm.new
  obtain ⟨t, there, _, _⟩ := hm.there
  exact ⟨.ref a, upd H a (exo a C none), I.laidN (t' := tk) hm.keeps hm.new new (exo_ok there), rfl, h a new⟩
end Lamp
set_option Elab.async false
set_option linter.all false
set_option maxRecDepth 100000
set_option maxHeartbeats 1000000
namespace Lamp
open PySem PySem.Spec PyProof.Rows L2
/-- an exception of the class at C stands at a -/
def XAt (H : Hp) (a C : Addr) : Prop := H a = some (exo a C none) ∨ ∃ dx fs, H a = some (exo a C (some dx)) ∧ H dx = some (exd dx fs)
/-- .. with its fields -/
def XFld (H : Hp) (a C : Addr) (f : Str) (y : V) : Prop := ∃ dx, H a = some (exo a C (some dx)) ∧ H dx = some (exd dx [(f, y)])
theorem XFld.at {H : Hp} {a C : Addr} {f : Str} {y : V} (h : XFld H a C f y) : XAt H a C := by
  obtain ⟨dx, h1, h2⟩ := h
  exact .inr ⟨dx, _, h1, h2⟩
theorem XFld.same {H H' : Hp} {a C : Addr} {f : Str} {y : V} (h : XFld H a C f y) (s : Same H H') : XFld H' a C f y := by
  obtain ⟨dx, h1, h2⟩ := h
  exact ⟨dx, s _ _ h1, s _ _ h2⟩
theorem XAt.same {H H' : Hp} {a C : Addr} (h : XAt H a C) (s : Same H H') : XAt H' a C := by
  rcases h with h | ⟨dx, fs, h1, h2⟩
  · exact .inl (s _ _ h)
  · exact .inr ⟨dx, fs, s _ _ h1, s _ _ h2⟩
theorem xat_inst {X : Cx} {pins : List (Addr × Obj)} {σ : L2.St} {H : Hp} {s : Shared} {a C : Addr} (I : Inv X pins σ H s) (h : XAt H a C) : ∃ ox od, PySem.W.InstAt s.heap a ox C od := by
  rcases h with h | ⟨dx, fs, h1, h2⟩
  · obtain ⟨t, there⟩ := exo_at I.hok h
    exact ⟨_, none, there, rfl, rfl, trivial⟩
  · obtain ⟨t, there⟩ := exo_at I.hok h1
    obtain ⟨mA, ⟨o, _, _, ho, _⟩, _⟩ := exd_at I.hok h2
    exact ⟨_, some o, there, rfl, rfl, ho⟩
/-- what is asked of object's own __class__ -/
structure ClsG (K : PySem.W.Frag) : Prop where
  get : PySem.W.specialIn K (.builtin "object.__class__") "__get__" = some (some (.builtin "getset_descriptor.__get__"))
  tak : PySem.W.takesIn K (.builtin "object.__class__") = some true
/-- isinstance(e, c), e an exception of the program -/
def rIsX (K : PySem.W.Frag) : List V → Hp → VK → Prop := fun xs H Q => ∃ (a C : Addr) (c : V) (u : Value) (b : Bool), xs = [.ref a, c] ∧ XAt H a C ∧ (∃ (B newId initId : String) (tail : List Value), EC K C B newId initId tail) ∧ ClsV c u ∧ PySem.W.kitOne K (.ref C) u = some b ∧ Q (.bl b) H
theorem call_isX {X : Cx} (G : ClsG X.K) : CallR X (.builtin "isinstance") (rIsX X.K) := by
  intro pins s σ H xs us Q I r h
  obtain ⟨a, C, c, cv, b, rfl, hx, ⟨B, newId, initId, tail, T⟩, hc, hk, q⟩ := h
  obtain ⟨u1, u2, rfl, r1, r2⟩ := vals2 r
  have e1 : u1 = Value.ref a := r1
  subst e1
  have e2 := hc.eq r2
  subst e2
  obtain ⟨ox, od, J⟩ := xat_inst I hx
  have isCls : (PySem.W.clsIn X.K C).isSome = true := by
    obtain ⟨cd, hcd, _⟩ := PySem.W.any_some T.hd
    rw [hcd]
    rfl
  exact PySem.W.kia_one (PySem.W.kitx_exc isCls T.ga T.gg T.exC T.cls G.get G.tak T.obj) I.kIn J hk (fun z => nomatch z) fun tk => ⟨.bl b, H, I.tok tk, rfl, q⟩
/-- e.f -/
def tXFld (K : PySem.W.Frag) (f : Str) (te : TE) : TE := fun σ H Q => te σ H fun x H1 => ∃ (a C : Addr) (y : V), x = .ref a ∧ XFld H1 a C f y ∧ (∃ (B newId initId : String) (tail : List Value), EC K C B newId initId tail) ∧ PySem.W.findIn K (.ref C) f = some none ∧ Q y H1
theorem pe_xfld {X : Cx} {e : Expr} {te : TE} {pos : Pos} {f : Str} (he : PE X e te) (hb : attributeBase e f X.env (eval e X.env) = eval e X.env := by rfl) : PE X (.Attribute e f pos) (tXFld X.K f te) := by
  refine ⟨fun pins s σ H Q I h => attr_of hb (thn (he.run pins s σ H _ I h) fun u s1 ⟨x, H1, I1, r1, told⟩ => ?_)⟩
  obtain ⟨a, C, y, ex, ⟨dx, h1, h2⟩, ⟨B, newId, initId, tail, T⟩, hno, q⟩ := told
  subst ex
  have eu : u = Value.ref a := r1
  subst eu
  obtain ⟨t, there⟩ := exo_at I1.hok h1
  obtain ⟨mA, named, rel⟩ := exd_at I1.hok h2
  obtain ⟨od, hod, look⟩ := lookIn_ns named
  have rf := rel f
  rw [lookup_put, if_pos rfl] at rf
  obtain ⟨v, hv, rv⟩ := RelO.some_of (v := y) (o := mA f) rf
  have J : PySem.W.InstAt s1.heap a _ C (some od) := ⟨there, rfl, rfl, hod⟩
  exact HandSPX.exc_get I1.kIn J T.ga T.gg T.exC (PySem.W.findObj_own T.hd hno rfl (by rw [look, hv])) (handed_of rv) ⟨y, H1, I1.tok _, rv, q⟩
end Lamp
set_option Elab.async false
set_option linter.all false
set_option maxRecDepth 100000
set_option maxHeartbeats 1000000
namespace Lamp
open PySem PySem.Spec PyProof.Rows L2
theorem same_of {q : Addr} {H : Hp} {o : HO} (h : H q = none) : Same H (upd H q o) := fun b u e => by rw [upd_ne (ne_of_none e h)]; exact e
theorem same_seqT {K : PySem.W.Frag} {H H' : Hp} {a : Addr} {xs : List V} (e : Same H H') (h : SqT K H a xs) : SqT K H' a xs := by
  rcases h with (h | ⟨o, h⟩) | h
  · exact .inl (.inl (e _ _ h))
  · exact .inl (.inr ⟨o, e _ _ h⟩)
  · exact .inr h
mutual
theorem dp_same {K : PySem.W.Frag} {H H' : Hp} (e : Same H H') : ∀ (d : PyData) (v : V), Dp K H v d → Dp K H' v d
  | .none, _, h => by cases h; exact .non
  | .bool _, _, h => by cases h; exact .bl _
  | .int _, _, h => by cases h; exact .int _
  | .str _, _, h => by cases h; exact .str _
  | .list ds, _, h => by
    cases h with
    | lst hs ha => exact .lst (e.seq hs) (dpAll_same e ds _ ha)
  | .tuple ds, _, h => by
    cases h with
    | tup hs ha => exact .tup (same_seqT e hs) (dpAll_same e ds _ ha)
  | .dict _, _, h => by cases h
theorem dpAll_same {K : PySem.W.Frag} {H H' : Hp} (e : Same H H') : ∀ (ds : List PyData) (vs : List V), DpAll K H vs ds → DpAll K H' vs ds
  | [], _, h => by cases h; exact .nil
  | d :: ds, _, h => by
    cases h with
    | cons h1 h2 => exact .cons (dp_same e d _ h1) (dpAll_same e ds _ h2)
end
theorem dq_same {K : PySem.W.Frag} {H H' : Hp} (e : Same H H') {d : PyData} {v : V} (h : Dq K H v d) : Dq K H' v d := by
  cases h with
  | plain h => exact .plain (dp_same e d v h)
  | dict h1 h2 => exact .dict (e _ _ h1) h2
theorem dpAll_len {K : PySem.W.Frag} {H : Hp} : ∀ {ds : List PyData} {vs : List V}, DpAll K H vs ds → vs.length = ds.length
  | [], _, h => by cases h; rfl
  | d :: ds, _, h => by
    cases h with
    | cons h1 h2 => rw [List.length_cons, List.length_cons, dpAll_len h2]
/-! the drawing list, and all else -/
/-- at p: the drawing list of a case -/
def Pail (H : Hp) (p : Addr) : Prop := ∃ x y z : Int, H p = some (.lst [.int x, .int y, .int z]) ∧ 0 ≤ x ∧ 0 ≤ y ∧ y < 2147483648
/-- all but p stands as it stood -/
def But (p : Addr) (H H' : Hp) : Prop := ∀ b o, b ≠ p → H b = some o → H' b = some o
theorem But.refl (p : Addr) (H : Hp) : But p H H := fun _ _ _ h => h
theorem But.trans {p : Addr} {H H1 H2 : Hp} (a : But p H H1) (b : But p H1 H2) : But p H H2 := fun c o n h => b c o n (a c o n h)
theorem But.of {p : Addr} {H H1 : Hp} (a : Same H H1) : But p H H1 := fun b o _ h => a b o h
theorem But.at {p : Addr} {H : Hp} {o : HO} : But p H (upd H p o) := fun b u n h => by rw [upd_ne n]; exact h
theorem But.new {p q : Addr} {H : Hp} {o : HO} (h : H q = none) : But p H (upd H q o) := fun b u _ e => by
  rw [upd_ne (ne_of_none e h)]
  exact e
theorem Pail.same {H H' : Hp} {p : Addr} (h : Pail H p) (s : Same H H') : Pail H' p := by
  obtain ⟨x, y, z, e, r⟩ := h
  exact ⟨x, y, z, s _ _ e, r⟩
theorem Pail.ne {H : Hp} {p q : Addr} (h : Pail H p) (e : H q = none) : q ≠ p := by
  obtain ⟨x, y, z, hp, _⟩ := h
  intro z
  rw [z, hp] at e
  cases e
theorem But.del {p : Addr} {H H' : Hp} (b : But p H H') : Same (delH H p) (delH H' p) := fun a o h => by
  by_cases e : a = p
  · rw [e, delH_same] at h; cases h
  · rw [delH_ne e] at h ⊢
    exact b a o e h
theorem del_sub {p : Addr} {H : Hp} : Same (delH H p) H := fun a o h => by
  by_cases e : a = p
  · rw [e, delH_same] at h; cases h
  · rw [delH_ne e] at h
    exact h
/-! data made, beside the drawing list at p -/
section
variable (K : PySem.W.Frag) (p : Addr)
def EvP (te : TE) (d : PyData) : Prop := ∀ (σ : L2.St) (H : Hp), Pail H p → ∀ Q : VK, (∀ v H', Same H H' → Dp K (delH H' p) v d → Q v H') → te σ H Q
def EvPs (ta : TA) (ds : List PyData) : Prop := ∀ (σ : L2.St) (H : Hp), Pail H p → ∀ Q : List V → Hp → Prop, (∀ vs H', Same H H' → DpAll K (delH H' p) vs ds → Q vs H') → ta σ H Q
def EvQ (te : TE) (d : PyData) : Prop := ∀ (σ : L2.St) (H : Hp), Pail H p → ∀ Q : VK, (∀ v H', Same H H' → Dq K (delH H' p) v d → Q v H') → te σ H Q
def EvQs (ta : TA) (ds : List PyData) : Prop := ∀ (σ : L2.St) (H : Hp), Pail H p → ∀ Q : List V → Hp → Prop, (∀ vs H', Same H H' → Paired (Dq K (delH H' p)) vs ds → Q vs H') → ta σ H Q
end
section
variable {K : PySem.W.Frag} {p : Addr} {te : TE} {ta : TA} {d : PyData} {ds : List PyData}
theorem evp_non : EvP K p (tC .non) .none := fun σ H _ Q q => q _ H (Same.refl H) .non
theorem evp_bl {b : Bool} : EvP K p (tC (.bl b)) (.bool b) := fun σ H _ Q q => q _ H (Same.refl H) (.bl b)
theorem evp_int {i : Int} : EvP K p (tC (.int i)) (.int i) := fun σ H _ Q q => q _ H (Same.refl H) (.int i)
theorem evp_str {x : Str} : EvP K p (tC (.str x)) (.str x) := fun σ H _ Q q => q _ H (Same.refl H) (.str x)
theorem evp_neg {i : Int} (h : EvP K p te (.int i)) : EvP K p (tUn (rU fun i => .int (-i)) te) (.int (-i)) := fun σ H hp Q q => h σ H hp _ fun v H' s hd => by
  cases hd
  exact ⟨i, rfl, q _ H' s (.int _)⟩
theorem evp_pow {i j : Int} (hc : CPow i j) : EvP K p (tOp (rI CPow fun i j => .int (i ^ j.toNat)) (tC (.int i)) (tC (.int j))) (.int (i ^ j.toNat)) := fun σ H hp Q q => ⟨i, j, rfl, rfl, hc, q _ H (Same.refl H) (.int _)⟩
theorem evps_nil : EvPs K p tNil [] := fun σ H _ Q q => q _ H (Same.refl H) .nil
theorem evps_cons (h1 : EvP K p te d) (h2 : EvPs K p ta ds) : EvPs K p (tCons te ta) (d :: ds) := fun σ H hp Q q => h1 σ H hp _ fun v H1 s1 d1 => h2 σ H1 (hp.same s1) _ fun vs H2 s2 d2 =>
  q _ H2 (s1.trans s2) (.cons (dp_same (But.of s2).del d v d1) d2)
theorem evp_tup (h : EvPs K p ta ds) (hl : ds.length ≤ 100) : EvP K p (tTup ta) (.tuple ds) := fun σ H hp Q q => h σ H hp _ fun vs H1 s1 d1 => by
  have hlen := dpAll_len d1
  refine ⟨Nat.le_of_lt (small1000 (by omega)), fun r hr => ?_⟩
  have ne := (hp.same s1).ne hr
  have s2 : Same H1 (upd H1 r (.tup vs)) := same_of hr
  exact q _ _ (s1.trans s2) (.tup (.inl (.inl (by rw [delH_ne ne, upd_same]))) (dpAll_same (But.of s2).del ds vs d1))
theorem evp_lst (h : EvPs K p ta ds) (hl : ds.length ≤ 100) : EvP K p (tLst ta) (.list ds) := fun σ H hp Q q => h σ H hp _ fun vs H1 s1 d1 => by
  have hlen := dpAll_len d1
  refine ⟨Nat.le_of_lt (small1000 (by omega)), fun r hr => ?_⟩
  have ne := (hp.same s1).ne hr
  have s2 : Same H1 (upd H1 r (.lst vs)) := same_of hr
  exact q _ _ (s1.trans s2) (.lst (.inl (.inl (by rw [delH_ne ne, upd_same]))) (dpAll_same (But.of s2).del ds vs d1))
theorem evq_of (h : EvP K p te d) : EvQ K p te d := fun σ H hp Q q => h σ H hp Q fun v H' s hd => q v H' s (.plain hd)
theorem evq_d0 : EvQ K p tDNewK (.dict []) := fun σ H hp Q q r hr => q _ _ (same_of hr) (.dict (kvs := []) (by rw [delH_ne (hp.ne hr), upd_same]) rfl)
theorem evq_d1 {k : Str} {i : Int} : EvQ K p (tDisp [(tC (.str k), tC (.int i))]) (.dict [(.str k, .int i)]) := fun σ H hp Q q r hr => by
  refine ⟨upd_same, [(Sum.inr k, V.int i)], rfl, (by show 1 ≤ 15; decide), q _ _ (fun b o e => ?_) (.dict (kvs := [(Sum.inr k, V.int i)]) ?_ rfl)⟩
  · rw [upd_ne (ne_of_none e hr), upd_ne (ne_of_none e hr)]; exact e
  · rw [delH_ne (hp.ne hr), upd_same]
    rfl
theorem evqs_nil : EvQs K p tNil [] := fun σ H _ Q q => q _ H (Same.refl H) .nil
theorem paired_same {H H' : Hp} (e : Same H H') {vs : List V} {ds : List PyData} (h : Paired (Dq K H) vs ds) : Paired (Dq K H') vs ds := L2.Paired.mapP h fun _ _ x => dq_same e x
theorem evqs_cons (h1 : EvQ K p te d) (h2 : EvQs K p ta ds) : EvQs K p (tCons te ta) (d :: ds) := fun σ H hp Q q => h1 σ H hp _ fun v H1 s1 d1 => h2 σ H1 (hp.same s1) _ fun vs H2 s2 d2 =>
  q _ H2 (s1.trans s2) (.cons (dq_same (But.of s2).del d1) d2)
theorem paired_app {α β : Type} {R : α → β → Prop} : ∀ {xs ys : List α} {us ws : List β}, Paired R xs us → Paired R ys ws → Paired R (xs ++ ys) (us ++ ws)
  | _, _, _, _, .nil, s => s
  | _, _, _, _, .cons r t, s => .cons r (paired_app t s)
theorem paired_mem {α β : Type} {R : α → β → Prop} : ∀ {xs : List α} {us : List β} {x : α}, Paired R xs us → x ∈ xs → ∃ u, u ∈ us ∧ R x u
  | _, _, _, .nil, h => by cases h
  | _, _, _, .cons r t, h => by
    rcases List.mem_cons.mp h with e | e
    · subst e; exact ⟨_, List.mem_cons_self .., r⟩
    · obtain ⟨u, h1, h2⟩ := paired_mem t e
      exact ⟨u, List.mem_cons_of_mem _ h1, h2⟩
end
/-- what repr shows of it fits -/
def okD (d : PyData) : Bool := d.showable && decide (d.depth ≤ 60) && decide (d.shown.length ≤ sizeLine)
theorem okD_of {d : PyData} (h : okD d = true) : d.showable = true ∧ d.depth ≤ 60 ∧ d.shown.length ≤ sizeLine := by
  unfold okD at h
  simp only [Bool.and_eq_true, decide_eq_true_eq] at h
  exact ⟨h.1.1, h.1.2, h.2⟩
end Lamp
set_option Elab.async false
set_option linter.all false
set_option maxRecDepth 100000
namespace Lamp
open PySem PySem.Spec PyProof.Rows L2
def top (i : Nat) : Stmt := PySem.Challenge.pw_lamprounds_k02_rounds_judged.main.body.getD i (.Pass ⟨0, 0, 0, 0⟩)
abbrev sBegun : Stmt := top 24
abbrev sCast : Stmt := top 25
abbrev sAny : Stmt := top 26

def spBegun (K : PySem.W.Frag) : Sp := fun vs H Q _ => ∃ (a : Addr) (ns : List Int) (t : Int), vs = [.ref a, .int t] ∧ SqL K H a (ns.map V.int) ∧ ns.length ≤ 63 ∧ (∀ z ∈ ns, Builtin.Int.intBits z ≤ 1048576) ∧ 0 ≤ t ∧ t ≤ 100 ∧
  ∀ H' p, Same H H' → H p = none → Pail H' p → Q (.ref p) H'
def spCast : Sp := fun vs H Q _ => ∃ (p : Addr) (m : Int), vs = [.ref p, .int m] ∧ 0 < m ∧ m < 1073741824 ∧ Pail H p ∧ ∀ (r : Int) H', 0 ≤ r → r < m → Pail H' p → But p H H' → Q (.int r) H'

theorem ints_at {ns : List Int} {i : Nat} {y : V} (h : (ns.map V.int)[i]? = some y) : ∃ z, ns[i]? = some z ∧ y = .int z := by
  rw [List.getElem?_map] at h
  cases e : ns[i]? with
  | none => rw [e] at h; cases h
  | some z => rw [e] at h; exact ⟨z, rfl, (Option.some.inj h).symm⟩

theorem cut_ints (ns : List Int) (lo hi : Option Int) : ∃ ms : List Int, cutV (ns.map V.int) lo hi = ms.map V.int := by
  unfold cutV
  exact ⟨_, by rw [← List.map_drop, ← List.map_take]⟩
/-! reading a term without allocation -/
section
variable {σ : L2.St} {H : Hp} {K : PySem.W.Frag} {ta tb : TE} {i j : Int} {x y z : V}
theorem lv_I0 {g : Int → Int → V} : ∀ Q : VK, Q (g i j) H → rI0 g (.int i) (.int j) H Q := fun _ q => ⟨i, j, rfl, rfl, q⟩
theorem lv_I {C : Int → Int → Prop} {g : Int → Int → V} (h : C i j) : ∀ Q : VK, Q (g i j) H → rI C g (.int i) (.int j) H Q := fun _ q => ⟨i, j, rfl, rfl, h, q⟩
theorem lv_ix {p : Addr} {xs : List V} (h : H p = some (.lst xs)) (e : atI xs i = some z) : ∀ Q : VK, Q z H → rIxL K (.ref p) (.int i) H Q := fun _ q => ⟨p, xs, i, z, rfl, rfl, SqL.of h, e, q⟩
theorem lv_int (h : Val ta σ H (.int i)) : Val (tCB (fun xs H Q => (∃ i, xs = [.int i] ∧ Q (.int i) H) ∨ ∃ k, xs = [.bl k] ∧ Q (.int (if k then 1 else 0)) H) (tCons ta tNil)) σ H (.int i) := fun Q q => h _ (Or.inl ⟨i, rfl, q⟩)
theorem lv_ixS {p : Addr} {xs : List V} (h : SqL K H p xs) (e : atI xs i = some z) : ∀ Q : VK, Q z H → rIxL K (.ref p) (.int i) H Q := fun _ q => ⟨p, xs, i, z, rfl, rfl, h, e, q⟩
theorem lv_if {t : TT} {b : Bool} (h : Ans t σ H b) (h1 : b = true → Val ta σ H x) (h2 : b = false → Val tb σ H x) : Val (tIf t ta tb) σ H x := by
  intro Q q
  refine h _ ?_
  cases b with
  | true => exact h1 rfl Q q
  | false => exact h2 rfl Q q
theorem lv_len {p : Addr} {ys : List V} (h : Val ta σ H (.ref p)) (hs : SqL K H p ys) : Val (tCB (fun xs H Q => ∃ p ys, xs = [.ref p] ∧ (SqL K H p ys ∨ SqT K H p ys) ∧ Q (.int ys.length) H) (tCons ta tNil)) σ H (.int ys.length) :=
  fun Q q => h _ ⟨p, ys, rfl, .inl hs, q⟩
theorem lv_abs (h : Val ta σ H (.int i)) : Val (tCB (fun xs H Q => ∃ i, xs = [.int i] ∧ Q (.int (if i < 0 then -i else i)) H) (tCons ta tNil)) σ H (.int (if i < 0 then -i else i)) := fun Q q => h _ ⟨i, rfl, q⟩
theorem lv_lst3 {tc : TE} {D : Ends} (h1 : Val ta σ H x) (h2 : Val tb σ H y) (h3 : Val tc σ H z) (q : ∀ p, H p = none → D.rt (.ref p) (upd H p (.lst [x, y, z]))) : tRet (tLst (tCons ta (tCons tb (tCons tc tNil)))) D σ H :=
  h1 _ (h2 _ (h3 _ ⟨by show 3 ≤ sizeLine; decide, q⟩))
theorem lv_op1 {r : R2} (ha : Val ta σ H x) (hb : Val tb σ H y) (hr : ∀ Q : VK, Q z H → r x y H Q) : Val (tOp r ta tb) σ H z := val_op ha hb hr
end
section
variable {σ : L2.St} {H : Hp} {D : Ends} {te ta tb : TE} {t1 t2 t3 : TS} {c : TT} {v : V} {i : Nat}
theorem sq_no (h : Ans c σ H false) (q : t2 D σ H) : tSeq (tIfS c t1 tNext) t2 D σ H := st_seq (st_no h q)
theorem sq_yes (h : Ans c σ H true) (q : t1 { D with nx := t2 D } σ H) : tSeq (tIfS c t1 t3) t2 D σ H := st_seq (st_yes h q)
theorem sq_set (h : Val te σ H v) (q : t2 D (σ.set i (some v)) H) : tSeq (tAsg te (gName i)) t2 D σ H := st_seq (st_set h q)
theorem sq_setL {p : Addr} {xs : List V} {k : Int} {j : Nat} (h : Val te σ H v) (ha : Val ta σ H (.ref p)) (hb : Val tb σ H (.int k)) (hp : H p = some (.lst xs)) (hj : ixN xs.length k = some j)
    (q : t2 D σ (upd H p (.lst (xs.set j v)))) : tSeq (tAsg te (gSub ta tb rSetL)) t2 D σ H := h _ (ha _ (hb _ ⟨p, xs, k, j, rfl, rfl, hp, hj, q⟩))
theorem sq_for {K : PySem.W.Frag} {g : TG} (P : Addr → Hp → Prop) (h : ∀ Q : VK, (∀ a H1, P a H1 → Q (.ref a) H1) → te σ H Q)
    (k : ∀ a H1, P a H1 → ∃ (xs : List V) (Pv : Nat → L2.St → Hp → Prop), SqL K H1 a xs ∧ Pv 0 σ H1 ∧ (∀ i σ H, i ≤ xs.length → Pv i σ H → SqL K H a xs) ∧ (∀ i x σ H, xs[i]? = some x → Pv i σ H → g x σ H fun σ2 H2 => t1 { D with nx := Pv (i + 1), ct := Pv (i + 1), bk := t2 D } σ2 H2) ∧ ∀ σ H, Pv xs.length σ H → t2 D σ H) :
    tSeq (tFor (iList K te) g t1) t2 D σ H := h _ fun a H1 p => by
  obtain ⟨xs, Pv, h1, h2, h3, h4, h5⟩ := k a H1 p
  exact ⟨a, rfl, ⟨xs, h1⟩, for_list (D := { D with nx := t2 D }) Pv h2 h3 h4 h5⟩
theorem an_gt {x y : Int} {b : Bool} (ha : Val ta σ H (.int x)) (hb : Val tb σ H (.int y)) (e : decide (y < x) = b) : Ans (tTest (tOp (rI0 fun i j => .bl (decide (j < i))) ta tb)) σ H b :=
  ans_cmp ha hb fun Q q => ⟨x, y, rfl, rfl, (show Q (.bl (decide (y < x))) H by rw [e]; exact q)⟩
theorem an_lt {x y : Int} {b : Bool} (ha : Val ta σ H (.int x)) (hb : Val tb σ H (.int y)) (e : decide (x < y) = b) : Ans (tTest (tOp (rI0 fun i j => .bl (decide (i < j))) ta tb)) σ H b :=
  ans_cmp ha hb fun Q q => ⟨x, y, rfl, rfl, (show Q (.bl (decide (x < y))) H by rw [e]; exact q)⟩
theorem an_ge {x y : Int} {b : Bool} (ha : Val ta σ H (.int x)) (hb : Val tb σ H (.int y)) (e : decide (y ≤ x) = b) : Ans (tTest (tOp (rI0 fun i j => .bl (decide (j ≤ i))) ta tb)) σ H b :=
  ans_cmp ha hb fun Q q => ⟨x, y, rfl, rfl, (show Q (.bl (decide (y ≤ x))) H by rw [e]; exact q)⟩
end
theorem mulR {i j : Int} (h : j < 2 ^ 64 ∧ -(2 ^ 64) < j) : CMul i j := .inr ⟨h.2, h.1⟩
theorem mulL {i j : Int} (h : i < 2 ^ 64 ∧ -(2 ^ 64) < i) : CMul i j := .inl ⟨h.2, h.1⟩
local macro_rules | `(tactic| walk_at "lv") => `(tactic| first
  | exact val_var rfl
  | exact val_c
  | (refine' lv_int ?ha; (case ha => walk_at "lv"))
  | (refine' lv_op1 ?ha ?hb ?hr; (case ha => walk_at "lv"); (case hb => walk_at "lv"); (case hr => first | exact fun _ q => ⟨_, _, rfl, rfl, q⟩ | (refine' lv_ix ?hh ?ee; (case hh => assumption); (case ee => rfl)) | exact fun _ q => ⟨_, _, rfl, rfl, mulR ⟨by decide, by decide⟩, q⟩ | exact fun _ q => ⟨_, _, rfl, rfl, mulL ⟨by decide, by decide⟩, q⟩ | exact fun _ q => ⟨_, _, rfl, rfl, (show CDiv _ _ from ⟨by omega, by omega⟩), q⟩ | exact fun _ q => ⟨_, _, rfl, rfl, mulL (by omega), q⟩ | exact fun _ q => ⟨_, _, rfl, rfl, mulR (by omega), q⟩ | exact fun _ q => ⟨_, _, rfl, rfl, (show (0 : Int) < _ by omega), q⟩)))
section
variable {P : Program} {w : World} {K : PySem.W.Frag} {mg : Str → Option Value} {base : Heap}
theorem pyl {x m : Int} (h0 : 0 < m) (h1 : m < 1073741824) : Builtin.divisionGoesByPylong x m = false := by
  have hl : m.natAbs.log2 < 30 := PySem.Flt.log2_lt_of (by decide) (by omega)
  have hm : ¬ ((if (m == 0) = true then 0 else m.natAbs.log2 / 30 + 1) > 300) := by
    split
    · decide
    · omega
  show (decide ((if (m == 0) = true then 0 else m.natAbs.log2 / 30 + 1) > 300) && _) = false
  rw [decide_eq_false hm, Bool.false_and]
theorem scBegun : FnScope ["_law_script", "_law_turn", "_law_own", "_law_state", "_law_cell"] ["_law_script", "_law_turn"] (defScope sBegun) := ⟨rfl, rfl, rfl, by decide +kernel, rfl, by decide +kernel, by decide +kernel⟩
theorem scCast : FnScope ["_law_pail", "_law_many", "_law_figure", "_law_state"] ["_law_pail", "_law_many"] (defScope sCast) := ⟨rfl, rfl, rfl, by decide +kernel, rfl, by decide +kernel, by decide +kernel⟩

theorem ok_cast {f : Addr} {fd : FuncData} {k : Nat} (F : Fun K "_law_cast" "_law_cast" sCast f fd) (mi : mg "int" = none) (md : mg "divmod" = none) : FnOk P w K mg base CX0 (k + 1) f fd ["_law_pail", "_law_many"] spCast := by
  refine F.ok scCast (fun vs H Q E h => ?_) (fun cdv A outer s H vs Q E hr h => ?_)
  · obtain ⟨p, m, rfl, _⟩ := h
    rfl
  · obtain ⟨p, m, rfl, h0, h1, ⟨x, y, z, hp, hx, hy, hy2⟩, q⟩ := h
    refine ⟨_, pss_cons (ps_if (pt_cmpR op_gt (pe_ix ix_list (pv 0) pe_int (fun _ _ => rfl)) pe_int (nomark _))
        (pss_cons (ps_asg (pe_callB call_divmodW (by rfl) md (by decide +kernel) (pa_cons (pe_ix ix_list (pv 0) pe_int (fun _ _ => rfl)) (pa_cons (pv 1) pa_nil)))
            (pg_tup rfl (pgs_cons (pg_sub (pv 0) pe_int set_list) (pgs_cons (pg_name (i := 2) scCast.nd rfl (.inl rfl)) pgs_nil))))
          (pss_one (ps_ret (pv 2)))) pss_nil)
      (pss_cons (ps_asg (pe_op op_add (pe_ix ix_list (pv 0) pe_int (fun _ _ => rfl)) pe_int) (pg_sub (pv 0) pe_int set_list))
      (pss_cons (ps_set (i := 3) scCast.nd rfl (.inl rfl) (pe_op op_mod (pe_callTy call_int1 (by rfl) mi (by decide +kernel) (pa_cons (pe_op op_add (pe_op op_add (pe_op op_mul (pe_ix ix_list (pv 0) pe_int (fun _ _ => rfl)) (pe_op op_add pe_int (pe_op op_mul pe_int (pe_ix ix_list (pv 0) pe_int (fun _ _ => rfl))))) (pe_op op_mul pe_int (pe_ix ix_list (pv 0) pe_int (fun _ _ => rfl)))) pe_int) pa_nil)) pe_int))
      (pss_cons (ps_asg (pe_op op_mod (pe_callTy call_int1 (by rfl) mi (by decide +kernel) (pa_cons (pe_op op_add (pe_op op_add (pe_op op_mul (pv 3) pe_int) (pe_op op_mul pe_int (pe_ix ix_list (pv 0) pe_int (fun _ _ => rfl)))) pe_int) pa_nil)) pe_int) (pg_sub (pv 0) pe_int set_list))
      (pss_one (ps_ret (pe_op op_mod (pe_callTy call_int1 (by rfl) mi (by decide +kernel) (pa_cons (pe_op op_fdiv (pe_ix ix_list (pv 0) pe_int (fun _ _ => rfl)) pe_int) pa_nil)) (pv 1))))))), ?_⟩
    by_cases hx0 : 0 < x
    · refine sq_yes (an_gt (x := x) (by walk_at "lv") val_c (decide_eq_true hx0)) ?_
      refine ⟨.ref p, rfl, p, _, 0, .int x, rfl, rfl, SqL.of hp, rfl, _, rfl, x, m, rfl, ⟨h0, pyl h0 h1⟩, fun t nt => ?_⟩
      have ntp : p ≠ t := ne_of_none hp nt
      refine ⟨t, _, rfl, SqT.of upd_same, rfl, _, _, rfl, ?_⟩
      refine ⟨.ref p, rfl, p, [.int x, .int y, .int z], 0, 0, rfl, rfl, (by rw [upd_ne ntp]; exact hp), rfl, ?_⟩
      refine ⟨_, _, rfl, rfl, ?_⟩
      refine ⟨_, rfl, ?_⟩
      refine q _ _ (Int.emod_nonneg _ (by omega)) (Int.emod_lt_of_pos _ h0) ⟨_, _, _, upd_same, Int.ediv_nonneg hx (by omega), hy, hy2⟩ ?_
      exact (But.new nt).trans But.at
    · refine sq_no (an_gt (x := x) (by walk_at "lv") val_c (decide_eq_false hx0)) ?_
      refine sq_setL (by walk_at "lv") (val_var rfl) val_c hp rfl ?_
      have hp1 : (upd H p (.lst [.int x, .int y, .int (z + 1)])) p = some (.lst [.int x, .int y, .int (z + 1)]) := upd_same
      refine sq_set (by walk_at "lv") ?_
      obtain ⟨Y, hY⟩ : ∃ Y : Int, ((y * (36809 + 2 * (z + 1)) + 5303 * (z + 1) + 7) % 2147483629 * 45413 + 3 * (z + 1) + 1) % 2147483587 = Y := ⟨_, rfl⟩
      refine sq_setL (v := .int Y) (j := 1) ?hv (val_var rfl) val_c hp1 rfl ?_
      case hv =>
        rw [← hY]
        walk_at "lv"
      have hY0 : 0 ≤ Y := by rw [← hY]; exact Int.emod_nonneg _ (by decide)
      have hY1 : Y < 2147483587 := by rw [← hY]; exact Int.emod_lt_of_pos _ (by decide)
      have hp2 : (upd (upd H p (.lst [.int x, .int y, .int (z + 1)])) p (.lst [.int x, .int Y, .int (z + 1)])) p = some (.lst [.int x, .int Y, .int (z + 1)]) := upd_same
      refine st_ret (v := .int (Y / 256 % m)) ?_ ?_
      · walk_at "lv"
      · exact q _ _ (Int.emod_nonneg _ (by omega)) (Int.emod_lt_of_pos _ h0) ⟨_, _, _, upd_same, hx, hY0, by omega⟩ (But.at.trans But.at)
theorem ok_begun {f : Addr} {fd : FuncData} {k : Nat} (F : Fun K "_law_begun" "_law_begun" sBegun f fd) (mi : mg "int" = none) (ml : mg "len" = none) (ma : mg "abs" = none) : FnOk P w K mg base CX0 (k + 1) f fd ["_law_script", "_law_turn"] (spBegun K) := by
  refine F.ok scBegun (fun vs H Q E h => ?_) (fun cdv A outer s H vs Q E hr h => ?_)
  · obtain ⟨a, ns, t, rfl, _⟩ := h
    rfl
  · obtain ⟨a, ns, t, rfl, hS, hlen, hbits, ht0, ht1, q⟩ := h
    refine ⟨_, pss_cons (ps_set (i := 2) scBegun.nd rfl (.inl rfl) (pe_ifExp (pt_cmpR op_lt (pv 1) (pe_callB call_len_seq (by rfl) ml PySem.boot_len (pa_cons (pv 0) pa_nil)) (nomark _)) (pe_ix ix_list (pv 0) (pv 1) (fun _ _ => rfl)) pe_int))
      (pss_cons (ps_set (i := 3) scBegun.nd rfl (.inl rfl) (pe_op op_add pe_int (pe_op op_mul pe_int (pv 1))))
      (pss_cons (ps_for PassesOwn.never rfl (pi_list (pe_slice sl_list (pv 0) po_none (po_some pe_int))) (pg_name (i := 4) scBegun.nd rfl (.inl rfl))
        (pss_one (ps_set (i := 3) scBegun.nd rfl (.inl rfl) (pe_op op_mod (pe_callTy call_int1 (by rfl) mi (by decide +kernel) (pa_cons (pe_op op_add (pe_op op_add (pe_op op_mul (pv 3) pe_int) (pe_op op_mul (pv 4) pe_int)) pe_int) pa_nil)) pe_int))))
      (pss_one (ps_ret (pe_lst (pa_cons (pe_ifExp (PW.pt (pw_or (pt_cmpR op_lt (pv 2) pe_int (nomark _)) (pw_or1 (pt_cmpR op_ge (pv 2) (pe_op op_pow pe_int pe_int) (nomark _))))) (pe_callB call_abs (by rfl) ma (by decide +kernel) (pa_cons (pv 2) pa_nil)) pe_int)
        (pa_cons (pe_op op_mod (pe_callTy call_int1 (by rfl) mi (by decide +kernel) (pa_cons (pe_op op_add (pe_op op_add (pe_op op_mul (pv 3) pe_int) (pe_op op_mulX (pv 2) (pv 2))) (pe_op op_mul pe_int (pv 1))) pa_nil)) pe_int)
          (pa_cons pe_int pa_nil)))))))), ?_⟩
    -- own
    have hown : ∃ own : Int, Builtin.Int.intBits own ≤ 1048576 ∧ ∀ hlt : Bool, decide (t < (ns.length : Int)) = hlt → (hlt = true → atI (ns.map V.int) t = some (.int own)) ∧ (hlt = false → own = 0) := by
      by_cases hl : t < (ns.length : Int)
      · have hj : t.toNat < ns.length := by omega
        refine ⟨ns[t.toNat], hbits _ (List.getElem_mem hj), fun b hb => ⟨fun _ => ?_, fun e => ?_⟩⟩
        · exact L2.at_of (j := t.toNat) (by omega) (by rw [List.getElem?_map, List.getElem?_eq_getElem hj]; rfl)
        · rw [decide_eq_true hl] at hb
          rw [e] at hb
          cases hb
      · refine ⟨0, by decide, fun b hb => ⟨fun e => ?_, fun _ => rfl⟩⟩
        rw [decide_eq_false hl] at hb
        rw [e] at hb
        cases hb
    obtain ⟨own, hob, how⟩ := hown
    obtain ⟨b, hb⟩ : ∃ b, decide (t < (ns.length : Int)) = b := ⟨_, rfl⟩
    have how := how b hb
    refine sq_set (v := .int own) (lv_if (b := b) (an_lt (val_var rfl) (lv_len (val_var rfl) hS) (by rw [List.length_map]; exact hb)) (fun e => val_op (val_var rfl) (val_var rfl) (lv_ixS hS (how.1 e))) (fun e => by rw [how.2 e]; exact val_c)) ?_
    refine sq_set (by walk_at "lv") ?_
    -- the loop
    refine sq_for (fun c H1 => H c = none ∧ H1 = upd H c (.lst (cutV (ns.map V.int) none (some 6)))) (fun Q q => ⟨.ref a, rfl, 6, rfl, a, ns.map V.int, rfl, hS, fun c nc => q c _ ⟨nc, rfl⟩⟩) ?_
    rintro c H1 ⟨nc, rfl⟩
    obtain ⟨ms, hms⟩ := cut_ints ns none (some 6)
    have sm : Same H (upd H c (.lst (cutV (ns.map V.int) none (some 6)))) := fun b o e => by rw [upd_ne (ne_of_none e nc)]; exact e
    rw [hms] at sm ⊢
    refine ⟨ms.map V.int, fun i σ H' => ∃ (st : Int) (v4 : Option V), σ = [some (.ref a), some (.int t), some (.int own), some (.int st), v4] ∧ 0 ≤ st ∧ st < 2147483648 ∧ H' = upd H c (.lst (ms.map V.int)), SqL.of upd_same,
      ⟨60013 + 7727 * t, none, rfl, by omega, by omega, rfl⟩, (fun i σ H' _ ⟨_, _, _, _, _, e⟩ => by rw [e]; exact SqL.of upd_same), ?_, ?_⟩
    · rintro i y σ H' hi ⟨st, v4, rfl, hs0, hs1, rfl⟩
      obtain ⟨z, hz, rfl⟩ := ints_at hi
      show tAsg _ _ _ _ _
      refine st_set (v := .int ((st * 30269 + z * 7 + 13) % 2147483629)) (by walk_at "lv") ?_
      exact ⟨_, _, rfl, Int.emod_nonneg _ (by decide), Int.lt_of_lt_of_le (Int.emod_lt_of_pos _ (by decide)) (by decide), rfl⟩
    · rintro σ H' ⟨st, v4, rfl, hs0, hs1, rfl⟩
      have hX : ∃ X : Int, 0 ≤ X ∧ ((own < 0 ∧ X = -own) ∨ (¬ own < 0 ∧ (10 : Int) ^ 18 ≤ own ∧ X = own) ∨ (¬ own < 0 ∧ ¬ (10 : Int) ^ 18 ≤ own ∧ X = 0)) := by
        by_cases h1 : own < 0
        · exact ⟨-own, by omega, .inl ⟨h1, rfl⟩⟩
        · by_cases h2 : (10 : Int) ^ 18 ≤ own
          · exact ⟨own, by omega, .inr (.inl ⟨h1, h2, rfl⟩)⟩
          · exact ⟨0, by omega, .inr (.inr ⟨h1, h2, rfl⟩)⟩
      obtain ⟨X, hX0, hX⟩ := hX
      refine lv_lst3 (x := .int X) (y := .int ((st * 53 + own * own + 17 * t) % 2147483629)) (z := .int 0) ?_ ?_ val_c ?_
      · rcases hX with ⟨h1, e⟩ | ⟨h1, h2, e⟩ | ⟨h1, h2, e⟩
        · refine lv_if (b := true) (ans_or1 (an_lt (val_var rfl) val_c (decide_eq_true h1))) (fun _ => ?_) (fun z => Bool.noConfusion z)
          have e2 : (if own < 0 then -own else own) = X := by rw [if_pos h1, e]
          rw [← e2]
          exact lv_abs (val_var rfl)
        · refine lv_if (b := true) (ans_or (an_lt (val_var rfl) val_c (decide_eq_false h1)) (an_ge (y := 10 ^ 18) (val_var rfl) ?_ (decide_eq_true h2))) (fun _ => ?_) (fun z => Bool.noConfusion z)
          · exact val_op val_c val_c fun _ q => ⟨_, _, rfl, rfl, ⟨by decide, by decide, by decide⟩, q⟩
          · have e2 : (if own < 0 then -own else own) = X := by rw [if_neg h1, e]
            rw [← e2]
            exact lv_abs (val_var rfl)
        · refine lv_if (b := false) (ans_or (an_lt (val_var rfl) val_c (decide_eq_false h1)) (an_ge (y := 10 ^ 18) (val_var rfl) ?_ (decide_eq_false h2))) (fun z => Bool.noConfusion z) (fun _ => ?_)
          · exact val_op val_c val_c fun _ q => ⟨_, _, rfl, rfl, ⟨by decide, by decide, by decide⟩, q⟩
          · rw [e]
            exact val_c
      · refine val_op (lv_int (val_op (val_op (by walk_at "lv") (val_op (val_var rfl) (val_var rfl) (fun _ q => ⟨_, _, rfl, rfl, (show (Builtin.Int.intBits own : Int) + (Builtin.Int.intBits own : Int) ≤ 134217728 by omega), q⟩)) (fun _ q => ⟨_, _, rfl, rfl, q⟩)) (by walk_at "lv") (fun _ q => ⟨_, _, rfl, rfl, q⟩))) val_c (fun _ q => ⟨_, _, rfl, rfl, (show (0 : Int) < _ by decide), q⟩)
      · intro p np
        refine q _ p (fun b o e => ?_) (sm.free np) ⟨_, _, _, upd_same, hX0, Int.emod_nonneg _ (by decide), Int.lt_of_lt_of_le (Int.emod_lt_of_pos _ (by decide)) (by decide)⟩
        rw [upd_ne (ne_of_none (sm b o e) np)]
        exact sm b o e
end
def spAny : Sp := fun vs H Q _ => ∃ (p l : Addr) (xs : List V), vs = [.ref p, .ref l] ∧ l ≠ p ∧ H l = some (.lst xs) ∧ 0 < xs.length ∧ xs.length < 1000000 ∧ Pail H p ∧ ∀ (v : V) H', v ∈ xs → Pail H' p → But p H H' → Q v H'
section
variable {P : Program} {w : World} {K : PySem.W.Frag} {mg : Str → Option Value} {base : Heap}
theorem scAny : FnScope ["_law_pail", "_law_some_here"] ["_law_pail", "_law_some_here"] (defScope sAny) := ⟨rfl, rfl, rfl, by decide +kernel, rfl, by decide +kernel, by decide +kernel⟩
theorem ok_any {f fC : Addr} {fd fdC : FuncData} {k : Nat} (F : Fun K "_law_any_of" "_law_any_of" sAny f fd) (G : FnOk P w K mg base CX0 k fC fdC ["_law_pail", "_law_many"] spCast) (bC : Binds K fdC ["_law_pail", "_law_many"] []) (mC : mg "_law_cast" = some (.ref fC)) (kC : PySem.W.keepIn K (.ref fC) = true) (ml : mg "len" = none) :
    FnOk P w K mg base CX0 (k + 1) f fd ["_law_pail", "_law_some_here"] spAny := by
  refine F.ok scAny (fun vs H Q E h => ?_) (fun cdv A outer s H vs Q E hr h => ?_)
  · obtain ⟨p, l, xs, rfl, _⟩ := h
    rfl
  · obtain ⟨p, l, xs, rfl, hne, hl, h0, h1, hp, q⟩ := h
    refine ⟨_, pss_one (ps_ret (pe_ix ix_list (pv 1) (pe_call G hr rfl mC kC bC .nil pass0 (pa_cons (pv 0) (pa_cons (pe_callB call_len_seq (by rfl) ml PySem.boot_len (pa_cons (pv 1) pa_nil)) pa_nil))) (fun _ _ => rfl))), ?_⟩
    refine ⟨_, rfl, _, rfl, _, rfl, l, xs, rfl, .inl (SqL.of hl), p, (xs.length : Int), rfl, by omega, by omega, hp, fun r H' r0 r1 hp' bt => ?_⟩
    obtain ⟨j, ej⟩ : ∃ j : Nat, r = (j : Int) := ⟨r.toNat, by omega⟩
    have hj : j < xs.length := by omega
    have hl' : H' l = some (.lst xs) := bt l _ hne hl
    exact ⟨l, xs, r, xs[j], rfl, rfl, SqL.of hl', L2.at_of ej (List.getElem?_eq_getElem hj), q _ _ (List.getElem_mem hj) hp' bt⟩
end
end Lamp
set_option Elab.async false
set_option linter.all false
set_option maxRecDepth 100000
set_option maxHeartbeats 1000000
namespace Lamp
open PySem PySem.Spec PyProof.Rows L2
/-- all that the walk asks of an exception class whose __init__ keeps f -/
structure XC (P : Program) (w : World) (K : PySem.W.Frag) (mg : Str → Option Value) (C : Addr) (x f : Str) : Prop where
  T : ∃ (B newId initId : String) (tail : List Value), EC K C B newId initId tail
  hm : mg x = some (.ref C)
  nf : PySem.W.findIn K (.ref C) f = some none
  made : ∃ (fI : Addr) (fd : FuncData), PySem.W.findIn K (.ref C) "__init__" = some (some (.ref fI)) ∧ PySem.W.typeIn K (.ref fI) = some (.type "function") ∧ PySem.W.takerIn K C f = some none ∧
    (∀ base : Heap, FnOk P w K mg base CX0 1 fI fd ["self", f] (spInit K C f)) ∧ (∀ (s : Shared) (v u : Value), K.In s.heap → BindsTo s fd ⟨[v, u], []⟩ [("self", v), (f, u)]) ∧ (∀ (s : Shared) (v u : Value), K.In s.heap → BindsTo s fd ⟨[v], [(f, u)]⟩ [("self", v), (f, u)])
/-- .. that has no __init__ of the program -/
structure XN (K : PySem.W.Frag) (mg : Str → Option Value) (C : Addr) (x : Str) : Prop where
  T : ∃ (B newId initId : String) (tail : List Value), EC K C B newId initId tail ∧ PySem.W.excIn K C tail newId = true
  hm : mg x = some (.ref C)
section
variable {X : Cx} {C : Addr} {x f : Str} {p pos : Pos} {e : Expr} {ta : TE}
theorem pe_xc (Z : XC X.prog X.w X.K X.mg C x f) (hr : Room 2 X.A) (hg : Gl X x) (ha : PE X e ta) (hs : starEach [e] X.env = (false, eval e X.env) :: starEach [] X.env := by rfl) (hdb : (x == ("__debug__" : Str)) = false := by decide) :
    PE X (.Call (.Name x p) [e] [] pos) (tMkE C f ta) := by
  obtain ⟨fI, fd, h1, h2, h3, h4, h5, _⟩ := Z.made
  obtain ⟨B, newId, initId, tail, T⟩ := Z.T
  exact pe_mkE T h1 h2 h3 (h4 _) hr h5 hg Z.hm ha hs hdb
theorem pe_xk {kws : List Keyword} {tk : TA} (Z : XC X.prog X.w X.K X.mg C x f) (hr : Room 2 X.A) (hg : Gl X x) (hkw : PK X kws tk) (hall : (backToKw pos (keywordEach kws X.env)).all (·.1.isSome) = true := by rfl) (hks : (backToKw pos (keywordEach kws X.env)).filterMap (·.1) = [f] := by rfl)
    (hdb : (x == ("__debug__" : Str)) = false := by decide) (hpl : ((backTo pos (starEach [] X.env)).any (·.1) || (backToKw pos (keywordEach kws X.env)).any (·.1.isNone)) = false := by rfl) : PE X (.Call (.Name x p) [] kws pos) (tMkK C f tk) := by
  obtain ⟨fI, fd, h1, h2, h3, h4, _, h6⟩ := Z.made
  obtain ⟨B, newId, initId, tail, T⟩ := Z.T
  exact pe_mkK T h1 h2 h3 (h4 _) hr h6 hg Z.hm hkw hall hks hdb hpl
/-- C() -/
def tMkN (C : Addr) : TE := fun _ H Q => ∀ a, H a = none → Q (.ref a) (upd H a (exo a C none))
theorem pe_xn (Z : XN X.K X.mg C x) (hg : Gl X x) (hdb : (x == ("__debug__" : Str)) = false := by decide) : PE X (.Call (.Name x p) [] [] pos) (tMkN C) := by
  obtain ⟨B, newId, initId, tail, T, q⟩ := Z.T
  exact pe_mk0 T.F q Z.hm T.kp hg hdb
end
/-! rows of exceptions made -/
/-- a class with the field that its exceptions have -/
abbrev XSpec := Addr × Option Str
def XHas (H : Hp) (y : V) (a : Addr) (s : XSpec) : Prop := match s.2 with
  | some f => XFld H a s.1 f y
  | none => XAt H a s.1
theorem XHas.same {H H' : Hp} {y : V} {a : Addr} {s : XSpec} (h : XHas H y a s) (e : Same H H') : XHas H' y a s := by
  obtain ⟨C, f⟩ := s
  cases f with
  | none => exact XAt.same h e
  | some f => exact XFld.same h e
theorem XHas.at {H : Hp} {y : V} {a : Addr} {s : XSpec} (h : XHas H y a s) : XAt H a s.1 := by
  obtain ⟨C, f⟩ := s
  cases f with
  | none => exact h
  | some f => exact XFld.at h
def EvX (y : V) (te : TE) (σ : L2.St) (s : XSpec) : Prop := ∀ (H : Hp) (Q : VK), (∀ a H', Same H H' → XHas H' y a s → Q (.ref a) H') → te σ H Q
def EvXs (y : V) (ta : TA) (σ : L2.St) (ss : List XSpec) : Prop := ∀ (H : Hp) (Q : List V → Hp → Prop), (∀ (as : List Addr) H', Same H H' → Paired (XHas H' y) as ss → Q (as.map V.ref) H') → ta σ H Q
section
variable {y : V} {te : TE} {ta : TA} {σ : L2.St} {s : XSpec} {ss : List XSpec} {C : Addr} {f : Str}
theorem made_same {H : Hp} {a dx : Addr} (h1 : H a = none) (h2 : H dx = none) (ne : dx ≠ a) : Same H (upd (upd (upd H a (exo a C none)) dx (exd dx [(f, y)])) a (exo a C (some dx))) := fun b o e => by
  rw [upd_ne (ne_of_none e h1), upd_ne (ne_of_none e h2), upd_ne (ne_of_none e h1)]
  exact e
theorem made_has {H : Hp} {a dx : Addr} (ne : dx ≠ a) : XFld (upd (upd (upd H a (exo a C none)) dx (exd dx [(f, y)])) a (exo a C (some dx))) a C f y :=
  ⟨dx, upd_same, by rw [upd_ne ne, upd_same]⟩
theorem evx_e {i : Nat} (h : σ[i]? = some (some y)) : EvX y (tMkE C f (tVar i)) σ (C, some f) := fun H Q q => ⟨y, h, fun a dx h1 h2 ne => q a _ (made_same h1 h2 ne) (made_has ne)⟩
theorem evx_k {i : Nat} (h : σ[i]? = some (some y)) : EvX y (tMkK C f (tCons (tVar i) tNil)) σ (C, some f) := fun H Q q => ⟨y, h, y, rfl, fun a dx h1 h2 ne => q a _ (made_same h1 h2 ne) (made_has ne)⟩
theorem evx_n : EvX y (tMkN C) σ (C, none) := fun H Q q a h => q a _ (same_of h) (.inl upd_same)
theorem evxs_nil : EvXs y tNil σ [] := fun H Q q => q [] H (Same.refl H) .nil
theorem evxs_cons (h1 : EvX y te σ s) (h2 : EvXs y ta σ ss) : EvXs y (tCons te ta) σ (s :: ss) := fun H Q q => h1 H _ fun a H1 s1 x1 => h2 H1 _ fun as H2 s2 x2 => q (a :: as) H2 (s1.trans s2) (.cons (x1.same s2) x2)
theorem xs_same {H H' : Hp} (e : Same H H') {as : List Addr} (h : Paired (XHas H y) as ss) : Paired (XHas H' y) as ss := L2.Paired.mapP h fun _ _ x => x.same e
variable {t2 : TS} {D : Ends} {H : Hp} {i : Nat} {ss0 : List XSpec}
theorem sq_lstX (h : EvXs y ta σ ss) (hl : ss.length ≤ 100) (k : ∀ l (as : List Addr) H', H' l = some (.lst (as.map V.ref)) → Same H H' → Paired (XHas H' y) as ss → t2 D (σ.set i (some (.ref l))) H') : tSeq (tAsg (tLst ta) (gName i)) t2 D σ H :=
  h H _ fun as H1 s1 x1 => by
    have hlen := Paired.length x1
    refine ⟨Nat.le_of_lt (small1000 (by rw [List.length_map]; omega)), fun r hr => ?_⟩
    exact k r as _ upd_same (s1.trans (same_of hr)) (xs_same (same_of hr) x1)
theorem cat_X {as0 : List Addr} {l0 : Addr} {Q : VK} (hx : σ[i]? = some (some (.ref l0))) (h0 : H l0 = some (.lst (as0.map V.ref))) (x0 : Paired (XHas H y) as0 ss0) (h : EvXs y ta σ ss) (hl : ss.length ≤ 100) (hl0 : ss0.length ≤ 100)
    (k : ∀ l (as : List Addr) H', H' l = some (.lst (as.map V.ref)) → Same H H' → Paired (XHas H' y) as (ss0 ++ ss) → Q (.ref l) H') : tOp rCat (tVar i) (tLst ta) σ H Q := by
  refine ⟨_, hx, h H _ fun as H1 s1 x1 => ?_⟩
  have hlen := Paired.length x1
  have hlen0 := Paired.length x0
  refine ⟨Nat.le_of_lt (small1000 (by rw [List.length_map]; omega)), fun r hr => ?_⟩
  have s2 : Same H1 (upd H1 r (.lst (as.map V.ref))) := same_of hr
  refine ⟨l0, r, as0.map V.ref, as.map V.ref, rfl, rfl, s2 _ _ (s1 _ _ h0), upd_same, Nat.le_of_lt (small1000 (by rw [List.length_map, List.length_map]; omega)), fun r2 hr2 => ?_⟩
  have s3 : Same (upd H1 r (.lst (as.map V.ref))) (upd (upd H1 r (.lst (as.map V.ref))) r2 (.lst (as0.map V.ref ++ as.map V.ref))) := same_of hr2
  exact k r2 (as0 ++ as) _ (by rw [List.map_append, upd_same]) ((s1.trans s2).trans s3) (paired_app (xs_same ((s1.trans s2).trans s3) x0) (xs_same (s2.trans s3) x1))
theorem sq_catX {as0 : List Addr} {l0 : Addr} (hx : σ[i]? = some (some (.ref l0))) (h0 : H l0 = some (.lst (as0.map V.ref))) (x0 : Paired (XHas H y) as0 ss0) (h : EvXs y ta σ ss) (hl : ss.length ≤ 100) (hl0 : ss0.length ≤ 100)
    (k : ∀ l (as : List Addr) H', H' l = some (.lst (as.map V.ref)) → Same H H' → Paired (XHas H' y) as (ss0 ++ ss) → t2 D (σ.set i (some (.ref l))) H') : tSeq (tAsg (tOp rCat (tVar i) (tLst ta)) (gName i)) t2 D σ H := cat_X hx h0 x0 h hl hl0 k
theorem st_catX {as0 : List Addr} {l0 : Addr} (hx : σ[i]? = some (some (.ref l0))) (h0 : H l0 = some (.lst (as0.map V.ref))) (x0 : Paired (XHas H y) as0 ss0) (h : EvXs y ta σ ss) (hl : ss.length ≤ 100) (hl0 : ss0.length ≤ 100)
    (k : ∀ l (as : List Addr) H', H' l = some (.lst (as.map V.ref)) → Same H H' → Paired (XHas H' y) as (ss0 ++ ss) → D.rt (.ref l) H') : tRet (tOp rCat (tVar i) (tLst ta)) D σ H := cat_X hx h0 x0 h hl hl0 k
end
end Lamp
set_option Elab.async false
set_option linter.all false
set_option maxRecDepth 100000
set_option maxHeartbeats 1000000
namespace Lamp
open PySem PySem.Spec PyProof.Rows L2
/-! argument lists that make nothing -/
def VA (ta : TA) (σ : L2.St) (H : Hp) (vs : List V) : Prop := ∀ Q : List V → Hp → Prop, Q vs H → ta σ H Q
section
variable {K : PySem.W.Frag} {te : TE} {ta : TA} {σ : L2.St} {H : Hp} {v : V} {vs vs0 : List V} {t2 : TS} {D : Ends} {i : Nat} {l0 : Addr}
theorem va_nil : VA tNil σ H [] := fun Q q => q
theorem va_cons (h1 : Val te σ H v) (h2 : VA ta σ H vs) : VA (tCons te ta) σ H (v :: vs) := fun Q q => h1 _ (h2 _ q)
theorem sq_lstV (h : VA ta σ H vs) (hl : vs.length ≤ 100) (k : ∀ l H', H' l = some (.lst vs) → Same H H' → t2 D (σ.set i (some (.ref l))) H') : tSeq (tAsg (tLst ta) (gName i)) t2 D σ H :=
  h _ ⟨Nat.le_of_lt (small1000 (by omega)), fun r hr => k r _ upd_same (same_of hr)⟩
theorem cat_V {Q : VK} (hx : σ[i]? = some (some (.ref l0))) (h0 : H l0 = some (.lst vs0)) (h : VA ta σ H vs) (hl : vs.length ≤ 100) (hl0 : vs0.length ≤ 100)
    (k : ∀ l H', H' l = some (.lst (vs0 ++ vs)) → Same H H' → Q (.ref l) H') : tOp rCat (tVar i) (tLst ta) σ H Q := by
  refine ⟨_, hx, h _ ⟨Nat.le_of_lt (small1000 (by omega)), fun r hr => ?_⟩⟩
  have s2 : Same H (upd H r (.lst vs)) := same_of hr
  exact ⟨l0, r, vs0, vs, rfl, rfl, s2 _ _ h0, upd_same, Nat.le_of_lt (small1000 (by omega)), fun r2 hr2 => k r2 _ upd_same (s2.trans (same_of hr2))⟩
theorem sq_catV (hx : σ[i]? = some (some (.ref l0))) (h0 : H l0 = some (.lst vs0)) (h : VA ta σ H vs) (hl : vs.length ≤ 100) (hl0 : vs0.length ≤ 100)
    (k : ∀ l H', H' l = some (.lst (vs0 ++ vs)) → Same H H' → t2 D (σ.set i (some (.ref l))) H') : tSeq (tAsg (tOp rCat (tVar i) (tLst ta)) (gName i)) t2 D σ H := cat_V hx h0 h hl hl0 k
theorem st_catV (hx : σ[i]? = some (some (.ref l0))) (h0 : H l0 = some (.lst vs0)) (h : VA ta σ H vs) (hl : vs.length ≤ 100) (hl0 : vs0.length ≤ 100)
    (k : ∀ l H', H' l = some (.lst (vs0 ++ vs)) → Same H H' → D.rt (.ref l) H') : tRet (tOp rCat (tVar i) (tLst ta)) D σ H := cat_V hx h0 h hl hl0 k
theorem v_isX {a C D' : Addr} {b : Bool} (h : σ[i]? = some (some (.ref a))) (hx : XAt H a C) (T : ∃ (B newId initId : String) (tail : List Value), EC K C B newId initId tail) (hk : PySem.W.kitOne K (.ref C) (.ref D') = some b) :
    Val (tCB (rIsX K) (tCons (tVar i) (tCons (tC (.ref D')) tNil))) σ H (.bl b) := fun Q q => ⟨_, h, a, C, _, _, b, rfl, hx, T, .own D', hk, q⟩
theorem v_isT {a C : Addr} {n : String} {b : Bool} (h : σ[i]? = some (some (.ref a))) (hx : XAt H a C) (T : ∃ (B newId initId : String) (tail : List Value), EC K C B newId initId tail) (hk : PySem.W.kitOne K (.ref C) (.type n) = some b) :
    Val (tCB (rIsX K) (tCons (tVar i) (tCons (tC (.ty n)) tNil))) σ H (.bl b) := fun Q q => ⟨_, h, a, C, _, _, b, rfl, hx, T, .ty n, hk, q⟩
end
end Lamp
set_option Elab.async false
set_option linter.all false
set_option maxRecDepth 100000
set_option maxHeartbeats 1000000
namespace Lamp
open PySem PySem.Spec PyProof.Rows L2
abbrev sVast : Stmt := top 27
abbrev sPlace : Stmt := top 30
theorem But.step {p : Addr} {H H1 H2 : Hp} (a : But p H H1) (b : But p H1 H2) : But p H H2 := a.trans b
def spVast : Sp := fun vs H Q _ => ∃ (p : Addr) (m : Int), vs = [.ref p, .int m] ∧ 0 < m ∧ Pail H p ∧ ∀ (r : Int) H', 0 ≤ r → r < m → Pail H' p → But p H H' → Q (.int r) H'
def big : Int := 10 ^ 39
def spPlace : Sp := fun vs H Q _ => ∃ (p : Addr), vs = [.ref p] ∧ Pail H p ∧ ∀ (r : Int) H', -big ≤ r → r ≤ big → Pail H' p → But p H H' → Q (.int r) H'
section
variable {σ : L2.St} {H : Hp} {D : Ends} {t1 t2 : TS} {j : Nat}
theorem sq_forRn {n : Nat} (hn : n ≤ 1000) (Pv : Nat → L2.St → Hp → Prop) (h0 : Pv 0 σ H) (hs : ∀ (i : Nat) (σ' : L2.St) (H' : Hp), i < n → Pv i σ' H' → t1 { D with nx := Pv (i + 1), ct := Pv (i + 1), bk := t2 D } (σ'.set j (some (.int (i : Int)))) H')
    (hd : ∀ σ' H', Pv n σ' H' → t2 D σ' H') {te : TE} (he : Val te σ H (.int (n : Int))) : tSeq (tFor (iRng1 (tCons te tNil)) (gName j) t1) t2 D σ H := by
  refine he _ ⟨(n : Int), rfl, by omega, by omega, ?_⟩
  have e0 : ((n : Int)).toNat = n := by omega
  rw [e0]
  refine for_range (D := { D with nx := t2 D }) (lo := 0) (n := n) Pv h0 (fun i σ' H' hi p => ?_) hd
  have e1 : (0 : Int) + (i : Int) = (i : Int) := Int.zero_add _
  rw [e1]
  exact hs i σ' H' hi p
theorem sq_setR {te : TE} {i : Nat} (R : V → Hp → Prop) (h : ∀ Q : VK, (∀ v H', R v H' → Q v H') → te σ H Q) (k : ∀ v H', R v H' → t2 D (σ.set i (some v)) H') : tSeq (tAsg te (gName i)) t2 D σ H := h _ fun v H' r => k v H' r
theorem st_setR {te : TE} {i : Nat} (R : V → Hp → Prop) (h : ∀ Q : VK, (∀ v H', R v H' → Q v H') → te σ H Q) (k : ∀ v H', R v H' → D.nx (σ.set i (some v)) H') : tAsg te (gName i) D σ H := h _ fun v H' r => k v H' r
end
section
variable {P : Program} {w : World} {K : PySem.W.Frag} {mg : Str → Option Value} {base : Heap}
theorem scVast : FnScope ["_law_pail", "_law_many", "_law_found", "_law_turn"] ["_law_pail", "_law_many"] (defScope sVast) := ⟨rfl, rfl, rfl, by decide +kernel, rfl, by decide +kernel, by decide +kernel⟩
theorem scPlace : FnScope ["_law_pail", "_law_chance"] ["_law_pail"] (defScope sPlace) := ⟨rfl, rfl, rfl, by decide +kernel, rfl, by decide +kernel, by decide +kernel⟩
/-- what is known of the drawing def -/
structure Dr (P : Program) (w : World) (K : PySem.W.Frag) (mg : Str → Option Value) (base : Heap) (sp : Sp) (x : Str) (ps : List Str) (k : Nat) : Prop where
  ex : ∃ (f : Addr) (fd : FuncData), FnOk P w K mg base CX0 k f fd ps sp ∧ Binds K fd ps [] ∧ mg x = some (.ref f) ∧ PySem.W.keepIn K (.ref f) = true
theorem pe_dr {X : Cx} {sp : Sp} {x : Str} {ps : List Str} {k j : Nat} {e : Expr} {es : List Expr} {t : TA} {p pos : Pos} (Z : Dr X.prog X.w X.K X.mg X.base sp x ps k) (hk : k ≤ j) (hr : Room j X.A) (hg : Gl X x) (ha : PA X (e :: es) t) (hdb : (x == ("__debug__" : Str)) = false := by decide)
    (he : starEach (e :: es) X.env = (false, eval e X.env) :: starEach es X.env := by rfl) (hpl : (backTo pos (starEach es X.env)).any (·.1) = false := by rfl) : PE X (.Call (.Name x p) (e :: es) [] pos) (tCallG sp t) := by
  obtain ⟨f, fd, F, b, m, kp⟩ := Z.ex
  have z := pe_call (pos := pos) (p := p) F (hr.mono hk) hg m kp b .nil pass0 ha hdb he hpl
  refine ⟨fun pins s σ H Q I h => z.run pins s σ H Q I ?_⟩
  unfold tCall
  simp only [List.append_nil]
  exact h
theorem ok_vast {f : Addr} {fd : FuncData} (F : Fun K "_law_vast" "_law_vast" sVast f fd) (C : Dr P w K mg base spCast "_law_cast" ["_law_pail", "_law_many"] 1) (mi : mg "int" = none) (mr : mg "range" = none) : FnOk P w K mg base CX0 2 f fd ["_law_pail", "_law_many"] spVast := by
  refine F.ok scVast (fun vs H Q E h => ?_) (fun cdv A outer s H vs Q E hr h => ?_)
  · obtain ⟨p, m, rfl, _⟩ := h
    rfl
  · obtain ⟨p, m, rfl, h0, hp, q⟩ := h
    refine ⟨_, pss_cons (ps_set (i := 2) scVast.nd rfl (.inl rfl) pe_int) (pss_cons (ps_for PassesOwn.never rfl (pi_range1 rfl mr (pa_cons pe_int pa_nil)) (pg_name (i := 3) scVast.nd rfl (.inl rfl))
        (pss_one (ps_set (i := 2) scVast.nd rfl (.inl rfl) (pe_op op_add (pe_op op_mul (pv 2) pe_int) (pe_dr C (Nat.le_refl _) hr rfl (pa_cons (pv 0) (pa_cons pe_int pa_nil)))))))
      (pss_one (ps_ret (pe_op op_mod (pe_callTy call_int1 (by rfl) mi (by decide +kernel) (pa_cons (pv 2) pa_nil)) (pv 1))))), ?_⟩
    refine sq_set (v := .int 0) val_c ?_
    refine sq_forRn (n := 6) (by decide) (fun i σ' H' => ∃ (z : Int) (b : Option V), σ' = [some (.ref p), some (.int m), some (.int z), b] ∧ Pail H' p ∧ But p H H') ⟨0, none, rfl, hp, But.refl p H⟩ ?_ ?_ val_c
    · rintro i σ' H0 hi ⟨z, b, rfl, hp0, bt0⟩
      refine ⟨_, rfl, z, 1000003, rfl, rfl, mulR ⟨by decide, by decide⟩, _, rfl, p, 1000003, rfl, by decide, by decide, hp0, fun r H1 r0 r1 hp1 bt1 => ⟨_, _, rfl, rfl, ?_⟩⟩
      exact ⟨_, _, rfl, hp1, bt0.trans bt1⟩
    · rintro σ' H0 ⟨z, b, rfl, hp0, bt0⟩
      refine st_ret (v := .int (z % m)) (val_op (lv_int (val_var rfl)) (val_var rfl) fun _ q => ⟨_, _, rfl, rfl, h0, q⟩) ?_
      exact q _ _ (Int.emod_nonneg _ (by omega)) (Int.emod_lt_of_pos _ h0) hp0 bt0
theorem ok_place {f : Addr} {fd : FuncData} (F : Fun K "_law_place" "_law_place" sPlace f fd) (C : Dr P w K mg base spCast "_law_cast" ["_law_pail", "_law_many"] 1) (Vt : Dr P w K mg base spVast "_law_vast" ["_law_pail", "_law_many"] 2) : FnOk P w K mg base CX0 3 f fd ["_law_pail"] spPlace := by
  refine F.ok scPlace (fun vs H Q E h => ?_) (fun cdv A outer s H vs Q E hr h => ?_)
  · obtain ⟨p, rfl, _⟩ := h
    rfl
  · obtain ⟨p, rfl, hp, q⟩ := h
    refine ⟨_, pss_cons (ps_set (i := 1) scPlace.nd rfl (.inl rfl) (pe_dr C (by decide) hr rfl (pa_cons (pv 0) (pa_cons pe_int pa_nil))))
      (pss_cons (ps_if (pt_cmpR op_lt (pv 1) pe_int (nomark _)) (pss_one (ps_ret (pe_op op_sub (pe_dr C (by decide) hr rfl (pa_cons (pv 0) (pa_cons pe_int pa_nil))) pe_int))) pss_nil)
      (pss_one (ps_ret (pe_ifExp (pt_cmpR op_eq (pv 1) pe_int (nomark _)) (pe_op op_sub (pe_dr C (by decide) hr rfl (pa_cons (pv 0) (pa_cons pe_int pa_nil))) pe_int)
        (pe_op op_sub (pe_dr Vt (Nat.le_refl _) hr rfl (pa_cons (pv 0) (pa_cons (pe_op op_pow pe_int pe_int) pa_nil))) (pe_op op_pow pe_int pe_int)))))), ?_⟩
    have hbig : big = 1000000000000000000000000000000000000000 := by decide
    refine ⟨_, rfl, p, 8, rfl, by decide, by decide, hp, fun r H1 r0 r1 hp1 bt1 => ?_⟩
    by_cases h6 : r < 6
    · refine sq_yes (an_lt (val_var rfl) val_c (decide_eq_true h6)) ?_
      refine ⟨_, rfl, p, 13, rfl, by decide, by decide, hp1, fun r2 H2 r20 r21 hp2 bt2 => ⟨_, _, rfl, rfl, ?_⟩⟩
      exact q _ _ (by omega) (by omega) hp2 (bt1.trans bt2)
    · refine sq_no (an_lt (val_var rfl) val_c (decide_eq_false h6)) ?_
      by_cases h7 : r = 6
      · subst h7
        refine ⟨_, rfl, rfl, true, rfl, ?_⟩
        refine iteT ?_
        refine ⟨_, rfl, p, 81, rfl, by decide, by decide, hp1, fun r2 H2 r20 r21 hp2 bt2 => ⟨_, _, rfl, rfl, ?_⟩⟩
        exact q _ _ (by omega) (by omega) hp2 (bt1.trans bt2)
      · refine ⟨_, rfl, rfl, false, ?_, ?_⟩
        · show V.bl (decide (V.int r = V.int 6)) = V.bl false
          rw [decide_eq_false (fun z => h7 (V.int.inj z))]
        · refine iteF ?_
          refine ⟨_, rfl, 10, 39, rfl, rfl, ⟨by decide, by decide, by decide⟩, p, _, rfl, ?_, hp1, fun r2 H2 r20 r21 hp2 bt2 => ⟨10, 38, rfl, rfl, ⟨by decide, by decide, by decide⟩, _, _, rfl, rfl, ?_⟩⟩
          · decide
          · have e39 : (10 : Int) ^ (39 : Int).toNat = 1000000000000000000000000000000000000000 := by decide
            have e38 : (10 : Int) ^ (38 : Int).toNat = 100000000000000000000000000000000000000 := by decide
            rw [e39] at r21
            rw [e38]
            exact q _ _ (by omega) (by omega) hp2 (bt1.trans bt2)
end
end Lamp
set_option Elab.async false
set_option linter.all false
set_option maxRecDepth 100000
set_option maxHeartbeats 1000000
namespace Lamp
open PySem PySem.Spec PyProof.Rows L2
abbrev sPicture : Stmt := top 31
abbrev sParts : Stmt := top 32
/-! a chart: places with levels -/
def enc (ps : List (Int × Int)) : List (Key × V) := ps.map fun q => (Sum.inl q.1, V.int q.2)
def putI (ps : List (Int × Int)) (k v : Int) : List (Int × Int) := if ps.any (fun q => decide (q.1 = k)) then ps.map (fun q => if q.1 = k then (q.1, v) else q) else ps ++ [(k, v)]
theorem enc_put (ps : List (Int × Int)) (k v : Int) : putK (enc ps) (Sum.inl k) (V.int v) = enc (putI ps k v) := by
  have e1 : ((enc ps).any fun kv => decide (kv.1 = Sum.inl k)) = ps.any (fun q => decide (q.1 = k)) := by
    unfold enc
    rw [List.any_map]
    congr 1
    funext q
    show decide ((Sum.inl q.1 : Key) = Sum.inl k) = decide (q.1 = k)
    rw [key_ll]
    by_cases h : q.1 = k <;> simp [h]
  unfold putK putI
  rw [e1]
  split
  · unfold enc
    rw [List.map_map, List.map_map]
    congr 1
    funext q
    show (if (Sum.inl q.1 : Key) = Sum.inl k then _ else _) = _
    by_cases h : q.1 = k
    · rw [if_pos (by rw [h])]
      show _ = (Sum.inl (if q.1 = k then (q.1, v) else q).1, V.int (if q.1 = k then (q.1, v) else q).2)
      rw [if_pos h]
    · rw [if_neg (fun z => h (Sum.inl.inj z))]
      show _ = (Sum.inl (if q.1 = k then (q.1, v) else q).1, V.int (if q.1 = k then (q.1, v) else q).2)
      rw [if_neg h]
  · unfold enc
    rw [List.map_append]
    rfl
/-- what holds of a chart: no place twice, levels and places in their bounds -/
structure Chart (p : Int) (ps : List (Int × Int)) : Prop where
  nd : (ps.map (·.1)).Nodup
  lv : ∀ q ∈ ps, 1 ≤ q.2 ∧ q.2 < p
  pl : ∀ q ∈ ps, -big ≤ q.1 ∧ q.1 ≤ big
theorem Chart.put {p : Int} {ps : List (Int × Int)} (C : Chart p ps) {k v : Int} (h1 : 1 ≤ v ∧ v < p) (h2 : -big ≤ k ∧ k ≤ big) : Chart p (putI ps k v) ∧ (putI ps k v).length ≤ ps.length + 1 := by
  unfold putI
  split
  · refine ⟨⟨?_, fun q hq => ?_, fun q hq => ?_⟩, by rw [List.length_map]; omega⟩
    · rw [List.map_map]
      have e : ((fun q : Int × Int => q.1) ∘ fun q => if q.1 = k then (q.1, v) else q) = fun q => q.1 := by
        funext q
        show (if q.1 = k then (q.1, v) else q).1 = q.1
        split <;> rfl
      rw [e]
      exact C.nd
    · obtain ⟨q0, h0, rfl⟩ := List.mem_map.mp hq
      split
      · exact h1
      · exact C.lv q0 h0
    · obtain ⟨q0, h0, rfl⟩ := List.mem_map.mp hq
      split
      · exact C.pl q0 h0
      · exact C.pl q0 h0
  · rename_i hn
    have hk : k ∉ ps.map (·.1) := fun z => by
      obtain ⟨q, hq, e⟩ := List.mem_map.mp z
      exact hn (List.any_eq_true.mpr ⟨q, hq, decide_eq_true e⟩)
    refine ⟨⟨?_, fun q hq => ?_, fun q hq => ?_⟩, by rw [List.length_append]; exact Nat.le_refl _⟩
    · rw [List.map_append]
      exact List.nodup_append.mpr ⟨C.nd, by simp, fun a ha b hb => by simp at hb; subst hb; exact fun e => hk (e ▸ ha)⟩
    · rcases List.mem_append.mp hq with h | h
      · exact C.lv q h
      · simp at h; subst h; exact h1
    · rcases List.mem_append.mp hq with h | h
      · exact C.pl q h
      · simp at h; subst h; exact h2
theorem enc_get : ∀ {ps : List (Int × Int)} {k : Int}, k ∈ ps.map (·.1) → ∃ v, valV (enc ps) (Sum.inl k) = some (V.int v) ∧ (k, v) ∈ ps
  | [], k, h => by simp at h
  | q :: ps, k, h => by
    by_cases e : q.1 = k
    · refine ⟨q.2, ?_, by rw [← e]; exact List.mem_cons_self ..⟩
      exact valV_pos (p := (Sum.inl q.1, V.int q.2)) (by show (Sum.inl q.1 : Key) = Sum.inl k; rw [e])
    · have h' : k ∈ ps.map (·.1) := by
        rcases List.mem_cons.mp h with z | z
        · exact absurd z.symm e
        · exact z
      obtain ⟨v, h1, h2⟩ := enc_get h'
      refine ⟨v, ?_, List.mem_cons_of_mem _ h2⟩
      rw [← h1]
      exact valV_neg (p := (Sum.inl q.1, V.int q.2)) (fun z => e (Sum.inl.inj z))
/-- a picture of p levels: ascending places, levels from 1 to p - 1, few -/
structure IsPic (p : Int) (ls : List (Int × Int)) : Prop where
  asc : (ls.map (·.1)).Pairwise (· < ·)
  lv : ∀ q ∈ ls, 1 ≤ q.2 ∧ q.2 < p
  pl : ∀ q ∈ ls, -big ≤ q.1 ∧ q.1 ≤ big
  few : ls.length ≤ 5
theorem lt_of_le_nodup : ∀ {xs : List Int}, xs.Pairwise (· ≤ ·) → xs.Nodup → xs.Pairwise (· < ·)
  | [], _, _ => .nil
  | x :: xs, h, n => by
    cases h with
    | cons h1 h2 =>
      cases n with
      | cons n1 n2 => exact .cons (fun y hy => by have a := h1 y hy; have b := n1 y hy; omega) (lt_of_le_nodup h2 n2)
/-- at t: a picture's tuple of pairs -/
def PicAt (K : PySem.W.Frag) (H : Hp) (t : Addr) (ls : List (Int × Int)) : Prop := ∃ as : List Addr, H t = some (.tup (as.map V.ref)) ∧ Paired (fun a (q : Int × Int) => H a = some (.tup [.int q.1, .int q.2])) as ls
theorem PicAt.same {K : PySem.W.Frag} {H H' : Hp} {t : Addr} {ls : List (Int × Int)} (h : PicAt K H t ls) (e : Same H H') : PicAt K H' t ls := by
  obtain ⟨as, h1, h2⟩ := h
  exact ⟨as, e _ _ h1, L2.Paired.mapP h2 fun a q z => e _ _ z⟩
def spPicture (K : PySem.W.Frag) : Sp := fun vs H Q _ => ∃ (p : Addr) (lv : Int) (n : Nat), vs = [.ref p, .int lv, .int (n : Int)] ∧ 2 ≤ lv ∧ lv ≤ 7 ∧ n ≤ 5 ∧ Pail H p ∧ ∀ (t : Addr) (ls : List (Int × Int)) H', IsPic lv ls → PicAt K (delH H' p) t ls → H t = none → Pail H' p → But p H H' → Q (.ref t) H'
section
variable {P : Program} {w : World} {K : PySem.W.Frag} {mg : Str → Option Value} {base : Heap}
theorem scPicture : FnScope ["_law_pail", "_law_p", "_law_many", "_law_chart", "_law_k", "_law_at"] ["_law_pail", "_law_p", "_law_many"] (defScope sPicture) := ⟨rfl, rfl, rfl, by decide +kernel, rfl, by decide +kernel, by decide +kernel⟩
theorem ok_picture {f : Addr} {fd : FuncData} (F : Fun K "_law_picture" "_law_picture" sPicture f fd) (C : Dr P w K mg base spCast "_law_cast" ["_law_pail", "_law_many"] 1) (Pl : Dr P w K mg base spPlace "_law_place" ["_law_pail"] 3)
    (mr : mg "range" = none) (mt : mg "tuple" = none) (ms : mg "sorted" = none) (ml : mg "list" = none) : FnOk P w K mg base CX0 4 f fd ["_law_pail", "_law_p", "_law_many"] (spPicture K) := by
  refine F.ok scPicture (fun vs H Q E h => ?_) (fun cdv A outer s H vs Q E hr h => ?_)
  · obtain ⟨p, lv, n, rfl, _⟩ := h
    rfl
  · obtain ⟨p, lv, n, rfl, h2, h7, hn, hp, q⟩ := h
    have hu := hu_of hr
    refine ⟨_, pss_cons (ps_set (i := 3) scPicture.nd rfl (Or.inr rfl) pe_dnewK)
      (pss_cons (ps_for PassesOwn.never rfl (pi_range1 rfl mr (pa_cons (pv 2) pa_nil)) (pg_name (i := 4) scPicture.nd rfl (.inl rfl))
        (pss_one (ps_dput hu (pv 3) (pe_dr Pl (Nat.le_refl _) hr rfl (pa_cons (pv 0) pa_nil)) (pe_op op_add pe_int (pe_dr C (by decide) hr rfl (pa_cons (pv 0) (pa_cons (pe_op op_sub (pv 1) pe_int) pa_nil)))) rfl)))
      (pss_one (ps_ret (pe_callTy call_tuple_of (by rfl) mt (by decide +kernel) (pa_cons (pe_lc (own := [("_law_at", 5)]) (g := gName 5) (tt := tYes) rfl scPicture.nd
          (pi_list (pe_callB cr_sortedI (by rfl) ms (by decide +kernel) (pa_cons (pe_callTy (call_list_dK rfl) (by rfl) ml (by decide +kernel) (pa_cons (pv 3) pa_nil)) pa_nil)))
          (blkOk_by (own := [("_law_at", 5)]) (N := ["_law_pail", "_law_p", "_law_many", "_law_chart", "_law_k", "_law_at"]) (sc := defScope sPicture) (by decide +kernel)) (fun _ _ _ _ _ => pg_name (i := 5) scPicture.nd rfl (Or.inl rfl)) (fun _ _ _ _ _ => pts_nil)
          (fun _ _ _ _ _ => pe_tup (pa_cons (pv 5) (pa_cons (pe_dget hu (pv 3) (pv 5) (fun _ _ => rfl)) pa_nil)))) pa_nil))))), ?_⟩
    refine sq_setR (fun v H' => ∃ c, v = .ref c ∧ H c = none ∧ H' = upd H c (.dK [])) (fun Q' q' c hc => q' _ _ ⟨c, rfl, hc, rfl⟩) ?_
    rintro v H0 ⟨c, rfl, hc, rfl⟩
    have cp : c ≠ p := hp.ne hc
    refine sq_forRn (n := n) (by omega) (fun i σ' H' => ∃ (b : Option V) (ps : List (Int × Int)), σ' = [some (.ref p), some (.int lv), some (.int (n : Int)), some (.ref c), b, none] ∧ Pail H' p ∧ But p H H' ∧ H' c = some (.dK (enc ps)) ∧ Chart lv ps ∧ ps.length ≤ i)
      ⟨none, [], rfl, hp.same (same_of hc), But.new hc, upd_same, ⟨.nil, fun q h => (nomatch h), fun q h => (nomatch h)⟩, Nat.le_refl _⟩ ?_ ?_ (val_var rfl)
    · rintro i σ' H0 hi ⟨b, ps, rfl, hp0, bt0, hc0, hC, hlen⟩
      refine ⟨_, rfl, _, rfl, lv, 1, rfl, rfl, p, lv - 1, rfl, by omega, by omega, hp0, fun r H1 r0 r1 hp1 bt1 => ⟨1, r, rfl, rfl, _, rfl, _, rfl, p, rfl, hp1, fun z H2 z0 z1 hp2 bt2 => ?_⟩⟩
      have hc2 := bt2 _ _ cp (bt1 _ _ cp hc0)
      refine ⟨c, _, rfl, DPut.k (k := Sum.inl z) hc2 ?_, ?_⟩
      · unfold enc
        rw [List.length_map]
        exact small1000 (by omega)
      · obtain ⟨g1, g2⟩ := hC.put (k := z) (v := 1 + r) (by omega) ⟨z0, z1⟩
        refine ⟨_, putI ps z (1 + r), rfl, ?_, fun b' o nb e => ?_, ?_, g1, by omega⟩
        · obtain ⟨x, y, w', hx, hr'⟩ := hp2
          exact ⟨x, y, w', by rw [upd_ne (Ne.symm cp)]; exact hx, hr'⟩
        · rw [upd_ne (ne_of_none e hc)]
          exact bt2 _ _ nb (bt1 _ _ nb (bt0 _ _ nb e))
        · rw [upd_same, enc_put]
    · rintro σ' H0 ⟨b, ps, rfl, hp0, bt0, hc0, hC, hlen⟩
      have keys : (enc ps).map (fun kv => kV kv.1) = (ps.map (·.1)).map V.int := by
        unfold enc
        rw [List.map_map, List.map_map]
        rfl
      obtain ⟨lk, hlk⟩ : ∃ lk : Int → Int, ∀ n, n ∈ ps.map (·.1) → valV (enc ps) (Sum.inl n) = some (V.int (lk n)) ∧ (n, lk n) ∈ ps := by
        classical
        exact ⟨fun n => if h : n ∈ ps.map (·.1) then (enc_get h).choose else 0, fun n h => by
          have e : (if h : n ∈ ps.map (·.1) then (enc_get h).choose else 0) = (enc_get h).choose := dif_pos h
          show valV (enc ps) (Sum.inl n) = some (V.int (if h : n ∈ ps.map (·.1) then (enc_get h).choose else 0)) ∧ (n, (if h : n ∈ ps.map (·.1) then (enc_get h).choose else 0)) ∈ ps
          rw [e]
          exact (enc_get h).choose_spec⟩
      refine ⟨_, rfl, c, enc ps, rfl, hc0, fun l nl => ⟨l, ps.map (·.1), rfl, SqL.of (by rw [upd_same, keys]), fun ns' sr perm asc nsr => ⟨sr, rfl, ⟨_, SqL.of upd_same⟩, fun D hD => ?_⟩⟩⟩
      have r1 : Same H0 (upd H0 l (.lst ((enc ps).map fun kv => kV kv.1))) := same_of nl
      have r2 := same_of (o := .lst (ns'.map V.int)) nsr
      have hsr : (upd (upd H0 l (.lst ((enc ps).map fun kv => kV kv.1))) sr (.lst (ns'.map V.int))) sr = some (.lst (ns'.map V.int)) := upd_same
      have s0b := r1.trans r2
      revert hD hsr s0b
      generalize (upd (upd H0 l (.lst ((enc ps).map fun kv => kV kv.1))) sr (.lst (ns'.map V.int))) = Hb
      intro hD hsr s0b
      refine lc_list (K := K) (a := sr) (xs := ns'.map V.int) (fun i H' => Same Hb H' ∧ ∃ as : List Addr, H' D = some (.lst (as.map V.ref)) ∧ Paired (fun a (qq : Int × Int) => H' a = some (.tup [.int qq.1, .int qq.2]) ∧ a ≠ D) as ((ns'.take i).map fun n => (n, lk n)))
        ⟨same_of hD, [], upd_same, by rw [List.take_zero]; exact .nil⟩ (fun i H' _ z => SqL.of (z.1 _ _ hsr)) (fun i x H' hi z => ?_) (fun H' z => ?_)
      · obtain ⟨sb, as, hlD, hpa⟩ := z
        obtain ⟨n0, hn0, rfl⟩ := ints_at hi
        have hmem : n0 ∈ ps.map (·.1) := (perm.mem_iff).mp (List.mem_of_getElem? hn0)
        obtain ⟨v1, v2⟩ := hlk n0 hmem
        refine ⟨rfl, ?_⟩
        refine ⟨_, rfl, _, rfl, _, rfl, c, V.int (lk n0), rfl, ?_, (by show 2 ≤ sizeLine; decide), fun tp ntp => ?_⟩
        · exact .inl ⟨enc ps, Sum.inl n0, .inl (sb _ _ (s0b _ _ hc0)), rfl, v1.symm⟩
        · have s3 := same_of (o := .tup [V.int n0, V.int (lk n0)]) ntp
          have tD : tp ≠ D := fun e => by rw [e, hlD] at ntp; cases ntp
          refine ⟨as.map V.ref, s3 _ _ hlD, ?_, fun b' o e => ?_, as ++ [tp], ?_, ?_⟩
          · have hl1 := Paired.length hpa
            have hl2 := perm.length_eq
            rw [List.length_map, List.length_take] at hl1
            rw [List.length_map] at hl2 ⊢
            exact small1000 (by omega)
          · have nb : b' ≠ D := fun z => by rw [z, hD] at e; cases e
            rw [upd_ne nb]
            exact s3 _ _ (sb _ _ e)
          · rw [upd_same, List.map_append]
            rfl
          · have hlt := (List.getElem?_eq_some_iff.mp hn0)
            rw [List.take_add_one, hn0, List.map_append]
            refine paired_app (L2.Paired.mapP hpa fun a' qq hz => ?_) (.cons ⟨?_, tD⟩ .nil)
            · exact ⟨by rw [upd_ne hz.2]; exact s3 _ _ hz.1, hz.2⟩
            · rw [upd_ne tD, upd_same]
      · obtain ⟨sb, as, hlD, hpa⟩ := z
        refine ⟨D, _, rfl, .inl ⟨SqL.of hlD, fun t nt => ?_⟩⟩
        have s4 := same_of (o := .tup (as.map V.ref)) nt
        rw [List.length_map, List.take_length] at hpa
        have hpz := ((hp0.same s0b).same sb).same s4
        have tp : t ≠ p := ((hp0.same s0b).same sb).ne nt
        have bt : But p H (upd H' t (.tup (as.map V.ref))) := bt0.trans (But.of ((s0b.trans sb).trans s4))
        have memo : ∀ n, n ∈ ns' → n ∈ ps.map (·.1) := fun n hn => (perm.mem_iff).mp hn
        refine q t (ns'.map fun n => (n, lk n)) _ ⟨?_, fun qq hq => ?_, fun qq hq => ?_, ?_⟩ ⟨as, by rw [delH_ne tp, upd_same], L2.Paired.mapP hpa fun a qq hz => ?_⟩ ?_ hpz bt
        · rw [List.map_map]
          have e : ((fun q : Int × Int => q.1) ∘ fun n => (n, lk n)) = id := rfl
          rw [e, List.map_id]
          exact lt_of_le_nodup asc (perm.nodup_iff.mpr hC.nd)
        · obtain ⟨n, hn, rfl⟩ := List.mem_map.mp hq
          exact hC.lv _ (hlk n (memo n hn)).2
        · obtain ⟨n, hn, rfl⟩ := List.mem_map.mp hq
          exact hC.pl _ (hlk n (memo n hn)).2
        · have hl2 := perm.length_eq
          rw [List.length_map] at hl2 ⊢
          omega
        · have ap : a ≠ p := fun e => by
            obtain ⟨x, y, w', hx, _⟩ := hpz
            have h1 := s4 _ _ hz.1
            rw [e, hx] at h1
            cases h1
          rw [delH_ne ap]
          exact s4 _ _ hz.1
        · cases e : H t with
          | none => rfl
          | some o =>
            have h1 := bt0.trans (But.of (s0b.trans sb)) t o tp e
            rw [nt] at h1
            cases h1
end
end Lamp
set_option Elab.async false
set_option linter.all false
set_option maxRecDepth 100000
set_option maxHeartbeats 1000000
namespace Lamp
open PySem PySem.Spec PyProof.Rows L2
/-- the parts of a round -/
structure Parts where
  lv : Int
  ls : List (Int × Int)
  fin : Int
/-- as they are drawn -/
structure Parts.Ok (r : Parts) : Prop where
  lv : r.lv = 2 ∨ r.lv = 3 ∨ r.lv = 5 ∨ r.lv = 7
  pic : IsPic r.lv r.ls
  lo : -big ≤ r.fin
  hi : r.fin ≤ big
/-- at l: the list of a round's parts, its picture at t -/
def PartsAt (K : PySem.W.Frag) (H : Hp) (l t : Addr) (r : Parts) : Prop := H l = some (.lst [.int r.lv, .ref t, .int r.fin]) ∧ PicAt K H t r.ls
theorem PartsAt.same {K : PySem.W.Frag} {H H' : Hp} {l t : Addr} {r : Parts} (h : PartsAt K H l t r) (e : Same H H') : PartsAt K H' l t r := ⟨e _ _ h.1, h.2.same e⟩
def spParts (K : PySem.W.Frag) : Sp := fun vs H Q _ => ∃ (p : Addr), vs = [.ref p] ∧ Pail H p ∧ ∀ (l t : Addr) (r : Parts) H', r.Ok → PartsAt K (delH H' p) l t r → Pail H' p → But p H H' → Q (.ref l) H'
section
variable {P : Program} {w : World} {K : PySem.W.Frag} {mg : Str → Option Value} {base : Heap}
theorem scParts : FnScope ["_law_pail", "_law_p"] ["_law_pail"] (defScope sParts) := ⟨rfl, rfl, rfl, by decide +kernel, rfl, by decide +kernel, by decide +kernel⟩
theorem ok_parts {f : Addr} {fd : FuncData} (F : Fun K "_law_parts" "_law_parts" sParts f fd) (An : Dr P w K mg base spAny "_law_any_of" ["_law_pail", "_law_some_here"] 2) (Pl : Dr P w K mg base spPlace "_law_place" ["_law_pail"] 3)
    (Pc : Dr P w K mg base (spPicture K) "_law_picture" ["_law_pail", "_law_p", "_law_many"] 4) : FnOk P w K mg base CX0 5 f fd ["_law_pail"] (spParts K) := by
  refine F.ok scParts (fun vs H Q E h => ?_) (fun cdv A outer s H vs Q E hr h => ?_)
  · obtain ⟨p, rfl, _⟩ := h
    rfl
  · obtain ⟨p, rfl, hp, q⟩ := h
    refine ⟨_, pss_cons (ps_set (i := 1) scParts.nd rfl (.inl rfl) (pe_dr An (by decide) hr rfl (pa_cons (pv 0) (pa_cons (pe_lst (pa_cons pe_int (pa_cons pe_int (pa_cons pe_int (pa_cons pe_int pa_nil))))) pa_nil))))
      (pss_one (ps_ret (pe_lst (pa_cons (pv 1) (pa_cons (pe_dr Pc (Nat.le_refl _) hr rfl (pa_cons (pv 0) (pa_cons (pv 1) (pa_cons (pe_dr An (by decide) hr rfl (pa_cons (pv 0) (pa_cons (pe_lst (pa_cons pe_int (pa_cons pe_int (pa_cons pe_int (pa_cons pe_int (pa_cons pe_int pa_nil)))))) pa_nil))) pa_nil))))
        (pa_cons (pe_dr Pl (by decide) hr rfl (pa_cons (pv 0) pa_nil)) pa_nil)))))), ?_⟩
    refine ⟨_, rfl, (by show 4 ≤ sizeLine; decide), fun l1 n1 => ⟨p, l1, _, rfl, hp.ne n1, upd_same, by decide, by decide, hp.same (same_of n1), fun v H1 hv hp1 bt1 => ?_⟩⟩
    have bt1' : But p H H1 := (But.of (same_of n1)).trans bt1
    have hlv : ∃ lv : Int, v = .int lv ∧ (lv = 2 ∨ lv = 3 ∨ lv = 5 ∨ lv = 7) := by
      simp only [List.mem_cons, List.not_mem_nil, or_false] at hv
      rcases hv with rfl | rfl | rfl | rfl
      · exact ⟨2, rfl, .inl rfl⟩
      · exact ⟨3, rfl, .inr (.inl rfl)⟩
      · exact ⟨5, rfl, .inr (.inr (.inl rfl))⟩
      · exact ⟨7, rfl, .inr (.inr (.inr rfl))⟩
    obtain ⟨lv, rfl, hlv⟩ := hlv
    refine ⟨_, rfl, _, rfl, _, rfl, _, rfl, (by show 5 ≤ sizeLine; decide), fun l2 n2 => ⟨p, l2, _, rfl, hp1.ne n2, upd_same, by decide, by decide, hp1.same (same_of n2), fun v2 H2 hv2 hp2 bt2 => ?_⟩⟩
    have bt2' : But p H H2 := bt1'.trans ((But.of (same_of n2)).trans bt2)
    have hn : ∃ n : Nat, v2 = .int (n : Int) ∧ n ≤ 5 := by
      simp only [List.mem_cons, List.not_mem_nil, or_false] at hv2
      rcases hv2 with rfl | rfl | rfl | rfl | rfl
      · exact ⟨0, rfl, by decide⟩
      · exact ⟨1, rfl, by decide⟩
      · exact ⟨2, rfl, by decide⟩
      · exact ⟨3, rfl, by decide⟩
      · exact ⟨5, rfl, by decide⟩
    obtain ⟨n, rfl, hn⟩ := hn
    refine ⟨p, lv, n, rfl, by omega, by omega, hn, hp2, fun t ls H3 pic pat _ hp3 bt3 => ?_⟩
    refine ⟨_, rfl, p, rfl, hp3, fun z H4 z0 z1 hp4 bt4 => ⟨(by show 3 ≤ sizeLine; decide), fun l3 n3 => ?_⟩⟩
    have s3 := same_of (o := .lst [V.int lv, V.ref t, V.int z]) n3
    exact q l3 t ⟨lv, ls, z⟩ _ ⟨hlv, pic, z0, z1⟩ ⟨by rw [delH_ne (hp4.ne n3), upd_same], (pat.same bt4.del).same (But.of s3).del⟩ (hp4.same s3) (bt2'.trans (bt3.trans (bt4.trans (But.of s3))))
end
end Lamp
set_option Elab.async false
set_option linter.all false
set_option maxRecDepth 100000
set_option maxHeartbeats 1000000
namespace Lamp
open PySem PySem.Spec PyProof.Rows L2
/-! exceptions raised, and asked of where they are handled -/
section
variable {X : Cx} {W : WX} {e : Expr} {te : TE} {pos : Pos}
/-- an expression that gives a new exception of the program, as what is raised -/
theorem pmk_xo (noEx : X.ex = []) (he : PE X e te) : PMk X e (fun σ H Q => te σ H fun x H1 => ∃ (a C : Addr) (d : Option Addr), x = .ref a ∧ H1 a = some (exo a C d) ∧ Fr0 X.H_0 a ∧ Raises X (.ref C) ∧ Q (.ref C) d (delH H1 a)) := by
  intro pins s σ H Q I told
  refine wpAny_mono (he.run pins s σ H _ I told) (fun u s1 made => ?_) fun _ _ z => z
  obtain ⟨v, H1, I1, rel, a, C, d, rfl, at_, fr, rs, q⟩ := made
  cases rel
  obtain ⟨t1, there⟩ := exo_at I1.hok at_
  obtain ⟨G, sub, gone, J⟩ := I1.untrack at_ fr noEx
  exact ⟨a, _, _, { s1 with heap := G }, delH H1 a, .ref C, d, rfl, J, sub, gone, there, ⟨rfl, rfl⟩, rfl, rfl, delH_same, rfl, I1.bare, rs, q⟩
theorem raises_ec {C : Addr} {B newId initId : String} {tail : List Value} (T : EC X.K C B newId initId tail) (ty : PySem.W.typeIn X.K (.ref C) = some (.type "type")) : Raises X (.ref C) := raises_own T.exC ty
end
/-! an exception that is handled, at p -/
/-- the exception's class and its dict -/
structure Pinned (p : Addr × Obj) (D dd : Addr) : Prop where
  z : Zc (.ref D) (some dd) p.2
  f : ∃ vs, p.2.data = .fields vs
section
variable {X : Cx} {p : Addr × Obj} {D dd : Addr}
theorem pinned_inst {pins : List (Addr × Obj)} {σ : L2.St} {H : Hp} {s : Shared} {fs : List (Str × V)} (I : Inv X pins σ H s) (hp : p ∈ X.pn) (Z : Pinned p D dd) (hd : H dd = some (exd dd fs)) : ∃ (mA : Str → Option Value) (o : Obj), PySem.W.InstAt s.heap p.1 p.2 D (some o) ∧ s.heap.Ns1 dd mA ∧ (∀ f, RelO (fs.lookup f) (mA f)) ∧ s.heap.get? dd = some o := by
  obtain ⟨⟨h1, h2⟩, vs, h3⟩ := Z
  obtain ⟨mA, nm, rel⟩ := exd_at I.hok hd
  obtain ⟨o, es, ep, ho, r⟩ := id nm
  have pin := (I.pin p (List.mem_append_left _ hp)).1
  exact ⟨mA, o, ⟨pin, h1, by unfold PySem.W.notCls; rw [h3] <;> rfl, by rw [h2]; exact ho⟩, nm, rel, ho⟩
/-- isinstance(e, c) of it -/
def rIsP (K : PySem.W.Frag) (a D dd : Addr) : List V → Hp → VK → Prop := fun xs H Q => ∃ (c : V) (u : Value) (b : Bool) (fs : List (Str × V)), xs = [.ref a, c] ∧ H dd = some (exd dd fs) ∧ ClsV c u ∧ PySem.W.kitOne K (.ref D) u = some b ∧ Q (.bl b) H
theorem call_isP (G : ClsG X.K) (T : ∃ (B newId initId : String) (tail : List Value), EC X.K D B newId initId tail) (hp : p ∈ X.pn) (Z : Pinned p D dd) : CallR X (.builtin "isinstance") (rIsP X.K p.1 D dd) := by
  intro pins s σ H xs us Q I r h
  obtain ⟨c, cv, b, fs, rfl, hd, hc, hk, q⟩ := h
  obtain ⟨u1, u2, rfl, r1, r2⟩ := vals2 r
  have e1 : u1 = Value.ref p.1 := r1
  subst e1
  have e2 := hc.eq r2
  subst e2
  obtain ⟨mA, o, J, _⟩ := pinned_inst I hp Z hd
  obtain ⟨B, newId, initId, tail, T⟩ := T
  have isCls : (PySem.W.clsIn X.K D).isSome = true := by
    obtain ⟨cd, hcd, _⟩ := PySem.W.any_some T.hd
    rw [hcd]
    rfl
  exact PySem.W.kia_one (PySem.W.kitx_exc isCls T.ga T.gg T.exC T.cls G.get G.tak T.obj) I.kIn J hk (fun z => nomatch z) fun tk => ⟨.bl b, H, I.tok tk, rfl, q⟩
/-- e.f of it -/
def tXfP (a dd : Addr) (f : Str) (te : TE) : TE := fun σ H Q => te σ H fun x H1 => x = .ref a ∧ ∃ (fs : List (Str × V)) (y : V), H1 dd = some (exd dd fs) ∧ fs.lookup f = some y ∧ Q y H1
theorem pe_xfP {e : Expr} {te : TE} {pos : Pos} {f : Str} (T : ∃ (B newId initId : String) (tail : List Value), EC X.K D B newId initId tail) (hno : PySem.W.findIn X.K (.ref D) f = some none) (hp : p ∈ X.pn) (Z : Pinned p D dd) (he : PE X e te)
    (hb : attributeBase e f X.env (eval e X.env) = eval e X.env := by rfl) : PE X (.Attribute e f pos) (tXfP p.1 dd f te) := by
  refine ⟨fun pins s σ H Q I h => attr_of hb (thn (he.run pins s σ H _ I h) fun u s1 ⟨x, H1, I1, r1, told⟩ => ?_)⟩
  obtain ⟨ex, fs, y, hd, hl, q⟩ := told
  subst ex
  have eu : u = Value.ref p.1 := r1
  subst eu
  obtain ⟨B, newId, initId, tail, T⟩ := T
  obtain ⟨mA, o, J, named, rel, ho⟩ := pinned_inst I1 hp Z hd
  obtain ⟨od, hod, look⟩ := lookIn_ns named
  rw [ho] at hod
  cases hod
  have rf := rel f
  rw [hl] at rf
  obtain ⟨v, hv, rv⟩ := RelO.some_of (v := y) (o := mA f) rf
  exact HandSPX.exc_get I1.kIn J T.ga T.gg T.exC (PySem.W.findObj_own T.hd hno rfl (by rw [look, hv])) (handed_of rv) ⟨y, H1, I1.tok _, rv, q⟩
end
/-! a def that is called where an exception is handled: what it promises of it -/
abbrev SpP := Addr → Addr → Addr → Sp
structure FnP (P : Program) (w : World) (K : PySem.W.Frag) (mg : Str → Option Value) (base : Heap) (k : Nat) (f : Addr) (fd : FuncData) (ps : List Str) (sp : SpP) : Prop where
  many : ∀ a D dd vs H Q E, sp a D dd vs H Q E → vs.length = ps.length
  goes : ∀ (A : Around) (out : List Env) (s : Shared) (H : Hp) (ar : Args) (us : List Value) (vs : List V) (Q : VK) (p : Addr × Obj) (D dd : Addr), A.guards = some [] → L2H.RoomH k A → L2H.PinOk out H s p → Pinned p D dd → Env0 P w K mg base A out s H →
    BindsTo s fd ar (ps.zip us) → Vals vs us → sp p.1 D dd vs H Q E0 → codeAny (model P w) A (.call (.ref f) ar) (CR CX0 out P w H s Q E0) s
section
variable {P : Program} {w : World} {K : PySem.W.Frag} {mg : Str → Option Value} {base : Heap}
/-- the rule for such a def, by its body -/
theorem okP {x qual : Str} {st : Stmt} {f : Addr} {fd : FuncData} {N ps : List Str} {k : Nat} {sp : SpP} (F : Fun K x qual st f fd) (S : FnScope N ps (defScope st)) (len : ∀ a D dd vs H Q E, sp a D dd vs H Q E → vs.length = ps.length)
    (hbody : ∀ (cdv : Value) (A : Around) (outer : List Env) (s : Shared) (H : Hp) (vs : List V) (Q : VK) (p : Addr × Obj) (D dd : Addr), A.guards = some [] → L2H.RoomH k (A.deeper (envOfC qual (defScope st) s.heap.objs.size f cdv)) → Pinned p D dd → sp p.1 D dd vs H Q E0 →
      ∃ t, PSs (L2H.cxH CX0 P w K mg base N qual (defScope st) f cdv A outer s H E0 p).nox (defBody st) t ∧ t { nx := fun _ H' => Q .non H', rt := Q } (start N vs) H) : FnP P w K mg base (k + 1) f fd ps sp := by
  obtain ⟨oc, od, kV, doc, pm, an, cdv, ct, osl, efd, hlk, hcode⟩ := F.ex
  subst efd
  refine ⟨len, fun A out s H ar us vs Q p D dd hgd hroom hpin hz hst hbind hvals hs => ?_⟩
  have hcount := len _ _ _ _ _ _ _ hs
  have inK : K.In s.heap := hst.mod.kin.keeps fun b o e => (hst.bs b o e).1
  have noLim : s.heap.NoLimit := hst.mod.nolimit.keeps fun b o e => (hst.bs b o e).1
  refine codeAny_call_function hroom.depth (inK _ _ hlk) rfl S.co S.gen rfl (PySem.W.codeRec_of inK hcode) (hbind _ _ _ _ ?_)
  refine wpAny_newFunctionEnv_cells S.kind (fun y hy => ?_) fun env eenv s1 xin => ?_
  · obtain ⟨nm, val⟩ := y
    cases S.par nm (List.of_mem_zip hy).1 with
    | inl isLocal => exact .inl isLocal
    | inr isCell => exact .inr ⟨isCell, PySem.W.cellsFrom_some _ _ _ (.inl isCell)⟩
  subst eenv
  refine ⟨noLim.keeps xin.toInCall.keep, codeAny_func ?_⟩
  obtain ⟨t, ht0, hq⟩ := hbody cdv A out s H vs Q p D dd hgd (hroom.deeper _) hz hs
  have ht := ht0.nox
  have inv0 : Inv (L2H.cxH CX0 P w K mg base N qual (defScope st) f cdv A out s H E0 p) [] (start N vs) H s1 := L2H.inv_startH S hpin hst hcount hvals xin
  have fin : ∀ {σ' : L2.St} {H' : Hp} {v : V} {u : Value} {s' : Shared}, Inv (L2H.cxH CX0 P w K mg base N qual (defScope st) f cdv A out s H E0 p) [] σ' H' s' → RelV v u → Q v H' → CE out P w H s Q u s' := fun J rv q => ⟨_, _, J.os, J.bare, J.base, J.hok, rv, q⟩
  refine wpAny_mono (ht.run [] s1 (start N vs) H _ inv0 hq) (fun flow s' told => ?_) fun e s' told => told
  match flow, told with
  | .ret u, ⟨v, σ', H', J, rv, q⟩ => exact fin J rv q
  | .next, ⟨σ', H', J, q⟩ => exact fin (v := V.non) (u := Value.none) J rfl q
  | .brk, ⟨_, _, _, q⟩ => exact False.elim q
  | .cont, ⟨_, _, _, q⟩ => exact False.elim q
end
section
variable {X : Cx} {k : Nat} {f : Addr} {fd : FuncData} {ps : List Str} {sp : SpP} {x : Str} {q pos : Pos} {e : Expr} {es : List Expr} {t : TA} {p : Addr × Obj} {D dd : Addr}
theorem runP {pins : List (Addr × Obj)} {σ : L2.St} {H : Hp} {s : Shared} {Q : VK} {us : List Value} {vs : List V} (F : FnP X.prog X.w X.K X.mg X.base k f fd ps sp) (hgd : X.A.guards = some []) (hr : L2H.RoomH k X.A) (hp : p ∈ X.pn) (Z : Pinned p D dd) (hb : Binds X.K fd ps [])
    (I : Inv X pins σ H s) (r : Vals vs us) (h : sp p.1 D dd vs H Q E0) : wpAny (model X.prog X.w) X.A (call (.ref f) us) (EP X pins σ Q) X.xe s := by
  have hl : (us ++ []).length = ps.length := by rw [List.append_nil, ← r.length]; exact F.many _ _ _ _ _ _ _ h
  have hbb := hb s us I.kIn hl
  rw [List.append_nil] at hbb
  obtain ⟨g1, g2, g3, g4, g5⟩ := I.pin p (List.mem_append_left _ hp)
  have pin : L2H.PinOk X.stack H s p := ⟨g1, g2, fun hm => (List.mem_cons.mp (I.stkSub p.1 hm)).elim g3 g4, g5⟩
  refine wpAny_call (codeAny_mono (F.goes X.A X.stack s H ⟨us, []⟩ us vs Q p D dd hgd hr pin Z I.env0 hbb r h) fun res s' told => ?_)
  match res, told with
  | .error _, told => exact False.elim told
  | .ok (.ret u), told => exact I.after told
  | .ok .next, told => exact False.elim told
  | .ok .brk, told => exact False.elim told
  | .ok .cont, told => exact False.elim told
/-- f(e, ..), where p is handled -/
theorem pe_callP (F : FnP X.prog X.w X.K X.mg X.base k f fd ps sp) (hgd : X.A.guards = some []) (hr : L2H.RoomH k X.A) (hp : p ∈ X.pn) (Z : Pinned p D dd) (hg : Gl X x) (hm : X.mg x = some (.ref f)) (hk : PySem.W.keepIn X.K (.ref f) = true) (hb : Binds X.K fd ps [])
    (ha : PA X (e :: es) t) (hdb : (x == ("__debug__" : Str)) = false := by decide) (he : starEach (e :: es) X.env = (false, eval e X.env) :: starEach es X.env := by rfl) (hpl : (backTo pos (starEach es X.env)).any (·.1) = false := by rfl) :
    PE X (.Call (.Name x q) (e :: es) [] pos) (tCallG (sp p.1 D dd) t) :=
  ⟨fun pins s σ H Q I h => wpAny_Call_Name_kw (ld_glob I hg hm (PySem.W.callWith_K (h₀ := X.base) I.ok.mod.kin hk (thn (ha.run pos pins s σ H _ I h) fun us s1 ⟨vs, H1, I1, r, q⟩ =>
    ⟨I1.kIn, runP F hgd hr hp Z hb I1 r q⟩) he hpl) hdb)⟩
end
end Lamp
set_option Elab.async false
set_option linter.all false
set_option maxRecDepth 100000
set_option maxHeartbeats 1000000
namespace Lamp
open PySem PySem.Spec PyProof.Rows L2
/-! try: body, except (A, B, C) as n: suite, where all that is raised is one of them -/
/-- a flying exception stays so when objects are laid -/
theorem flying_on {B h h' : Heap} {l : List Env} {a : Addr} {Z : Obj → Prop} (x : HandSPX.FlyingZ B l a Z h) (k : ∀ b o, h.get? b = some o → h'.get? b = some o) : HandSPX.FlyingZ B l a Z h' := by
  obtain ⟨g1, g2, g3, oe, vs, T, oT, ts, e1, e2, e3, e4, e5, e6, e7, e8, e9⟩ := x
  exact ⟨fun b o e => k b o (g1 b o e), g2, g3.of_keeps fun b o e _ => ⟨o, k b o e, rfl⟩, oe, vs, T, oT, ts, k _ _ e1, e2, e3, e4, e5, e6, k _ _ e7, e8, e9⟩
/-- the ends of a suite, behind which slot i is gone -/
def offI (i : Nat) (D : Ends) : Ends := { nx := fun σ' H' => D.nx (σ'.set i none) H', rt := D.rt, bk := fun σ' H' => D.bk (σ'.set i none) H', ct := fun σ' H' => D.ct (σ'.set i none) H' }
def wTup (K : PySem.W.Frag) (c1 c2 c3 : Value) (m i : Nat) (ts : Addr → Value → Option Addr → TS) (D : Ends) : WX := fun cls d σ H => σ.length = m →
  PySem.W.exmAny K cls [c1, c2, c3] = some true ∧ ∀ a, H a = none → ts a cls d (offI i D) (σ.set i (some (.ref a))) H
section
variable {X : Cx} {x1 x2 x3 n : Str} {c1 c2 c3 : Value} {i kk : Nat} {body suite : List Stmt} {b0 : Stmt} {p1 p2 p3 tp pos pos' : Pos} {tb : WX → TS} {ts : Addr → Value → Option Addr → TS}
theorem name_at {Y : Cx} {pins : List (Addr × Obj)} {σ : L2.St} {H : Hp} {s : Shared} {x : Str} {c : Value} {p : Pos} {Q : Value → Shared → Prop} {E : Value → Shared → Prop} (hc : Names Y x c) (I : Inv Y pins σ H s) (q : Q c s) : wpAny (model Y.prog Y.w) Y.A (eval (.Name x p) Y.env) Q E s := by
  obtain ⟨hg, hdbg, hm | ⟨hm, hv, hnn⟩⟩ := hc
  · exact ld_glob I hg hm q hdbg
  · exact ld_blt I hg hm hv q hnn hdbg
theorem ps_try_tup (onTop : X.stack = X.env :: X.outer) (framed : X.env.frame = some X.env.locals) (nodup : X.N.Nodup) (isN : X.N[i]? = some n) (isLoc : X.env.kindOf n = some .local) (n1 : Names X x1 c1) (n2 : Names X x2 c2) (n3 : Names X x3 c3)
    (inBody : ∀ (W : WX) (pn : List (Addr × Obj)) (xe : Value → Shared → Prop), Takes (X.tr pn xe) W → PassesOwn (model X.prog X.w) X.A X.env xe → PSs (X.tr pn xe) body (tb W))
    (inSuite : ∀ (a : Addr) (oe : Obj) (cls : Value) (d : Option Addr) (pn : List (Addr × Obj)), Zc cls d oe → (∃ vs, oe.data = .fields vs) → PSs (X.suite a ((a, oe) :: pn)) (b0 :: suite) (ts a cls d)) :
    PS X (.Try body [.ExceptHandler (some (.Tuple [.Name x1 p1, .Name x2 p2, .Name x3 p3] kk tp)) (some n) (b0 :: suite) pos'] [] [] pos) (fun D σ H => tb (wTup X.K c1 c2 c3 X.N.length i ts D) D σ H) := by
  refine ⟨fun pins s σ H D I told => wpAny_Try_except ?_⟩
  have xok := I.ok
  have frames : X.A.frames = some (X.env :: X.outer) := by rw [xok.frames, onTop]
  have isOwn : Loc X.env.scope n := .inl isLoc
  refine wpAny_mono ((inBody (wTup X.K c1 c2 c3 X.N.length i ts D) (X.pn ++ pins) _ (fun u s' air => ?_) PassesOwn.looking).run [] s σ H D (I.toTry _) told) (fun f s1 ended => ?_) (fun e s1 z => z)
  · obtain ⟨a, B, sI, pins', σ', H', cls, d, rfl, J', ground, ups, sky, na, os, ag, hits0⟩ := air
    have J : Inv X pins σ' H' sI := J'.ofTry xok
    obtain ⟨hits, q⟩ := hits0 J.len
    have sky' : Sky B (X.env :: X.outer) a (Zc cls d) X.env.locals s'.heap := by rw [← onTop]; exact sky
    show wpAny (model X.prog X.w) X.A (noteFrame (.ref a) X.env) _ _ _
    refine Sky.land Zc.steady frames framed sky' fun h3 fl3 up3 => ?_
    have J3 : Inv X pins σ' H' { s' with heap := h3 } := J.landed ground fl3.1 (ups.trans up3) os ag
    obtain ⟨oe3, vs3, he3, hz3, hd3⟩ := fl3.there
    have nfr : a ∉ frs (X.env :: X.outer) := fun hm => by
      obtain ⟨_, o', e', plain⟩ := fl3.2.2.1.mem hm
      rw [he3] at e'
      cases e'
      exact plain _ hd3
    have nL : a ≠ X.env.locals := fun z => nfr (List.mem_filterMap.mpr ⟨X.env, List.mem_cons_self, by rw [framed, z]⟩)
    have nF : a ∉ X.fs := fun hm => by
      obtain ⟨e, he, r⟩ := List.mem_filterMap.mp hm
      exact nfr (List.mem_filterMap.mpr ⟨e, List.mem_cons_of_mem _ he, r⟩)
    have S3 := J3.suite he3 hd3 na nL nF
    refine wpAny_handleBy_cons (codeAny_handlers_test ?_) (by intro q; cases q)
    have kp : ∀ b o, h3.get? b = some o → (h3.push { cls := .type "tuple", data := .seq [c1, c2, c3].toArray }).get? b = some o := fun _ _ z => Heap.get?_push_of_some _ z
    have fl4 := flying_on fl3 kp
    have LT : PySem.W.Looks (model X.prog X.w) (h3.push { cls := .type "tuple", data := .seq [c1, c2, c3].toArray }) (typeOf (.ref a)) cls := fun A Q E s k q => wpAny_typeOf_ref (k _ _ (kp _ _ he3)) (by rw [hz3.1]; exact q)
    have LM := PySem.W.exm_tup3 (M := model X.prog X.w) (J3.kIn.keeps kp) LT (Heap.get?_push_size h3 rfl) hits
    have m1 : Names (X.suite a ((a, oe3) :: (X.pn ++ pins))) x1 c1 := n1
    have m2 : Names (X.suite a ((a, oe3) :: (X.pn ++ pins))) x2 c2 := n2
    have m3 : Names (X.suite a ((a, oe3) :: (X.pn ++ pins))) x3 c3 := n3
    show wpAny (model X.prog X.w) (X.A.mark (some (.ref a))) _ _ _ _
    refine wpAny_Tuple (wpAny_items_cons (name_at m1 S3 (wpAny_items_cons (name_at m2 S3 (wpAny_items_cons (name_at m3 S3 (wpAny_items_nil ⟨by size_fits, ?_⟩)))))))
    refine LM.here ?_
    refine codeAny_handlers_suite_as ?_
    refine HandSPX.lands_againZ fl4 fun h5 fl5 up5 => ?_
    have upK : h3.UpToSlots (h3.push { cls := .type "tuple", data := .seq [c1, c2, c3].toArray }) := Heap.UpToSlots.of_keeps kp
    have J5 : Inv X pins σ' H' { s' with heap := h5 } := J.landed ground fl5.1 (((ups.trans up3).trans upK).trans up5) os ag
    obtain ⟨oe5, vs5, he5, hz5, hd5⟩ := fl5.there
    have S5 := J5.suite he5 hd5 na nL nF
    refine store_ok (X := X.suite a ((a, oe5) :: (X.pn ++ pins))) (v := .ref a) S5 nodup isN isOwn rfl (fun s6 S6 => ?_) (.inr isLoc)
    refine wpAny_mono ((inSuite a oe5 cls d (X.pn ++ pins) hz5 ⟨_, hd5⟩).run [] s6 _ H' _ S6 (q a na)) (fun f s7 ended => ?_) (fun _ _ z => False.elim z)
    have behind : ∀ {σ7 : L2.St} {H7 : Hp} {Q : Shared → Prop}, Inv (X.suite a ((a, oe5) :: (X.pn ++ pins))) [] σ7 H7 s7 → (∀ s8, Inv X pins (σ7.set i none) H7 s8 → Q s8) →
        wpAny (model X.prog X.w) X.A (do bindName X.env n .none; unbindBehindTheSuite X.env n pos') (fun _ s8 => Q s8) X.xe s7 := fun S7 hq => gone_ok (S7.unsuite xok) nodup isN isLoc hq
    match f, ended with
    | .next, ⟨_, _, S7, q7⟩ => exact behind S7 fun s8 J8 => ⟨_, _, J8, q7⟩
    | .brk, ⟨_, _, S7, q7⟩ => exact behind S7 fun s8 J8 => ⟨_, _, J8, q7⟩
    | .cont, ⟨_, _, S7, q7⟩ => exact behind S7 fun s8 J8 => ⟨_, _, J8, q7⟩
    | .ret u, ⟨_, _, _, S7, r7, q7⟩ => exact behind S7 fun s8 J8 => ⟨_, _, _, J8, r7, q7⟩
  · match f, ended with
    | .next, ⟨_, _, J', r⟩ => exact wpAny_execs_nil ⟨_, _, J'.ofTry xok, r⟩
    | .brk, ⟨_, _, J', r⟩ => exact ⟨_, _, J'.ofTry xok, r⟩
    | .cont, ⟨_, _, J', r⟩ => exact ⟨_, _, J'.ofTry xok, r⟩
    | .ret u, ⟨_, _, _, J', v, r⟩ => exact ⟨_, _, _, J'.ofTry xok, v, r⟩
end
end Lamp
set_option Elab.async false
set_option linter.all false
set_option maxRecDepth 100000
set_option maxHeartbeats 1000000
namespace Lamp
open PySem PySem.Spec PyProof.Rows L2
/-! xs.count(True), and what else an error's sorting needs -/
def rCntD (K : PySem.W.Frag) : V → List V → Hp → VK → Prop := fun x xs H Q => ∃ (a : Addr) (vs : List V) (y : V) (ds : List PyData) (d : PyData), x = .ref a ∧ xs = [y] ∧ SqL K H a vs ∧ DpAll K H vs ds ∧ Dp K H y d ∧ PyData.plainAll ds = true ∧ d.plain = true ∧ min (PyData.depthAll ds) d.depth ≤ 60 ∧
  Q (.int ((ds.countP fun z => PyData.eqv z d : Nat) : Int)) H
theorem mt_cntD {X : Cx} (hu : X.A.units + 64 < cLine) : MtR X "list.count" (rCntD X.K) := by
  intro pins s σ H x xs v us Q I rx rxs h
  obtain ⟨a, vs, y, ds, d, rfl, rfl, hs, hds, hd, p1, p2, hdep, q⟩ := h
  cases rx
  obtain ⟨u, rfl, ru⟩ := rxs.one
  obtain ⟨its, rv, ⟨o, n, ho, hc, hdn, hdt⟩, hlen⟩ := I.list hs
  obtain ⟨as, r1⟩ := Dp.readsAll I ds vs its hds rv
  obtain ⟨bs, r2⟩ := Dp.reads I d y u hd ru
  refine PySem.SeqAt.count_list_data (xs := ds) (d := d) ⟨o, ho, hc, n, hdt⟩ (by simpa using r1) r2 p1 p2 (by omega) ?_
  exact ⟨.int ((ds.countP fun z => PyData.eqv z d : Nat) : Int), H, I.tok _, ⟨s.toks, rfl⟩, q⟩
section
variable {K : PySem.W.Frag} {σ : L2.St} {H : Hp} {i : Nat} {a D D' dd : Addr} {b : Bool} {fs : List (Str × V)}
theorem v_isP (h : σ[i]? = some (some (.ref a))) (hd : H dd = some (exd dd fs)) (hk : PySem.W.kitOne K (.ref D) (.ref D') = some b) :
    Val (tCB (rIsP K a D dd) (tCons (tVar i) (tCons (tC (.ref D')) tNil))) σ H (.bl b) := fun Q q => ⟨_, h, _, _, b, fs, rfl, hd, .own D', hk, q⟩
theorem v_isPT {n : String} (h : σ[i]? = some (some (.ref a))) (hd : H dd = some (exd dd fs)) (hk : PySem.W.kitOne K (.ref D) (.type n) = some b) :
    Val (tCB (rIsP K a D dd) (tCons (tVar i) (tCons (tC (.ty n)) tNil))) σ H (.bl b) := fun Q q => ⟨_, h, _, _, b, fs, rfl, hd, .ty n, hk, q⟩
theorem v_xfP {f : Str} {y : V} (h : σ[i]? = some (some (.ref a))) (hd : H dd = some (exd dd [(f, y)])) : Val (tXfP a dd f (tVar i)) σ H y := fun Q q => ⟨_, h, rfl, _, y, hd, by rw [List.lookup_cons, beq_self_eq_true], q⟩
theorem dp_bools {l : Addr} {bs : List Bool} (h : H l = some (.lst (bs.map V.bl))) : Dp K H (.ref l) (.list (bs.map PyData.bool)) := by
  refine .lst (SqL.of h) ?_
  clear h
  induction bs with
  | nil => exact .nil
  | cons c r ih => exact .cons (.bl c) ih
theorem dpAll_bools : ∀ {bs : List Bool}, DpAll K H (bs.map V.bl) (bs.map PyData.bool)
  | [] => .nil
  | c :: r => .cons (.bl c) dpAll_bools
end
end Lamp
set_option Elab.async false
set_option linter.all false
set_option maxRecDepth 100000
set_option maxHeartbeats 1000000
namespace Lamp
open PySem PySem.Spec PyProof.Rows L2 LamX
/-! a def that calls what it got, and tells what it gives back, or what it raises -/
/-- what it makes of the lambda's reading -/
abbrev ansN : List Str := ["_law_call_here", "_law_got", "_law_e"]
def backE (f : Addr) (Q : VK) : VK := fun v H' => tRet (tLst (tCons (tC (.str "back")) (tCons (tVar 1) tNil))) { nx := fun _ H' => Q .non H', rt := Q } ((L2.start ansN [.ref f]).set 1 (some v)) H'
theorem back_run {f : Addr} {Q : VK} {v : V} {H' : Hp} (q : ∀ l, H' l = none → Q (.ref l) (upd H' l (.lst [.str "back", v]))) : backE f Q v H' := ⟨v, rfl, (by show 2 ≤ sizeLine; decide), q⟩
def raisE (K : PySem.W.Frag) (c1 c2 c3 : Value) (sp : SpP) (Q : VK) : XK := fun cls d H' => ∃ D dd, cls = .ref D ∧ d = some dd ∧ PySem.W.exmAny K cls [c1, c2, c3] = some true ∧ ∀ a, H' a = none → sp a D dd [.ref a] H' Q E0
def TTans (K : PySem.W.Frag) (c1 c2 c3 : Value) (sp : SpP) : (XK → Hp → VK → Prop) → Hp → VK → Prop := fun tl H Q => ∀ f, tl (raisE K c1 c2 c3 sp Q) H (backE f Q)
/-- its suite -/
def tSuiteA (sp : SpP) (a : Addr) (cls : Value) (d : Option Addr) : TS := fun D' σ H => ∃ D dd, cls = .ref D ∧ d = some dd ∧ tRet (tCallG (sp a D dd) (tCons (tVar 2) tNil)) D' σ H
section
variable {P : Program} {w : World} {K : PySem.W.Frag} {mg : Str → Option Value} {base : Heap}
/-- what is known of the def that sorts errors -/
structure SortR (P : Program) (w : World) (K : PySem.W.Frag) (mg : Str → Option Value) (base : Heap) (sp : SpP) (k : Nat) : Prop where
  ex : ∃ (f : Addr) (fd : FuncData), FnP P w K mg base k f fd ["_law_e"] sp ∧ Binds K fd ["_law_e"] [] ∧ mg "_law_sort" = some (.ref f) ∧ PySem.W.keepIn K (.ref f) = true
theorem ans_gives {X : Cx} {x q : Str} {sg : Scope} {g cA cB cC : Addr} {cdg : Value} {k j1 j2 : Nat} {sp : SpP} {p1 p2 p3 p4 p5 p6 p7 p8 p9 p10 p11 p12 p13 p14 p15 p16 p17 p18 : Pos} (hgd : X.A.guards = some []) (hr : Room (k + 1) X.A) (S : SortR X.prog X.w X.K X.mg X.base sp k)
    (Sg : FnScope ansN ["_law_call_here"] sg) (mA : X.mg "WrongValue" = some (.ref cA)) (mB : X.mg "WrongName" = some (.ref cB)) (mC : X.mg "NotPossible" = some (.ref cC)) (v1 : sg.names.lookup ("_law_got" : Str) = some NameKind.local) (v2 : sg.names.lookup ("_law_e" : Str) = some NameKind.local)
    (gA : sg.names.lookup ("WrongValue" : Str) = some .globalImplicit) (gB : sg.names.lookup ("WrongName" : Str) = some .globalImplicit) (gC : sg.names.lookup ("NotPossible" : Str) = some .globalImplicit) (gS : sg.names.lookup ("_law_sort" : Str) = some .globalImplicit) :
    GivesTo X ansN x sg g cdg [.Try [.Assign [.Name "_law_got" p1] (.Call (.Name "_law_call_here" p2) [] [] p3) p4] [.ExceptHandler (some (.Tuple [.Name "WrongValue" p5, .Name "WrongName" p6, .Name "NotPossible" p7] j1 p8)) (some "_law_e") [.Return (some (.Call (.Name "_law_sort" p9) [.Name "_law_e" p10] [] p11)) p12] p13] [] [] p14,
      .Return (some (.List [.Constant (.str "back") j2 p15, .Name "_law_got" p16] p17)) p18] "_law_call_here" q (TTans X.K (.ref cA) (.ref cB) (.ref cC) sp) := by
  intro f c' s H Q tl act hc h
  obtain ⟨fS, fdS, F, b, m, kp⟩ := S.ex
  have rm : L2H.RoomH k (X.A.deeper (envOfC x sg s.heap.objs.size g cdg)) := L2H.roomH_of (hr.deeper _)
  refine ⟨_, pss_cons (ps_try_tup (X := (cxOf C8.CX0 X.prog X.w X.K X.mg X.base ansN x sg g cdg X.A X.stack s H C8.E0).nox) (i := 2) (c1 := .ref cA) (c2 := .ref cB) (c3 := .ref cC)
      (tb := fun W D σ H => ∃ Ech : XK, (∀ cls d σ' H', Ech cls d H' → W cls d σ' H') ∧ σ[0]? = some (some (.ref f)) ∧ H c' = some (CodeO c' q) ∧ tl Ech H (fun v H' => D.nx (σ.set 1 (some v)) H')) (ts := tSuiteA sp)
      rfl rfl Sg.nd rfl v2 ⟨gA, rfl, .inl mA⟩ ⟨gB, rfl, .inl mB⟩ ⟨gC, rfl, .inl mC⟩ (fun W pn xe tk _ => ?_) (fun a oe cls d pn hz hf => ?_)) (pss_one (ps_ret (pe_lst (pa_cons pe_str (pa_cons (pv (x := "_law_got") 1 rfl (.inl v1)) pa_nil))))), ?_⟩
  · refine ⟨fun pins s' σ H' D I h' => ?_⟩
    obtain ⟨Ech, hW, h1, h2, h3⟩ := h'
    have hp := act W pn xe Ech p2 p3 tk hW
    have hs : PS ((cxOf C8.CX0 X.prog X.w X.K X.mg X.base ansN x sg g cdg X.A X.stack s H C8.E0).tr pn xe) (.Assign [.Name "_law_got" p1] (.Call (.Name "_law_call_here" p2) [] [] p3) p4) _ := ps_set (i := 1) Sg.nd rfl (.inl v1) hp
    exact (pss_one hs).run pins s' σ H' D I ⟨h1, h2, h3⟩
  · refine ⟨fun pins s' σ H' D I h' => ?_⟩
    obtain ⟨Dc, dd, rfl, rfl, h'⟩ := h'
    refine PSs.run (pss_one (ps_ret (pe_callP (X := ((cxOf C8.CX0 X.prog X.w X.K X.mg X.base ansN x sg g cdg X.A X.stack s H C8.E0).nox).suite a ((a, oe) :: pn)) (p := (a, oe)) (D := Dc) (dd := dd) F hgd ⟨rm.dp, rm.un⟩ (List.mem_cons_self ..) ⟨hz, hf⟩ gS m kp b (pa_cons (pv (x := "_law_e") 2 rfl (.inl v2)) pa_nil)))) pins s' σ H' D I h'
  · refine ⟨raisE X.K (.ref cA) (.ref cB) (.ref cC) sp Q, ?_, rfl, hc, h f⟩
    rintro cls d σ' H' ⟨Dc, dd, rfl, rfl, e, hq⟩ hlen
    refine ⟨e, fun a na => ⟨Dc, dd, rfl, rfl, .ref a, ?_, hq a na⟩⟩
    have l3 : σ'.length = 3 := hlen
    have l2 : 2 < σ'.length := by omega
    exact List.getElem?_set_self l2
/-- what is known of the def -/
structure AnsR (P : Program) (w : World) (K : PySem.W.Frag) (mg : Str → Option Value) (base : Heap) (cA cB cC : Addr) (sp : SpP) (k : Nat) : Prop where
  S : SortR P w K mg base sp k
  mA : mg "WrongValue" = some (.ref cA)
  mB : mg "WrongName" = some (.ref cB)
  mC : mg "NotPossible" = some (.ref cC)
  ex : ∃ (g : Addr) (st : Stmt) (fd : FuncData) (j1 j2 : Nat) (p1 p2 p3 p4 p5 p6 p7 p8 p9 p10 p11 p12 p13 p14 p15 p16 p17 p18 : Pos), Fun K "_law_answer" "_law_answer" st g fd ∧ Binds K fd ["_law_call_here"] [] ∧ mg "_law_answer" = some (.ref g) ∧ PySem.W.keepIn K (.ref g) = true ∧
    FnScope ansN ["_law_call_here"] (defScope st) ∧ ((defScope st).names.lookup ("_law_call_here" : Str) = some NameKind.local ∧ (defScope st).names.lookup ("_law_got" : Str) = some NameKind.local ∧ (defScope st).names.lookup ("_law_e" : Str) = some NameKind.local) ∧
    ((defScope st).names.lookup ("WrongValue" : Str) = some .globalImplicit ∧ (defScope st).names.lookup ("WrongName" : Str) = some .globalImplicit ∧ (defScope st).names.lookup ("NotPossible" : Str) = some .globalImplicit ∧ (defScope st).names.lookup ("_law_sort" : Str) = some .globalImplicit) ∧
    defBody st = [.Try [.Assign [.Name "_law_got" p1] (.Call (.Name "_law_call_here" p2) [] [] p3) p4] [.ExceptHandler (some (.Tuple [.Name "WrongValue" p5, .Name "WrongName" p6, .Name "NotPossible" p7] j1 p8)) (some "_law_e") [.Return (some (.Call (.Name "_law_sort" p9) [.Name "_law_e" p10] [] p11)) p12] p13] [] [] p14,
      .Return (some (.List [.Constant (.str "back") j2 p15, .Name "_law_got" p16] p17)) p18]
/-- _law_answer(lambda: body) -/
theorem pe_ans {X : Cx} {cA cB cC c Pt : Addr} {sp : SpP} {k kS : Nat} {T : List (Addr × Str)} {params : Arguments} {body : Expr} {scope : Scope} {t : XK → TE} {p lpos pos : Pos} (Z : AnsR X.prog X.w X.K X.mg X.base cA cB cC sp kS) (hk : kS ≤ k + 1) (hgd : X.A.guards = some []) (hr : Room (k + 2) X.A) (hg : Gl X "_law_answer")
    (TB : TabB X.base X.mg c Pt) (hcode : X.env.code = .ref c) (hmT : (Pt, X.env.qual ++ "<lambda>") ∈ T) (hu : ∀ p ∈ T, p.1 = Pt → p.2 = X.env.qual ++ "<lambda>") (L : LamS X.env.scope scope) (hdef : defaultsOf params X.env = ([], []))
    (hbind : ∀ (q : Str) (cl : List (Str × Addr)) (pm cv ctv : Value), bindArgs (PySem.W.kla_fn "<lambda>" q params body scope cl pm cv ctv) ⟨[], []⟩ = pure [])
    (hbody : ∀ (A : Around) (outer : List Env) (s : Shared) (H : Hp) (E : XK) (f c' : Addr), Room k (A.deeper (lamEnv X scope s.heap.objs.size f c')) → PE (lamCx X A outer s H E scope f c') body (t E)) :
    PE X (.Call (.Name "_law_answer" p) [.Lambda params body scope lpos] [] pos) (tLam T (TTans X.K (.ref cA) (.ref cB) (.ref cC) sp) t) := by
  obtain ⟨g, st, fd, j1, j2, p1, p2, p3, p4, p5, p6, p7, p8, p9, p10, p11, p12, p13, p14, p15, p16, p17, p18, F, b, m, kp, Sg, ⟨v0, v1, v2⟩, ⟨gA, gB, gC, gS⟩, hbg⟩ := Z.ex
  obtain ⟨oc, od, kV, doc, pm, an, cdv, ct, osl, efd, hlk, hcodeA⟩ := F.ex
  subst efd
  rw [hbg] at hlk b
  exact pe_lamcall (bg := _) (k := k) (a := "_law_call_here") (Ng := ansN) hg m kp hlk hcodeA b Sg rfl (.inl v0) (ans_gives (k := k + 1) hgd hr ⟨by
    obtain ⟨f1, fd1, F1, r1⟩ := Z.S.ex
    exact ⟨f1, fd1, ⟨F1.many, fun A out s H ar us vs Q p D dd h1 h2 => F1.goes A out s H ar us vs Q p D dd h1 (h2.mono hk)⟩, r1⟩⟩ Sg Z.mA Z.mB Z.mC v1 v2 gA gB gC gS) TB hcode hmT hu hr L hdef hbind hbody
end
end Lamp
set_option Elab.async false
set_option linter.all false
set_option maxRecDepth 100000
set_option maxHeartbeats 1000000
namespace Lamp
open PySem PySem.Spec PyProof.Rows L2 LamX
/-! the end of a law whose defs make lambdas: the tables of their code objects -/
abbrev tabO : Obj := { cls := .none, data := .fields #[] }
abbrev MainB (mg : Str → Option Value) (h : Heap) : Prop := ∃ (bm : Addr) (ob : Obj), mg "__builtins__" = some (.ref bm) ∧ bm ≠ builtinsNs ∧ h.get? bm = some ob ∧ ob.cls = .type "module" ∧ ob.dict = some builtinsNs ∧ ob.data = .plain
theorem law_goesT {P : Program} {w : World} {K : PySem.W.Frag} {mg mb : Str → Option Value} {k : Nat} {fa a : Addr} {cs : List (Addr × Addr)} {fd : FuncData} {x : Str} {sp : Sp} {sh : Shared} {vs : List Value} {H : Hp}
    (inK : K.In sh.heap) (nsG : sh.heap.Ns mainGlobals mg) (nsB : sh.heap.Ns builtinsNs mb) (bltn : ∀ x : Str, x ≠ "__name__" → mb x = bootBuiltins x) (noLim : sh.heap.NoLimit) (noGen : sh.gens = #[])
    (tabs : ∀ p ∈ cs, sh.heap.get? p.2 = some tabO) (codes : ∀ p ∈ cs, PySem.W.CodeHd sh.heap p.1 p.2) (mainB : MainB mg sh.heap)
    (there : sh.heap.get? a = some { cls := .type "list", data := .seq vs.toArray }) (room : Room k callerA)
    (F : ∀ base : Heap, K.In base → base.Ns mainGlobals mg → (∀ p ∈ cs, TabB base mg p.1 p.2) → FnG P w K mg base k fa fd [x] sp) (hbind : ∀ (s : Shared) (u : Value), BindsTo s fd ⟨[u], []⟩ [(x, u)])
    (asked : sp [.ref a] H (fun v _ => v = .bl true) E0) (hok : HOk P w H sh.heap) (hH : ∀ p ∈ cs, H p.2 = some (.tbl #[]))
    (kinds : ∀ b u, H b = some u → K.lookup b = none ∧ ((b = a ∧ ∃ o xs, u = .frz o (.lst xs)) ∨ ∃ p ∈ cs, p.2 = b)) :
    codeAny (model P w) callerA (.call (.ref fa) ⟨[.ref a], []⟩) (fun r s' => r = .ok (.ret (.bool true)) ∧ OldK sh.heap s'.heap ∧ s'.os = sh.os ∧ AllBare s'.gens) sh := by
  have untold : ∀ {b : Addr} {o : Obj}, sh.heap.get? b = some o → o.cls ≠ .type "list" → o.cls ≠ .none → H b = none := fun {b o} e n1 n2 => by
    cases q : H b with
    | none => rfl
    | some u =>
      rcases (kinds b u q).2 with ⟨eb, _⟩ | ⟨p, hp, eb⟩
      · rw [eb, there] at e
        cases e
        exact absurd rfl n1
      · have z := tabs p hp
        rw [eb, e] at z
        cases z
        exact absurd rfl n2
  have notDict : ∀ {b : Addr} {o : Obj} {es : Array DictEntry} {ep : Nat}, sh.heap.get? b = some o → o.data = .dict es ep → H b = none := fun {b o es ep} e d => by
    cases q : H b with
    | none => rfl
    | some u =>
      rcases (kinds b u q).2 with ⟨eb, _⟩ | ⟨p, hp, eb⟩
      · rw [eb, there] at e
        cases e
        cases d
      · have z := tabs p hp
        rw [eb, e] at z
        cases z
        cases d
  have nsKeep : ∀ {b : Addr} {m : Str → Option Value}, sh.heap.Ns b m → (hidT sh.heap H).Ns b m := fun {b m} ⟨o, es, ep, e, d, r⟩ => ⟨o, es, ep, hidT_get e (notDict e d), d, r⟩
  have inK' : K.In (hidT sh.heap H) := fun b o e => hidT_get (inK b o e) (by
    cases q : H b with
    | none => rfl
    | some u =>
      have z := (kinds b u q).1
      rw [z] at e
      cases e)
  obtain ⟨mc, lim1, lim2⟩ := noLim
  have isMod : L2.Mod K mg (hidT sh.heap H) := ⟨inK', nsKeep nsG, ⟨mb, nsKeep nsB, bltn⟩, ⟨mc, nsKeep lim1, lim2⟩⟩
  have mainG : ∀ b, sh.heap.get? b = some tabO → mainGlobals ≠ b := fun b e z => by
    obtain ⟨o, es, ep, e1, d, _⟩ := nsG
    rw [z, e] at e1
    cases e1
    cases d
  have tabB : ∀ p ∈ cs, TabB (hidT sh.heap H) mg p.1 p.2 := fun p hp => by
    refine ⟨?_, ?_, mainG _ (tabs p hp)⟩
    · obtain ⟨o, us, file, tf, flags, tg, inF, text, tt, e1, r1, r2, more⟩ := codes p hp
      exact ⟨o, us, file, tf, flags, tg, inF, text, tt, hidT_get e1 (untold e1 (by rw [r1]; decide) (by rw [r1]; intro z; cases z)), r1, r2, more⟩
    · obtain ⟨bm, ob, b1, b2, b3, b4, b5, b6⟩ := mainB
      refine ⟨bm, ob, b1, b2, fun q => ?_, fun q => ?_, hidT_get b3 (untold b3 (by rw [b4]; decide) (by rw [b4]; intro z; cases z)), b4, b5, b6⟩
      · obtain ⟨o, es, ep, e, d, _⟩ := nsG
        rw [q, e] at b3
        cases b3
        rw [d] at b6
        cases b6
      · rw [q, tabs p hp] at b3
        cases b3
        cases b6
  have start0 : Env0 P w K mg (hidT sh.heap H) callerA [] sh H :=
    { frames := rfl, mod := isMod, bs := fun b o e => of_hidT e, bsz := Nat.le_of_eq (hidT_size _ _), funs := trivial, frf := (fun b hb => nomatch hb), hok := hok, bare := .of_eq noGen }
  refine codeAny_mono ((F _ inK' (nsKeep nsG) tabB).goes callerA [] sh H ⟨[.ref a], []⟩ [.ref a] [.ref a] _ _ rfl room start0 (hbind sh (.ref a)) (.cons rfl .nil) asked) fun res s' told => ?_
  match res, told with
  | .error _, told => exact False.elim told
  | .ok .next, told => exact False.elim told
  | .ok .brk, told => exact False.elim told
  | .ok .cont, told => exact False.elim told
  | .ok (.ret u), ⟨v, H', os, bare, un, hok', rv, ev⟩ =>
    have ev' : v = .bl true := ev
    subst ev'
    have eu : u = Value.bool true := rv
    subst eu
    have grown : ∀ p ∈ cs, ∃ more : Array Value, s'.heap.get? p.2 = some { cls := .none, data := .fields more } := fun p hp => by
      obtain ⟨more, z⟩ := un.tbls p.2 #[] (hH p hp)
      exact ⟨_, hok' p.2 _ z⟩
    have kept : ∀ b o, (∀ p ∈ cs, p.2 ≠ b) → sh.heap.get? b = some o → s'.heap.get? b = some o := fun b o nb e => by
      cases q : H b with
      | none => exact un.keep b o e q (fun z => nomatch z) (fun z => nomatch z)
      | some u =>
        rcases (kinds b u q).2 with ⟨_, ob, xs, rfl⟩ | ⟨p, hp, eb⟩
        · have old := (hok b _ q).1
          have new := (hok' b _ (un.frzs b ob _ q)).1
          rw [e] at old
          cases old
          exact new
        · exact absurd eb (nb p hp)
    refine ⟨rfl, ⟨fun b o e => ?_, fun b o e => ?_⟩, os, bare⟩
    · by_cases hb : ∃ p ∈ cs, p.2 = b
      · obtain ⟨p, hp, rfl⟩ := hb
        obtain ⟨more, hm⟩ := grown p hp
        have z := tabs p hp
        rw [e] at z
        cases z
        exact .inr (.inl ⟨((codes p hp).tab (tabs p hp)).isCodeTable, rfl, #[], more, rfl, by rw [Array.empty_append]; exact hm⟩)
      · exact .inl (kept b o (fun p hp z => hb ⟨p, hp, z⟩) e)
    · by_cases hb : ∃ p ∈ cs, p.2 = b
      · obtain ⟨p, hp, rfl⟩ := hb
        obtain ⟨more, hm⟩ := grown p hp
        exact ⟨_, hm⟩
      · exact ⟨o, kept b o (fun p hp z => hb ⟨p, hp, z⟩) e⟩
/-- the place of a code object, and of its table -/
def codeA : Value → Addr
  | .ref c => c
  | _ => 0
def tabIn (K : PySem.W.Frag) (c : Addr) : Option Addr := match K.lookup c with
  | some ⟨_, _, .fields vs, _⟩ => (match (vs[11]? : Option Value) with
    | some (Value.ref q) => some q
    | _ => none)
  | _ => none
def tabA (K : PySem.W.Frag) (v : Value) : Addr := (tabIn K (codeA v)).getD 0
def isStrV : Value → Bool
  | .str _ _ => true
  | _ => false
def isIntV : Value → Bool
  | .int _ _ => true
  | _ => false
def isBoolV : Value → Bool
  | .bool _ => true
  | _ => false
def isRefV : Value → Bool
  | .ref _ => true
  | _ => false
def codeB (K : PySem.W.Frag) (v : Value) : Bool := isRefV v && (match K.lookup (codeA v) with
  | some ⟨.type t, _, .fields vs, _⟩ => decide (t = "code") && (decide (vs[11]? = some (.ref (tabA K v))) && (isStrV (vs.getD 18 .none) && (isIntV (vs.getD 7 .none) && (isBoolV (vs.getD 9 .none) && (isIntV (vs.getD 10 .none) && (decide (codeA v ≠ tabA K v) && (K.lookup (tabA K v)).isNone))))))
  | _ => false)
theorem codeB_ok {K : PySem.W.Frag} {v : Value} (h : codeB K v = true) : v = .ref (codeA v) ∧ K.lookup (tabA K v) = none ∧ ∃ dd vs sl, K.lookup (codeA v) = some ⟨.type "code", dd, .fields vs, sl⟩ ∧ vs[11]? = some (.ref (tabA K v)) ∧ ∀ hp : Heap, K.In hp → PySem.W.CodeHd hp (codeA v) (tabA K v) := by
  unfold codeB at h
  simp only [Bool.and_eq_true] at h
  obtain ⟨h1, h⟩ := h
  have isR : v = .ref (codeA v) := by
    cases v <;> first | rfl | (cases h1)
  refine ⟨isR, ?_⟩
  split at h
  · rename_i t dd vs sl look
    simp only [Bool.and_eq_true, decide_eq_true_eq] at h
    obtain ⟨rfl, h2, h3, h4, h5, h6, h7, h8⟩ := h
    refine ⟨Option.isNone_iff_eq_none.mp h8, dd, vs, sl, look, h2, fun hp inK => ?_⟩
    have e11 : vs.getD 11 .none = .ref (tabA K v) := by
      obtain ⟨l, e⟩ := Array.getElem?_eq_some_iff.mp h2
      unfold Array.getD
      rw [dif_pos l]
      exact e
    obtain ⟨s1, s2, es⟩ : ∃ a b, vs.getD 18 .none = .str a b := by
      generalize vs.getD 18 .none = z at h3 ⊢
      cases z <;> first | exact ⟨_, _, rfl⟩ | (cases h3)
    obtain ⟨i1, i2, ei⟩ : ∃ a b, vs.getD 7 .none = .int a b := by
      generalize vs.getD 7 .none = z at h4 ⊢
      cases z <;> first | exact ⟨_, _, rfl⟩ | (cases h4)
    obtain ⟨b1, eb⟩ : ∃ a, vs.getD 9 .none = .bool a := by
      generalize vs.getD 9 .none = z at h5 ⊢
      cases z <;> first | exact ⟨_, rfl⟩ | (cases h5)
    obtain ⟨j1, j2, ej⟩ : ∃ a b, vs.getD 10 .none = .int a b := by
      generalize vs.getD 10 .none = z at h6 ⊢
      cases z <;> first | exact ⟨_, _, rfl⟩ | (cases h6)
    exact ⟨_, vs, s1, s2, i1, i2, b1, j1, j2, inK _ _ look, rfl, rfl, h2, e11, es, ei, eb, ej, h7⟩
  · cases h
/-- a def of the top with its code object's table -/
def TabOf (K : PySem.W.Frag) (mg : Str → Option Value) (xs : List Str) (p : Addr × Addr) : Prop := ∃ x ∈ xs, ∃ (f : Addr) (o : Obj) (fd : FuncData) (v : Value), mg x = some (.ref f) ∧ K.lookup f = some o ∧ o.data = .func fd ∧ fd.code = v ∧ codeB K v = true ∧ p = (codeA v, tabA K v)
open PySem.W in
theorem walk_ofGT {l : PySem.W.OpenLaw} {n k : Nat} {q : Program} {loose : List Str} {XP : (Str → Option Value) → Heap → Prop} {YP : World → Heap → Prop} {d : DefRec} {K : Params → PySem.W.Frag} {x : Str} (xs : List Str)
    (hn : l.most = some n) (hn2 : n ≤ sizeLine) (hdf : d.params.defaults = []) (hr : Room k callerA) (hrec : ∀ x ∈ xs, ((recsOf q).any fun e => e.name == x) = true) (hY : ∀ (w : World) (h : Heap), YP w h → (K w.params).In h)
    (F : ∀ (w : World) (mg : Str → Option Value) (fa : Addr) (h : Heap), (K w.params).In h → h.Ns mainGlobals mg → mg d.name = some (.ref fa) → ∃ (fd : FuncData) (cs : List (Addr × Addr)) (sp : Sp), (∀ p ∈ cs, TabOf (K w.params) mg xs p) ∧ (∀ (s : Shared) (u : Value), BindsTo s fd ⟨[u], []⟩ [(x, u)]) ∧
      (∀ (H : Hp) (a : Addr) (ns : List Int), ns.length ≤ n → (∀ z ∈ ns, Builtin.Int.intBits z ≤ 1048576) → (∀ p ∈ cs, H p.2 = some (.tbl #[])) → SqL (K w.params) H a (ns.map V.int) → sp [.ref a] H (fun v _ => v = .bl true) E0) ∧
        ∀ base : Heap, (K w.params).In base → base.Ns mainGlobals mg → (∀ p ∈ cs, TabB base mg p.1 p.2) → FnG l.prog w (K w.params) mg base k fa fd [x] sp) :
    PySem.W.WalkO q loose XP YP l.row.toRowW d [] (fun f vs => PySem.call f vs) :=
  Att.attach_callB hn hdf fun w s₀ s₁ mg mb fa o pm cd doc a vs ns G Y ho hd hcd hmg hobj hints hlen hbits hg => by
    have inK := hY w _ Y
    obtain ⟨fd, cs, sp, tabs, hb, hsp, hF⟩ := F w mg fa _ inK G.T.g hmg
    have facts : ∀ p ∈ cs, s₁.heap.get? p.2 = some tabO ∧ (K w.params).lookup p.2 = none ∧ PySem.W.CodeHd s₁.heap p.1 p.2 := fun p hp => by
      obtain ⟨y, hy, f, o1, fd1, v, m1, k1, k2, k3, cb, rfl⟩ := tabs p hp
      obtain ⟨ev, noTab, dd, vs1, sl, k4, k5, hd1⟩ := codeB_ok cb
      refine ⟨?_, noTab, hd1 _ inK⟩
      obtain ⟨dL, hm, hn1⟩ := List.any_eq_true.mp (hrec y hy)
      have hn2 : dL.name = y := beq_iff_eq.mp hn1
      obtain ⟨a', o', fd', c', P', h1, h2, h3, h4, h5, h6⟩ := G.T.tab dL hm
      rw [hn2, m1] at h1
      cases h1
      have g1 := inK _ _ k1
      rw [g1] at h2
      cases h2
      rw [k2] at h3
      cases h3
      rw [k3, ev] at h4
      cases h4
      obtain ⟨⟨oc, vc, e1, _, e3, e4⟩, hP⟩ := h6
      have g2 := inK _ _ k4
      rw [g2] at e1
      cases e1
      cases e3
      rw [k5] at e4
      cases e4
      exact hP
    have same := hints.length
    have vals := vals_ints hints
    have short : ns.length ≤ sizeLine := Nat.le_trans hlen hn2
    have notA : ∀ p ∈ cs, p.2 ≠ a := fun p hp z => by
      have e := (facts p hp).1
      rw [z, hobj] at e
      cases e
    cases look : (K w.params).lookup a with
    | some ob =>
      have e := inK a ob look
      rw [hobj] at e
      cases e
      let H : Hp := fun b => if b ∈ cs.map (·.2) then some (.tbl #[]) else none
      have on : ∀ p ∈ cs, H p.2 = some (.tbl #[]) := fun p hp => if_pos (List.mem_map.mpr ⟨p, hp, rfl⟩)
      refine law_goesT (H := H) (cs := cs) inK G.T.g G.T.b G.T.builtins G.T.nolimit hg (fun p hp => (facts p hp).1) (fun p hp => (facts p hp).2.2) G.T.bmain hobj hr hF hb (hsp H a ns hlen hbits on ?_) (fun b u z => ?_) on (fun b u z => ?_)
      · exact .inr ⟨_, vs.toArray, _, look, rfl, rfl, rfl, by rw [List.size_toArray, same]; exact short, vals⟩
      · by_cases hb : b ∈ cs.map (·.2)
        · have z2 := (if_pos hb).symm.trans z
          cases z2
          obtain ⟨p, hp, rfl⟩ := List.mem_map.mp hb
          exact (facts p hp).1
        · have z2 := (if_neg hb).symm.trans z
          cases z2
      · by_cases hb : b ∈ cs.map (·.2)
        · obtain ⟨p, hp, rfl⟩ := List.mem_map.mp hb
          exact ⟨(facts p hp).2.1, .inr ⟨p, hp, rfl⟩⟩
        · have z2 := (if_neg hb).symm.trans z
          cases z2
    | none =>
      let held : HO := .frz { cls := .type "list", data := .seq vs.toArray } (.lst (ns.map V.int))
      let H : Hp := fun b => if b = a then some held else if b ∈ cs.map (·.2) then some (.tbl #[]) else none
      have on : ∀ p ∈ cs, H p.2 = some (.tbl #[]) := fun p hp => (if_neg (notA p hp)).trans (if_pos (List.mem_map.mpr ⟨p, hp, rfl⟩))
      have atA : H a = some held := if_pos rfl
      refine law_goesT (H := H) (cs := cs) inK G.T.g G.T.b G.T.builtins G.T.nolimit hg (fun p hp => (facts p hp).1) (fun p hp => (facts p hp).2.2) G.T.bmain hobj hr hF hb (hsp H a ns hlen hbits on (.inl (.inr ⟨_, atA⟩))) (fun b u z => ?_) on (fun b u z => ?_)
      · by_cases hb : b = a
        · subst hb
          rw [atA] at z
          cases z
          exact ⟨hobj, by rw [List.length_map]; exact short, vs, _, vals, hobj⟩
        · have z1 := (if_neg hb).symm.trans z
          by_cases hb2 : b ∈ cs.map (·.2)
          · have z2 := (if_pos hb2).symm.trans z1
            cases z2
            obtain ⟨p, hp, rfl⟩ := List.mem_map.mp hb2
            exact (facts p hp).1
          · have z2 := (if_neg hb2).symm.trans z1
            cases z2
      · by_cases hb : b = a
        · subst hb
          rw [atA] at z
          cases z
          exact ⟨look, .inl ⟨rfl, _, _, rfl⟩⟩
        · have z1 := (if_neg hb).symm.trans z
          by_cases hb2 : b ∈ cs.map (·.2)
          · obtain ⟨p, hp, rfl⟩ := List.mem_map.mp hb2
            exact ⟨(facts p hp).2.1, .inr ⟨p, hp, rfl⟩⟩
          · have z2 := (if_neg hb2).symm.trans z1
            cases z2
end Lamp
set_option Elab.async false
set_option linter.all false
set_option maxRecDepth 100000
set_option maxHeartbeats 1000000
namespace Lamp
open PySem PySem.Spec PyProof.Rows L2
/-! parts of tuples, tuples behind one another: whatever object it is -/
theorem cut_lo (xs : List V) {k : Nat} (h : k ≤ xs.length) : cutV xs none (some (k : Int)) = xs.take k := by
  unfold cutV
  rw [HT.sIx_none, HT.sIx_nat, Nat.min_eq_left h]
  rfl
theorem cut_hi (xs : List V) (k : Nat) : cutV xs (some (k : Int)) none = xs.drop k := by
  unfold cutV
  rw [HT.sIx_none, HT.sIx_nat]
  by_cases h : k ≤ xs.length
  · rw [Nat.min_eq_left h]
    exact List.take_of_length_le (by rw [List.length_drop]; exact Nat.le_refl _)
  · rw [Nat.min_eq_right (by omega), List.drop_length, List.drop_of_length_le (by omega)]
    exact List.take_nil
theorem paired_take {α β : Type} {R : α → β → Prop} : ∀ (n : Nat) {xs : List α} {ys : List β}, Paired R xs ys → Paired R (xs.take n) (ys.take n)
  | 0, _, _, _ => by simp only [List.take_zero]; exact .nil
  | n + 1, _, _, .nil => .nil
  | n + 1, _, _, .cons h t => .cons h (paired_take n t)
theorem paired_drop {α β : Type} {R : α → β → Prop} : ∀ (n : Nat) {xs : List α} {ys : List β}, Paired R xs ys → Paired R (xs.drop n) (ys.drop n)
  | 0, _, _, h => h
  | n + 1, _, _, .nil => .nil
  | n + 1, _, _, .cons _ t => paired_drop n t
theorem sl_any {K : PySem.W.Frag} {H : Hp} {a : Addr} {xs : List V} {lo hi : Option Int} {Q : VK} (h : H a = some (.tup xs)) (k : ∀ b H', Same H H' → H' b = some (.tup (cutV xs lo hi)) → Q (.ref b) H') : rSlA K (.ref a) lo hi H Q := by
  refine ⟨a, xs, rfl, SqT.of h, fun w => ?_, fun _ p np => k p _ (same_of np) upd_same⟩
  have e : cutV xs lo hi = xs := by
    unfold cutV
    rw [w.1, w.2]
    exact List.take_of_length_le (by rw [List.length_drop]; omega)
  exact k a H (Same.refl H) (by rw [e]; exact h)
theorem cat_any {K : PySem.W.Frag} {H : Hp} {a b : Addr} {xs ys : List V} {Q : VK} (h1 : H a = some (.tup xs)) (h2 : H b = some (.tup ys)) (hl : xs.length + ys.length ≤ sizeLine) (k : ∀ c H', Same H H' → H' c = some (.tup (xs ++ ys)) → Q (.ref c) H') : rCatA K (.ref a) (.ref b) H Q := by
  refine ⟨a, b, xs, ys, rfl, rfl, SqT.of h1, SqT.of h2, hl, fun e => ?_, fun _ e => ?_, fun _ _ p np => k p _ (same_of np) upd_same⟩
  · subst e
    exact k b H (Same.refl H) h2
  · subst e
    exact k a H (Same.refl H) (by rw [List.append_nil]; exact h1)
end Lamp
set_option Elab.async false
set_option linter.all false
set_option maxRecDepth 100000
set_option maxHeartbeats 1000000
namespace Lamp
open PySem PySem.Spec PyProof.Rows L2
/-! enumerate of a tuple -/
theorem enum_new {v : Value} {o : Obj} {Hh : Heap → Prop} (B : Begins v o Hh) : Meets (Builtin.«enumerate.__new__» ⟨[.type "enumerate", v], []⟩) (fun _ R s => Hh s.heap ∧
    R (.ok (.ret (.ref (s.heap.push o).objs.size))) { s with heap := (s.heap.push o).push { cls := .type "enumerate", data := .fields #[.none, .bool false, .ref s.heap.objs.size, rawInt 0, .none, .none] } }) :=
  .of_wp fun P w A R s told => by
    obtain ⟨hp, gs, dp, tk, ou⟩ := s
    obtain ⟨there, goal⟩ := told
    have under := sub_enumerate
    have starts : ∀ {A1 : Around} {E : Value → Shared → Prop} {Q : Value → Shared → Prop}, Q (.ref hp.objs.size) ⟨hp.push o, gs, dp, tk, ou⟩ → wpAny (model P w) A1 (pyIter v) Q E ⟨hp, gs, dp, tk, ou⟩ :=
      fun q => B.iter P w _ _ ⟨hp, gs, dp, tk, ou⟩ _ there q
    wp_walk using starts
    refine wpAny_stack_any fun st => wpAny_pure ?_
    split
    · rename_i c _ _ _ _ _
      cases hc : (c == Value.type "enumerate") <;> (wp_walk using starts; exact ⟨_, rfl, goal⟩)
    · wp_walk using starts
      exact ⟨_, rfl, goal⟩
theorem enum_call {P : Program} {w : World} {A : Around} {E : Value → Shared → Prop} {s : Shared} {v : Value} {o : Obj} {Hh : Heap → Prop} {Q : Value → Shared → Prop} (B : Begins v o Hh) (there : Hh s.heap)
    (goal : ∀ h', IsEnum h' (s.heap.objs.size + 1) s.heap.objs.size 0 .none → h'.get? s.heap.objs.size = some o → (∀ b u, s.heap.get? b = some u → h'.get? b = some u) → Q (.ref (s.heap.objs.size + 1)) { s with heap := h' }) :
    wpAny (model P w) A (call (.type "enumerate") [v]) Q E s := by
  have two : (s.heap.push o).objs.size = s.heap.objs.size + 1 := Heap.size_push ..
  have isE : IsEnum ((s.heap.push o).push { cls := .type "enumerate", data := .fields #[.none, .bool false, .ref s.heap.objs.size, rawInt 0, .none, .none] }) (s.heap.objs.size + 1) s.heap.objs.size 0 .none := by
    rw [← two]
    exact Heap.get?_push_size (s.heap.push o) rfl
  refine callType_new F.called_enumerate (by decide) (F.typeCall_enumerate_1 _) (F.newCall_enumerate_1 _) (fun z => F.args_object_init_2 z _) F.entry_enumerate_new (enum_new B) ⟨there, ?_⟩
  show _ ∧ _
  rw [two]
  exact ⟨⟨_, isE, rfl⟩, goal _ isE (Heap.get?_push_of_some _ (Heap.get?_push_size _ B.free)) fun b u z => Heap.get?_push_of_some _ (Heap.get?_push_of_some _ z)⟩
/-- the pairs of index and item of the tuple at a -/
def Itn (K : PySem.W.Frag) (a : Addr) : It where
  go i H := ∃ (xs : List V) (x : V), SqT K H a xs ∧ xs[i]? = some x
  yld i H v H' := ∃ T x, v = .ref T ∧ H T = none ∧ H' = upd H T (.tup [.int (i : Nat), x]) ∧ ∀ xs, SqT K H a xs → xs[i]? = some x
  stop i H := ∃ xs : List V, SqT K H a xs ∧ xs.length ≤ i
theorem turn_enumT {P : Program} {w : World} {K : PySem.W.Frag} {parts : List Expr} {n : Nat} {at_ : Pos} (a e it : Addr) :
    Turn P w K (.Tuple parts n at_) (Itn K a) [e, it] e (fun i h => (∃ old, IsEnum h e it ((i : Nat) : Int) old) ∧ h.IsTupleIter it a i ∧ e ≠ it) where
  mem := List.mem_cons_self ..
  obj := fun i h st b hb => by
    obtain ⟨⟨old, he⟩, ⟨o, ho, hc, hd⟩, _⟩ := st
    rcases (by simpa using hb : b = e ∨ b = it) with z | z
    · rw [z]; exact ⟨_, he, fun v q => nomatch q⟩
    · rw [z]; exact ⟨o, ho, fun v q => by rw [hd] at q; cases q⟩
  keep := fun i h h' st k => ⟨let ⟨old, he⟩ := st.1; ⟨old, k e (by simp) _ he⟩, st.2.1.at fun o q => k it (by simp) o q, st.2.2⟩
  item := by
    intro X hP hw hK hc i pins s σ H E I hf st hg
    subst hP hw hK
    obtain ⟨⟨old, he⟩, hit, hne⟩ := st
    obtain ⟨xs, x, hq, hx⟩ := hg
    obtain ⟨its, rv, p, hz⟩ := I.tuple hq
    obtain ⟨u, hu, ru⟩ := rv.get hx
    have hlen := rv.length
    have hi : i < its.length := (List.getElem?_eq_some_iff.mp hu).1
    have tup : s.heap.IsTuple a its.toArray := p
    have ae : a ≠ e := fun z => by
      obtain ⟨o, ho, hco, _⟩ := tup
      rw [z, he] at ho
      cases ho
      exact absurd (show Value.type "enumerate" = .type "tuple" from hco) (by decide)
    have ait : a ≠ it := fun z => by
      obtain ⟨o, ho, hco, _⟩ := tup
      obtain ⟨o2, ho2, hc2, _⟩ := hit
      rw [z, ho2] at ho
      cases ho
      rw [hc2] at hco
      exact absurd hco (by decide)
    have le : e < s.heap.objs.size := Heap.lt_size he
    have li : it < s.heap.objs.size := by obtain ⟨_, q, _⟩ := hit; exact Heap.lt_size q
    have D := Draws.tuple (prog := X.prog) (w := X.w) (A := X.A.in1) (I.ok.hd hc) it a ait its.toArray
    refine wpAny_pyNext_enum_itemD D he ⟨hit, tup⟩ (by simpa using hi) hne (by simp; exact ⟨hne, fun z => ae z.symm⟩) fun y h' tk hy ho st' hT hsz hk => ?_
    have ey : y = u := by
      have : its[i]? = some y := by simpa using hy
      rw [hu] at this
      exact (Option.some.inj this).symm
    subst ey
    obtain ⟨hit', tup'⟩ := st'
    refine ⟨_, rfl, wpAny_letOwnedTupleGo_enum (s := { s with heap := h', toks := tk + 1 }) ho fun h2 he2 sb => ?_⟩
    have hT2 : h2.get? s.heap.objs.size = some { cls := .type "tuple", data := .seq #[.int i tk, y] } := (sb.2 _ (Nat.ne_of_gt le)).trans hT
    have made : ObjOk X.prog X.w (upd H s.heap.objs.size (.tup [.int (i : Nat), x])) h2 s.heap.objs.size (.tup [.int (i : Nat), x]) :=
      ⟨by show 2 ≤ sizeLine; decide, [.int i tk, y], .cons ⟨_, rfl⟩ (.cons ru .nil), ⟨_, hT2, rfl, _, rfl⟩⟩
    have I1 : Inv X pins σ (upd H s.heap.objs.size (.tup [.int (i : Nat), x])) { s with heap := h2, toks := tk + 1 } :=
      I.turnedNew (ch := [e, it]) (fun b ob hb q => (sb.2 b (fun z => hb (by simp [z]))).trans (hk b ob (fun z => hb (by simp [z])) (fun z => hb (by simp [z])) q)) hf (Nat.le_refl _) made
    refine ⟨.ref s.heap.objs.size, _, I1, rfl, ⟨_, x, rfl, I.hok.fresh (Nat.le_refl _), rfl, fun ys hy => by rw [I.tuple_inj hy hq]; exact hx⟩, ⟨⟨y, ?_⟩, hit'.at fun o q => (sb.2 it (Ne.symm hne)).trans q, hne⟩, fun b hb => ?_⟩
    · rw [show ((i + 1 : Nat) : Int) = (i : Int) + 1 by omega]
      exact he2
    · have lb : b < s.heap.objs.size := by
        rcases (by simpa using hb : b = e ∨ b = it) with z | z
        · rw [z]; exact le
        · rw [z]; exact li
      rw [upd_ne (Nat.ne_of_lt lb)]
      exact (hf b hb).1
  done := by
    intro X hP hw hK hc i pins s σ H E I hf st hg
    subst hP hw hK
    obtain ⟨⟨old, he⟩, hit, hne⟩ := st
    obtain ⟨xs, hq, hx⟩ := hg
    obtain ⟨its, rv, p, hz⟩ := I.tuple hq
    obtain ⟨f0, f1, f2, f3, f4, f5⟩ := hf it (by simp)
    have hl := rv.length
    have tup : s.heap.IsTuple a its.toArray := p
    unfold pyNext
    refine wpAny_bind (wpAny_attempt (wpAny_callSpecial?_slot (name := Str.ofString "__next__") ⟨_, he, rfl⟩ F.slot_enumerate_next
      (wpAny_call_entry F.slot_enumerate_next ⟨_, he, rfl⟩ F.entry_enumerate_next ?_ (F.args_enumerate_next_1 _))))
    show wpAny _ _ (field (.ref e) 2 >>= _) _ _ _
    refine wpAny_bind (wpAny_field he rfl (x := .ref it) rfl ?_)
    refine wpAny_bind (wpAny_nextOf_tuple_end (I.ok.hd hc) hit tup (by simp; omega) fun h' ex eb so => ?_)
    obtain ⟨o, ho, hcs⟩ := so
    refine wpAny_bind (wpAny_isInstance (T := "StopIteration") (b := true) ⟨o, ho, hcs⟩ isSubtype_stop ?_)
    exact wpAny_pure ⟨rfl, I.turned (t' := s.toks) (fun b o hb q => eb b o hb q) f0 f1 f3 f4 f5⟩
  self := fun A i s Q E st h => let ⟨⟨_, he⟩, _⟩ := st; wpAny_pyIter_enum he h
def iEnumT (K : PySem.W.Frag) (ta : TA) : TI := fun σ H R => ta σ H fun vs H1 => ∃ a xs, vs = [.ref a] ∧ SqT K H1 a xs ∧ R (Itn K a) H1
theorem pi_enumT {X : Cx} {e : Expr} {ta : TA} {p pos at_ : Pos} {parts : List Expr} {n : Nat} (hg : Gl X "enumerate") (hm : X.mg "enumerate" = none) (ha : PA X [e] ta) (hs : starEach [e] X.env = [(false, eval e X.env)] := by rfl) :
    PI X (.Tuple parts n at_) (.Call (.Name "enumerate" p) [e] [] pos) (iEnumT X.K ta) := by
  refine ⟨fun pins s σ H R I h => ?_⟩
  refine Call_ (ld_blt I hg hm boot_enumerate (PyProof.Rows.callWith_type1 (thn (ha.run pos pins s σ H _ I h) fun us s1 ⟨vs, H1, I1, r1, a, xs, ex, hq, q⟩ => ?_) hs rfl))
  subst ex
  cases r1 with
  | cons r rr =>
    cases rr
    cases r
    obtain ⟨its, rv, p', hz⟩ := I1.tuple hq
    have tup : s1.heap.IsTuple a its.toArray := p'
    refine enum_call (begins_tuple a its.toArray) tup fun h' he hi hk => wpAny_pyIter_enum he ?_
    have I2 : Inv X pins σ H1 { s1 with heap := h' } := I1.kept (t' := s1.toks) hk
    refine ⟨s1.heap.objs.size + 1, [s1.heap.objs.size + 1, s1.heap.objs.size], _, _, H1, rfl, I2, turn_enumT a (s1.heap.objs.size + 1) s1.heap.objs.size, ⟨⟨.none, he⟩, ⟨_, hi, rfl, rfl⟩, Nat.succ_ne_self _⟩, fun b hb => ?_, q⟩
    have lb : s1.heap.objs.size ≤ b := by
      rcases (by simpa using hb : b = s1.heap.objs.size + 1 ∨ b = s1.heap.objs.size) with z | z
      · rw [z]; exact Nat.le_add_right _ _
      · rw [z]; exact Nat.le_refl _
    exact I1.fpOk lb (I1.hok.fresh lb)
/-- for i, x in enumerate(t): body told by what holds ahead of each turn -/
theorem for_enumT {K : PySem.W.Frag} {a : Addr} {xs : List V} {g : TG} {tb : TS} {D : Ends} {σ : L2.St} {H : Hp} (Pv : Nat → L2.St → Hp → Prop) (h0 : Pv 0 σ H) (hl : ∀ i σ H, i ≤ xs.length → Pv i σ H → SqT K H a xs)
    (hs : ∀ i x σ H T, xs[i]? = some x → Pv i σ H → H T = none → g (.ref T) σ (upd H T (.tup [.int (i : Nat), x])) fun σ2 H2 => tb { D with nx := Pv (i + 1), ct := Pv (i + 1), bk := D.nx } σ2 H2) (hd : ∀ σ H, Pv xs.length σ H → D.nx σ H) :
    ∃ W : Nat → Nat → L2.St → Hp → Prop, (∃ m, W 0 m σ H) ∧ ∀ i m σ H, W i m σ H →
      ((Itn K a).stop i H ∧ D.nx σ H) ∨ ((Itn K a).go i H ∧ ∃ N : L2.St → Hp → Prop, (∀ σ' H', N σ' H' → ∃ m', m' < m ∧ W (i + 1) m' σ' H') ∧ ∀ x H', (Itn K a).yld i H x H' → g x σ H' fun σ2 H2 => tb { D with nx := N, ct := N, bk := D.nx } σ2 H2) := by
  refine ⟨fun i m σ H => m + i = xs.length ∧ Pv i σ H, ⟨xs.length, rfl, h0⟩, fun i m σ H z => ?_⟩
  obtain ⟨hm, p⟩ := z
  have q := hl i σ H (by omega) p
  cases m with
  | zero =>
    have e : i = xs.length := by omega
    subst e
    exact .inl ⟨⟨xs, q, Nat.le_refl _⟩, hd _ _ p⟩
  | succ m =>
    have lt : i < xs.length := by omega
    refine .inr ⟨⟨xs, xs[i], q, by simp [lt]⟩, Pv (i + 1), fun σ' H' p' => ⟨m, Nat.lt_succ_self _, by omega, p'⟩, fun v H' y => ?_⟩
    obtain ⟨T, x, rfl, hT, rfl, hx⟩ := y
    exact hs i x σ H T (hx xs q) p hT
end Lamp
set_option Elab.async false
set_option linter.all false
set_option maxRecDepth 100000
set_option maxHeartbeats 1000000
namespace Lamp
open PySem PySem.Spec PyProof.Rows L2 LamX
/-! values of any kind -/
inductive T
  | non
  | bl (b : Bool)
  | int (i : Int)
  | str (x : Str)
  | tup (ts : List T)
  | lst
  | dct
mutual
inductive An (K : PySem.W.Frag) (H : Hp) : V → T → Prop
  | non : An K H .non .non
  | bl (b : Bool) : An K H (.bl b) (.bl b)
  | int (i : Int) : An K H (.int i) (.int i)
  | str (x : Str) : An K H (.str x) (.str x)
  | tup {a : Addr} {xs : List V} {ts : List T} : SqT K H a xs → AnAll K H xs ts → An K H (.ref a) (.tup ts)
  | lst {a : Addr} {xs : List V} : SqL K H a xs → An K H (.ref a) .lst
  | dct {a : Addr} {kvs : List (Key × V)} : H a = some (.dK kvs) → An K H (.ref a) .dct
inductive AnAll (K : PySem.W.Frag) (H : Hp) : List V → List T → Prop
  | nil : AnAll K H [] []
  | cons {v : V} {vs : List V} {t : T} {ts : List T} : An K H v t → AnAll K H vs ts → AnAll K H (v :: vs) (t :: ts)
end
theorem sqT_ext {K : PySem.W.Frag} {H H' : Hp} {a : Addr} {xs : List V} (e : ExtN H H') (h : SqT K H a xs) : SqT K H' a xs := by
  rcases h with (h | ⟨o, h⟩) | h
  · exact .inl (.inl (e _ _ h fun _ z => by cases z))
  · exact .inl (.inr ⟨o, e _ _ h fun _ z => by cases z⟩)
  · exact .inr h
theorem sqL_ext {K : PySem.W.Frag} {H H' : Hp} {a : Addr} {xs : List V} (e : ExtN H H') (h : SqL K H a xs) : SqL K H' a xs := by
  rcases h with (h | ⟨o, h⟩) | h
  · exact .inl (.inl (e _ _ h fun _ z => by cases z))
  · exact .inl (.inr ⟨o, e _ _ h fun _ z => by cases z⟩)
  · exact .inr h
mutual
theorem an_ext {K : PySem.W.Frag} {H H' : Hp} (e : ExtN H H') : ∀ (t : T) (v : V), An K H v t → An K H' v t
  | .non, _, h => by cases h; exact .non
  | .bl _, _, h => by cases h; exact .bl _
  | .int _, _, h => by cases h; exact .int _
  | .str _, _, h => by cases h; exact .str _
  | .lst, _, h => by
    cases h with
    | lst hs => exact .lst (sqL_ext e hs)
  | .dct, _, h => by
    cases h with
    | dct hs => exact .dct (e _ _ hs fun _ z => by cases z)
  | .tup ts, _, h => by
    cases h with
    | tup hs ha => exact .tup (sqT_ext e hs) (anAll_ext e ts _ ha)
theorem anAll_ext {K : PySem.W.Frag} {H H' : Hp} (e : ExtN H H') : ∀ (ts : List T) (vs : List V), AnAll K H vs ts → AnAll K H' vs ts
  | [], _, h => by cases h; exact .nil
  | t :: ts, _, h => by
    cases h with
    | cons h1 h2 => exact .cons (an_ext e t _ h1) (anAll_ext e ts _ h2)
theorem dp_ext {K : PySem.W.Frag} {H H' : Hp} (e : ExtN H H') : ∀ (d : PyData) (v : V), Dp K H v d → Dp K H' v d
  | .none, _, h => by cases h; exact .non
  | .bool _, _, h => by cases h; exact .bl _
  | .int _, _, h => by cases h; exact .int _
  | .str _, _, h => by cases h; exact .str _
  | .list ds, _, h => by
    cases h with
    | lst hs ha => exact .lst (sqL_ext e hs) (dpAll_ext e ds _ ha)
  | .tuple ds, _, h => by
    cases h with
    | tup hs ha => exact .tup (sqT_ext e hs) (dpAll_ext e ds _ ha)
  | .dict _, _, h => by cases h
theorem dpAll_ext {K : PySem.W.Frag} {H H' : Hp} (e : ExtN H H') : ∀ (ds : List PyData) (vs : List V), DpAll K H vs ds → DpAll K H' vs ds
  | [], _, h => by cases h; exact .nil
  | d :: ds, _, h => by
    cases h with
    | cons h1 h2 => exact .cons (dp_ext e d _ h1) (dpAll_ext e ds _ h2)
end
theorem ext_same {H H' : Hp} (e : Same H H') : ExtN H H' := ExtN.of e
theorem dq_ext {K : PySem.W.Frag} {H H' : Hp} (e : ExtN H H') {d : PyData} {v : V} (h : Dq K H v d) : Dq K H' v d := by
  cases h with
  | plain h => exact .plain (dp_ext e d v h)
  | dict h1 h2 => exact .dict (e _ _ h1 fun _ z => by cases z) h2
theorem an_same {K : PySem.W.Frag} {H H' : Hp} (e : Same H H') {t : T} {v : V} (h : An K H v t) : An K H' v t := an_ext (ext_same e) t v h
theorem anAll_same {K : PySem.W.Frag} {H H' : Hp} (e : Same H H') {ts : List T} {vs : List V} (h : AnAll K H vs ts) : AnAll K H' vs ts := anAll_ext (ext_same e) ts vs h
theorem Pail.ext {H H' : Hp} {p : Addr} (h : Pail H p) (s : ExtN H H') : Pail H' p := by
  obtain ⟨x, y, z, e, r⟩ := h
  exact ⟨x, y, z, s _ _ e (fun _ z => by cases z), r⟩
/-- all but p and the tables stands as it stood -/
def ButN (p : Addr) (H H' : Hp) : Prop := ExtN (delH H p) (delH H' p)
theorem ButN.of {p : Addr} {H H' : Hp} (b : But p H H') : ButN p H H' := ext_same b.del
theorem ButN.trans {p : Addr} {H H1 H2 : Hp} (a : ButN p H H1) (b : ButN p H1 H2) : ButN p H H2 := ExtN.trans a b
theorem ButN.ext {p : Addr} {H H' : Hp} (e : ExtN H H') : ButN p H H' := fun a o h n => by
  by_cases z : a = p
  · rw [z, delH_same] at h; cases h
  · rw [delH_ne z] at h ⊢
    exact e a o h n
/-! data among them -/
mutual
def tOf : PyData → T
  | .none => .non
  | .bool b => .bl b
  | .int i => .int i
  | .str x => .str x
  | .tuple ds => .tup (tOfAll ds)
  | .list _ => .lst
  | .dict _ => .dct
def tOfAll : List PyData → List T
  | [] => []
  | d :: ds => tOf d :: tOfAll ds
end
mutual
theorem an_dp {K : PySem.W.Frag} {H : Hp} : ∀ (d : PyData) (v : V), Dp K H v d → An K H v (tOf d)
  | .none, _, h => by cases h; simp only [tOf]; exact .non
  | .bool _, _, h => by cases h; simp only [tOf]; exact .bl _
  | .int _, _, h => by cases h; simp only [tOf]; exact .int _
  | .str _, _, h => by cases h; simp only [tOf]; exact .str _
  | .list ds, _, h => by
    cases h with
    | lst hs ha => simp only [tOf]; exact .lst hs
  | .tuple ds, _, h => by
    cases h with
    | tup hs ha => simp only [tOf]; exact .tup hs (anAll_dp ds _ ha)
  | .dict _, _, h => by cases h
theorem anAll_dp {K : PySem.W.Frag} {H : Hp} : ∀ (ds : List PyData) (vs : List V), DpAll K H vs ds → AnAll K H vs (tOfAll ds)
  | [], _, h => by cases h; simp only [tOfAll]; exact .nil
  | d :: ds, _, h => by
    cases h with
    | cons h1 h2 => simp only [tOfAll]; exact .cons (an_dp d _ h1) (anAll_dp ds _ h2)
end
theorem an_dq {K : PySem.W.Frag} {H : Hp} {d : PyData} {v : V} (h : Dq K H v d) : An K H v (tOf d) := by
  cases h with
  | plain h => exact an_dp d v h
  | dict h1 h2 => simp only [tOf]; exact .dct h1
/-! rows of them -/
section
variable {K : PySem.W.Frag} {H : Hp}
theorem anAll_len : ∀ {ts : List T} {vs : List V}, AnAll K H vs ts → vs.length = ts.length
  | [], _, h => by cases h; rfl
  | t :: ts, _, h => by
    cases h with
    | cons h1 h2 => rw [List.length_cons, List.length_cons, anAll_len h2]
theorem anAll_get : ∀ {ts : List T} {vs : List V} {i : Nat} {v : V}, AnAll K H vs ts → vs[i]? = some v → ∃ t, ts[i]? = some t ∧ An K H v t
  | [], _, _, _, h, e => by cases h; simp at e
  | t :: ts, _, i, v, h, e => by
    cases h with
    | @cons v' vs' _ _ h1 h2 =>
      cases i with
      | zero => simp only [List.getElem?_cons_zero] at e ⊢; cases e; exact ⟨t, rfl, h1⟩
      | succ i => simp only [List.getElem?_cons_succ] at e ⊢; exact anAll_get h2 e
theorem anAll_take : ∀ (n : Nat) {ts : List T} {vs : List V}, AnAll K H vs ts → AnAll K H (vs.take n) (ts.take n)
  | 0, _, _, _ => by simp only [List.take_zero]; exact .nil
  | n + 1, _, _, .nil => .nil
  | n + 1, _, _, .cons h t => .cons h (anAll_take n t)
theorem anAll_drop : ∀ (n : Nat) {ts : List T} {vs : List V}, AnAll K H vs ts → AnAll K H (vs.drop n) (ts.drop n)
  | 0, _, _, h => h
  | n + 1, _, _, .nil => .nil
  | n + 1, _, _, .cons _ t => anAll_drop n t
theorem anAll_app : ∀ {ts us : List T} {vs ws : List V}, AnAll K H vs ts → AnAll K H ws us → AnAll K H (vs ++ ws) (ts ++ us)
  | _, _, _, _, .nil, s => s
  | _, _, _, _, .cons r t, s => .cons r (anAll_app t s)
theorem anAll_rev : ∀ {ts : List T} {vs : List V}, AnAll K H vs ts → AnAll K H vs.reverse ts.reverse
  | _, _, .nil => .nil
  | _, _, .cons r t => by rw [List.reverse_cons, List.reverse_cons]; exact anAll_app (anAll_rev t) (.cons r .nil)
end
/-! how deep, how long, how great they are -/
def Fits (w : Nat) (b : Int) : Nat → T → Prop
  | _, .int i => -b ≤ i ∧ i ≤ b
  | 0, .tup ts => ts = []
  | n + 1, .tup ts => ts.length ≤ w ∧ ∀ t ∈ ts, Fits w b n t
  | _, _ => True
theorem fits_int {w n : Nat} {b i : Int} : Fits w b n (.int i) = (-b ≤ i ∧ i ≤ b) := by cases n <;> rfl
theorem fits_non {w n : Nat} {b : Int} : Fits w b n .non := by cases n <;> exact True.intro
theorem fits_bl {w n : Nat} {b : Int} {c : Bool} : Fits w b n (.bl c) := by cases n <;> exact True.intro
theorem fits_str {w n : Nat} {b : Int} {x : Str} : Fits w b n (.str x) := by cases n <;> exact True.intro
theorem fits_lst {w n : Nat} {b : Int} : Fits w b n .lst := by cases n <;> exact True.intro
theorem fits_dct {w n : Nat} {b : Int} : Fits w b n .dct := by cases n <;> exact True.intro
theorem fits_tup {w n : Nat} {b : Int} {ts : List T} (h : Fits w b n (.tup ts)) : ts = [] ∨ ∃ m, n = m + 1 ∧ ts.length ≤ w ∧ ∀ t ∈ ts, Fits w b m t := by
  cases n with
  | zero => exact .inl h
  | succ m => exact .inr ⟨m, rfl, h⟩
theorem fits_mono {w w' : Nat} {b b' : Int} (hw : w ≤ w') (hb : b ≤ b') : ∀ (n n' : Nat) (t : T), n ≤ n' → Fits w b n t → Fits w' b' n' t := by
  intro n
  induction n with
  | zero =>
    intro n' t hn h
    cases t with
    | int i => rw [fits_int] at h ⊢; omega
    | tup ts =>
      have e : ts = [] := h
      subst e
      cases n' with
      | zero => rfl
      | succ m => exact ⟨Nat.zero_le _, fun t ht => by cases ht⟩
    | non => exact fits_non
    | bl _ => exact fits_bl
    | str _ => exact fits_str
    | lst => exact fits_lst
    | dct => exact fits_dct
  | succ n ih =>
    intro n' t hn h
    cases t with
    | int i => rw [fits_int] at h ⊢; omega
    | tup ts =>
      obtain ⟨l, all⟩ := h
      cases n' with
      | zero => omega
      | succ m => exact ⟨by omega, fun t ht => ih m t (by omega) (all t ht)⟩
    | non => exact fits_non
    | bl _ => exact fits_bl
    | str _ => exact fits_str
    | lst => exact fits_lst
    | dct => exact fits_dct
end Lamp
set_option Elab.async false
set_option linter.all false
set_option maxRecDepth 100000
set_option maxHeartbeats 1000000
namespace Lamp
open PySem PySem.Spec PyProof.Rows L2 LamX HT
/-! a tuple read backwards -/
theorem rev_places (n : Nat) : Builtin.Slice.slicePlaces ((n : Int) - 1) (-1) (-1) = n := by
  unfold Builtin.Slice.slicePlaces
  have h1 : ¬ (-1 : Int) > 0 := by omega
  simp only [h1, if_false]
  by_cases h : (n : Int) - 1 > -1
  · simp only [h, if_true]
    have e : -(-1 : Int) = 1 := by decide
    rw [e, Int.ediv_one]
    omega
  · simp only [h, if_false]
    omega
theorem fm_same {α β : Type} {f g : α → Option β} : ∀ {l : List α}, (∀ a ∈ l, f a = g a) → l.filterMap f = l.filterMap g
  | [], _ => rfl
  | a :: r, h => by rw [List.filterMap_cons, List.filterMap_cons, h a (List.mem_cons_self ..), fm_same fun b hb => h b (List.mem_cons_of_mem _ hb)]
theorem rev_pick (xs : Array Value) : ((List.range xs.size).filterMap fun (m : Nat) => xs[(((xs.size : Int) - 1) + (m : Int) * (-1)).toNat]?).toArray = xs.toList.reverse.toArray := by
  have e : ((List.range xs.size).filterMap fun (m : Nat) => xs[(((xs.size : Int) - 1) + (m : Int) * (-1)).toNat]?) = ((List.range xs.size).map (fun k => xs.size - 1 - k)).filterMap (xs[·]?) := by
    rw [List.filterMap_map]
    refine fm_same fun m hm => ?_
    have lt := List.mem_range.mp hm
    have e : (((xs.size : Int) - 1) + (m : Int) * (-1)).toNat = xs.size - 1 - m := by omega
    show xs[(((xs.size : Int) - 1) + (m : Int) * (-1)).toNat]? = xs[xs.size - 1 - m]?
    rw [e]
  rw [e, PySem.W.krv_range, List.filterMap_reverse, PySem.W.krv_all]
section
variable {prog : Program} {w : World} {A : Around} {E : Value → Shared → Prop} {s : Shared}
theorem applied_rev {sl : Addr} {vk : Value} {n : Nat} {Q : Int × Int × Nat → Shared → Prop} (hs : s.heap.IsSliceOf sl .none .none vk) (pk : IsPart vk (some (-1))) (h : Q ((n : Int) - 1, -1, n) s) : wpAny (model prog w) A (Builtin.Slice.sliceApplied (.ref sl) (pure (n : Int))) Q E s := by
  obtain ⟨ob, there, _, parts⟩ := id hs
  unfold Builtin.Slice.sliceApplied Builtin.Slice.sliceFields
  refine wpAny_bind (wpAny_bind (wpAny_field there parts (x := .none) rfl (wpAny_bind (wpAny_field there parts (x := .none) rfl (wpAny_bind (wpAny_field there parts (x := vk) rfl (wpAny_pure ?_)))))))
  refine wpAny_bind (slicePart_ pk ?_)
  show wpAny _ _ (if ((-1 : Int) == 0) = true then _ else _) _ _ s
  rw [if_neg (by decide)]
  refine wpAny_bind (slicePart_none (wpAny_bind (slicePart_none (wpAny_bind (wpAny_pure ?_)))))
  show wpAny _ _ (pure (((n : Int) - 1), (-1 : Int), Builtin.Slice.slicePlaces ((n : Int) - 1) (-1) (-1))) _ _ s
  rw [rev_places]
  exact wpAny_pure h
theorem item_rev {t sl : Addr} {items : Array Value} {vk : Value} {Q : Value → Shared → Prop} (ht : IsTup s.heap t items) (hs : s.heap.IsSliceOf sl .none .none vk) (pk : IsPart vk (some (-1))) (hz : items.size ≤ sizeLine)
    (h : Q (.ref s.heap.objs.size) { s with heap := s.heap.push { cls := .type "tuple", data := .seq items.toList.reverse.toArray } }) : wpAny (model prog w) A (getItem (.ref t) (.ref sl)) Q E s := by
  have fits : sizeOk (.seq items.toList.reverse.toArray) := by
    show items.toList.reverse.toArray.size ≤ sizeLine
    rw [List.size_toArray, List.length_reverse, Array.length_toList]
    exact hz
  obtain ⟨ob, there, isSl, _⟩ := id hs
  have slT : s.TypeIs (.ref sl) "slice" := ⟨ob, there, isSl⟩
  unfold getItem
  try with_reducible refine wpAny_holding ?_
  first | refine wpAny_bind (wpAny_pure ?_) | skip
  refine wpAny_bind (wpAny_sequenceKey ht.typeIs (by decide) ?_)
  refine wpAny_bind (wpAny_callSpecial?_slot (name := Str.ofString "__getitem__") ht.typeIs PyProof.Rows.slot_tuple_getitem (wpAny_call_entry PyProof.Rows.slot_tuple_getitem ht.typeIs entry_tuple_getitem ?_ (args_tuple_getitem _ _)))
  show wpAny _ _ (Builtin.Tuple.tupleItemsOf (.ref t) >>= _) _ _ s
  refine wpAny_bind (tupleItemsOf_ ht (wpAny_bind (wpAny_typeOf slT ?_)))
  rw [if_pos (by decide)]
  refine wpAny_bind (applied_rev hs pk ?_)
  have no : ¬ (((items.size : Int) - 1 == 0 && (-1 : Int) == 1 && items.size == items.size) = true) := by
    have e : ((-1 : Int) == 1) = false := by decide
    rw [e, Bool.and_false, Bool.false_and]
    decide
  show wpAny _ _ (if (((items.size : Int) - 1) == 0 && (-1 : Int) == 1 && items.size == items.size) = true then _ else _) _ _ s
  rw [if_neg no, rev_pick]
  first
    | exact wpAny_bind (m := Builtin.Tuple.tupleExact _) (wpAny_newObj_type (wpAny_pure ⟨_, rfl, wpAny_pure h⟩) fits)
    | exact wpAny_bind (m := Builtin.Tuple.tupleExact _) (wpAny_newObj_type (wpAny_bind (wpAny_pure (wpAny_pure ⟨_, rfl, wpAny_pure h⟩))) fits)
    | exact wpAny_bind (wpAny_bind (m := Builtin.Tuple.tupleExact _) (wpAny_newObj_type (wpAny_pure (wpAny_pure ⟨_, rfl, wpAny_pure h⟩)) fits))
    | exact wpAny_bind (wpAny_bind (m := Builtin.Tuple.tupleExact _) (wpAny_newObj_type (wpAny_pure ⟨_, rfl, wpAny_pure h⟩) fits))
end
def tRevT (K : PySem.W.Frag) (te : TE) : TE := fun σ H Q => te σ H fun x H1 => ∃ a xs, x = .ref a ∧ SqT K H1 a xs ∧ ∀ p, H1 p = none → Q (.ref p) (upd H1 p (.tup xs.reverse))
theorem pe_revT {X : Cx} {e : Expr} {te : TE} {k : Nat} {p1 p2 p3 pos : Pos} (he : PE X e te) : PE X (.Subscript e (.Slice none none (some (.UnaryOp .USub (.Constant (.int 1) k p1) p2)) p3) pos) (tRevT X.K te) := by
  refine ⟨fun pins s σ H Q I told => Subscript_ (thn (he.run pins s σ H _ I told) fun v s1 ⟨x, H1, I1, r1, a, xs, ex, hx, q⟩ => ?_)⟩
  subst ex
  cases r1
  have step : PO X (some (.UnaryOp .USub (.Constant (.int 1) k p1) p2)) (tPart (tUn (rU fun i => .int (-i)) (tC (.int 1)))) := po_some (pe_un un_neg pe_int)
  refine wpAny_Slice (thn (po_none.run pins s1 σ H1 (fun o H2 => o = none ∧ H2 = H1) I1 ⟨rfl, rfl⟩) fun vl s2 ⟨l, H2, I2, pl, el, e2⟩ => ?_)
  subst el e2
  refine thn (po_none.run pins s2 σ H2 (fun o H3 => o = none ∧ H3 = H2) I2 ⟨rfl, rfl⟩) fun vu s3 ⟨u, H3, I3, pu, eu, e3⟩ => ?_
  subst eu e3
  refine thn (step.run pins s3 σ H3 (fun o H4 => o = some (-1) ∧ H4 = H3) I3 ⟨1, rfl, -1, rfl, rfl, rfl⟩) fun vs s4 ⟨o, H4, I4, ps, eo, e4⟩ => ?_
  subst eo e4
  cases pl
  cases pu
  have I5 : Inv X pins σ H4 { s4 with heap := s4.heap.push { cls := .type "slice", data := .fields #[.none, .none, vs] } } := I4.kept (t' := s4.toks) fun b ob q => Heap.get?_push_of_some _ q
  obtain ⟨its, r, ht, hz⟩ := I5.tuple hx
  have hlen := r.length
  show wpAny (model X.prog X.w) X.A (subscriptTail e (.Slice none none (some (.UnaryOp .USub (.Constant (.int 1) k p1) p2)) p3) (.ref a) (.ref s4.heap.objs.size)) (EP X pins σ Q) X.xe { s4 with heap := s4.heap.push { cls := .type "slice", data := .fields #[.none, .none, vs] } }
  refine tail_any (ops := [.ref a, .ref s4.heap.objs.size]) ht.typeIs (PyProof.Rows.slot_tuple_getitem.lookup) ?_ (by with_unfolding_all rfl)
  refine item_rev ht (Heap.IsSliceOf.new _ .none .none vs) ps (by rw [List.size_toArray]; omega) ?_
  refine ⟨.ref _, _, I5.laid (t' := s4.toks) (o := .tup xs.reverse) (fun b ob q => Heap.get?_push_of_some _ q) (Nat.le_refl _) ?_, rfl, q _ (I5.hok.fresh (Nat.le_refl _))⟩
  exact ⟨by rw [List.length_reverse]; exact hz, _, r.reverse, _, Heap.get?_push_size _ rfl, rfl, 0, rfl⟩
/-! isinstance of them -/
def isI : T → Bool
  | .int _ => true
  | .bl _ => true
  | _ => false
def isB : T → Bool
  | .bl _ => true
  | _ => false
def isT : T → Bool
  | .tup _ => true
  | _ => false
def whole : T → Bool
  | .int _ => true
  | _ => false
section
variable {K : PySem.W.Frag} {H : Hp} {σ : L2.St} {te : TE} {v : V} {t : T}
theorem ty_lst {a : Addr} {xs : List V} (h : SqL K H a xs) : TyX K H (.ref a) (.type "list") := by
  rcases h with (h | ⟨o, h⟩) | ⟨o, its, n, h, c, _⟩
  · exact .base (.lst h)
  · exact .base (.frz h)
  · exact .kList h c
theorem ty_tup {a : Addr} {xs : List V} (h : SqT K H a xs) : TyX K H (.ref a) (.type "tuple") := by
  rcases h with (h | ⟨o, h⟩) | ⟨o, its, n, h, c, _⟩
  · exact .base (.tup h)
  · exact .fTuple h
  · exact .kTuple h c
theorem isi_int (h : An K H v t) {Q : VK} (q : Q (.bl (isI t)) H) : rIsi K [v, .ty "int"] H Q := by
  cases h with
  | non => exact ⟨_, _, _, .type "int", false, rfl, .ty "int", .base .non, kit_ty (by decide +kernel), q⟩
  | bl b => exact ⟨_, _, _, .type "int", true, rfl, .ty "int", .base (.bl b), kit_ty (by decide +kernel), q⟩
  | int i => exact ⟨_, _, _, .type "int", true, rfl, .ty "int", .base (.int i), kit_ty (by decide +kernel), q⟩
  | str x => exact ⟨_, _, _, .type "int", false, rfl, .ty "int", .base (.str x), kit_ty (by decide +kernel), q⟩
  | tup h _ => exact ⟨_, _, _, .type "int", false, rfl, .ty "int", ty_tup h, kit_ty (by decide +kernel), q⟩
  | lst h => exact ⟨_, _, _, .type "int", false, rfl, .ty "int", ty_lst h, kit_ty (by decide +kernel), q⟩
  | dct h => exact ⟨_, _, _, .type "int", false, rfl, .ty "int", .base (.dK h), kit_ty (by decide +kernel), q⟩
theorem isi_bool (h : An K H v t) {Q : VK} (q : Q (.bl (isB t)) H) : rIsi K [v, .ty "bool"] H Q := by
  cases h with
  | non => exact ⟨_, _, _, .type "bool", false, rfl, .ty "bool", .base .non, kit_ty (by decide +kernel), q⟩
  | bl b => exact ⟨_, _, _, .type "bool", true, rfl, .ty "bool", .base (.bl b), kit_ty (by decide +kernel), q⟩
  | int i => exact ⟨_, _, _, .type "bool", false, rfl, .ty "bool", .base (.int i), kit_ty (by decide +kernel), q⟩
  | str x => exact ⟨_, _, _, .type "bool", false, rfl, .ty "bool", .base (.str x), kit_ty (by decide +kernel), q⟩
  | tup h _ => exact ⟨_, _, _, .type "bool", false, rfl, .ty "bool", ty_tup h, kit_ty (by decide +kernel), q⟩
  | lst h => exact ⟨_, _, _, .type "bool", false, rfl, .ty "bool", ty_lst h, kit_ty (by decide +kernel), q⟩
  | dct h => exact ⟨_, _, _, .type "bool", false, rfl, .ty "bool", .base (.dK h), kit_ty (by decide +kernel), q⟩
theorem isi_tuple (h : An K H v t) {Q : VK} (q : Q (.bl (isT t)) H) : rIsi K [v, .ty "tuple"] H Q := by
  cases h with
  | non => exact ⟨_, _, _, .type "tuple", false, rfl, .ty "tuple", .base .non, kit_ty (by decide +kernel), q⟩
  | bl b => exact ⟨_, _, _, .type "tuple", false, rfl, .ty "tuple", .base (.bl b), kit_ty (by decide +kernel), q⟩
  | int i => exact ⟨_, _, _, .type "tuple", false, rfl, .ty "tuple", .base (.int i), kit_ty (by decide +kernel), q⟩
  | str x => exact ⟨_, _, _, .type "tuple", false, rfl, .ty "tuple", .base (.str x), kit_ty (by decide +kernel), q⟩
  | tup h _ => exact ⟨_, _, _, .type "tuple", true, rfl, .ty "tuple", ty_tup h, kit_ty (by decide +kernel), q⟩
  | lst h => exact ⟨_, _, _, .type "tuple", false, rfl, .ty "tuple", ty_lst h, kit_ty (by decide +kernel), q⟩
  | dct h => exact ⟨_, _, _, .type "tuple", false, rfl, .ty "tuple", .base (.dK h), kit_ty (by decide +kernel), q⟩
theorem v_int (h : Val te σ H v) (a : An K H v t) : Val (tCB (rIsi K) (tCons te (tCons (tC (.ty "int")) tNil))) σ H (.bl (isI t)) := fun Q q => h _ (isi_int a q)
theorem v_bool (h : Val te σ H v) (a : An K H v t) : Val (tCB (rIsi K) (tCons te (tCons (tC (.ty "bool")) tNil))) σ H (.bl (isB t)) := fun Q q => h _ (isi_bool a q)
theorem v_tuple (h : Val te σ H v) (a : An K H v t) : Val (tCB (rIsi K) (tCons te (tCons (tC (.ty "tuple")) tNil))) σ H (.bl (isT t)) := fun Q q => h _ (isi_tuple a q)
/-- isinstance(v, int) and not isinstance(v, bool) -/
theorem whole_and (hI : Val te σ H v) (h : An K H v t) : Val (tAndV (tCB (rIsi K) (tCons te (tCons (tC (.ty "int")) tNil))) (tNotV (tCB (rIsi K) (tCons te (tCons (tC (.ty "bool")) tNil))))) σ H (.bl (whole t)) := by
  intro Q q
  refine v_int hI h _ ⟨isI t, rfl, ?_⟩
  cases t with
  | int i => exact iteT (v_bool hI h _ ⟨false, rfl, q⟩)
  | bl b => exact iteT (v_bool hI h _ ⟨true, rfl, q⟩)
  | non => exact iteF q
  | str x => exact iteF q
  | tup ts => exact iteF q
  | lst => exact iteF q
  | dct => exact iteF q
/-! parts of tuples, whatever they hold -/
theorem sl_anyT {a : Addr} {xs : List V} {lo hi : Option Int} {Q : VK} (h : SqT K H a xs) (k : ∀ b H', Same H H' → SqT K H' b (cutV xs lo hi) → Q (.ref b) H') : rSlA K (.ref a) lo hi H Q := by
  refine ⟨a, xs, rfl, h, fun w => ?_, fun _ p np => k p _ (same_of np) (SqT.of upd_same)⟩
  have e : cutV xs lo hi = xs := by
    unfold cutV
    rw [w.1, w.2]
    exact List.take_of_length_le (by rw [List.length_drop]; omega)
  exact k a H (Same.refl H) (by rw [e]; exact h)
theorem cat_anyT {a b : Addr} {xs ys : List V} {Q : VK} (h1 : SqT K H a xs) (h2 : SqT K H b ys) (hl : xs.length + ys.length ≤ sizeLine) (k : ∀ c H', Same H H' → SqT K H' c (xs ++ ys) → Q (.ref c) H') : rCatA K (.ref a) (.ref b) H Q := by
  refine ⟨a, b, xs, ys, rfl, rfl, h1, h2, hl, fun e => ?_, fun _ e => ?_, fun _ _ p np => k p _ (same_of np) (SqT.of upd_same)⟩
  · subst e
    exact k b H (Same.refl H) h2
  · subst e
    exact k a H (Same.refl H) (by rw [List.append_nil]; exact h1)
end
/-- t != (), whatever t holds -/
def rNeT0 (K : PySem.W.Frag) : R2 := fun x y H Q => ∃ (a b : Addr) (xs : List V), x = .ref a ∧ y = .ref b ∧ SqT K H a xs ∧ SqT K H b [] ∧ Q (.bl (!xs.isEmpty)) H
theorem op_neT0 {X : Cx} (hu : X.A.units < cLine) : OpR X (compareOp .NotEq) (rNeT0 X.K) := by
  intro pins s σ H x y v u Q I rx ry h
  obtain ⟨a, b, xs, rfl, rfl, ha, hb, q⟩ := h
  cases rx
  cases ry
  obtain ⟨its, r1, ⟨⟨c1, d1, t1, sl1⟩, ho1, hc1, n1, hd1⟩, _⟩ := I.tuple ha
  obtain ⟨its2, r2, ⟨⟨c2, d2, t2, sl2⟩, ho2, hc2, n2, hd2⟩, _⟩ := I.tuple hb
  cases r2
  simp only at hc1 hd1 hc2 hd2
  subst hc1 hd1 hc2 hd2
  refine richCompare_meets_room (op := .NotEq) ⟨_, ho1, rfl⟩ ⟨_, ho2, rfl⟩ PySem.F.slot_tuple_ne PySem.F.entry_tuple_ne (PySem.F.args_tuple_ne_2 _ _) (PySem.SeqAt.tuple_neAt a b its.toArray ([] : List Value).toArray n1 n2 d1 d2 sl1 sl2 (fun _ => true))
    ⟨ho1, ho2, fun j h1 h2 => absurd h2 (by simp), ?_⟩ hu
  have hlen := r1.length
  have e : (!((List.range (min its.toArray.size ([] : List Value).toArray.size)).all (fun _ => true) && its.toArray.size == ([] : List Value).toArray.size)) = !xs.isEmpty := by
    cases xs with
    | nil =>
      cases r1
      rfl
    | cons c r =>
      cases r1
      simp
  rw [e]
  exact ⟨(fun z => nomatch z), ⟨.bl (!xs.isEmpty), H, I, rfl, q⟩⟩
end Lamp
set_option Elab.async false
set_option linter.all false
set_option maxRecDepth 100000
set_option maxHeartbeats 1000000
namespace Lamp
open PySem PySem.Spec PyProof.Rows L2 LamX
abbrev sIsInt : Stmt := top 17
abbrev sIsLevels : Stmt := top 18
abbrev sIsLamp : Stmt := top 19
abbrev sWrong : Stmt := top 20
abbrev sWhole : Stmt := top 29
abbrev sIsLv : Stmt := top 35
abbrev sWrongs : Stmt := top 36
/-! what a value is, by the program and by the law -/
def lampOf (p : Int) : T → Option Int
  | .tup [.int a, .int b] => if 0 < b ∧ b < p then some a else none
  | _ => none
def badAt (p : Int) (ts : List T) (i : Nat) : Bool := match ts[i]?.bind (lampOf p) with
  | none => true
  | some a => decide (0 < i) && (match ts[i - 1]?.bind (lampOf p) with
    | some a' => decide (a ≤ a')
    | none => true)
def levelsB : T → Bool
  | .int i => decide (i = 2 ∨ i = 3 ∨ i = 5 ∨ i = 7)
  | _ => false
theorem lampOf_some {p a : Int} {t : T} (h : lampOf p t = some a) : ∃ b, t = .tup [.int a, .int b] ∧ 0 < b ∧ b < p := by
  unfold lampOf at h
  split at h
  · rename_i x y
    split at h
    · rename_i hc
      cases h
      exact ⟨y, rfl, hc⟩
    · cases h
  · cases h
theorem good_at {p : Int} {ts : List T} {i : Nat} (h : badAt p ts i = false) : ∃ a b, ts[i]? = some (.tup [.int a, .int b]) ∧ lampOf p (.tup [.int a, .int b]) = some a ∧ (0 < i → ∀ a', ts[i - 1]?.bind (lampOf p) = some a' → a' < a) := by
  unfold badAt at h
  split at h
  · cases h
  · rename_i a e
    cases e2 : ts[i]? with
    | none => rw [e2] at e; cases e
    | some t =>
      rw [e2] at e
      have e : lampOf p t = some a := e
      obtain ⟨b, rfl, h1⟩ := lampOf_some e
      refine ⟨a, b, rfl, e, fun hi a' ha' => ?_⟩
      rw [ha', decide_eq_true hi, Bool.true_and] at h
      have z := of_decide_eq_false h
      omega
def rV : Option Nat → V
  | none => .non
  | some i => .int (i : Int)
/-- the first bad one -/
def WJ (p : Int) (ts : List T) : Option Nat → Prop
  | none => ∀ i, i < ts.length → badAt p ts i = false
  | some i => i < ts.length ∧ badAt p ts i = true ∧ ∀ j, j < i → badAt p ts j = false
/-- the index that is told: the first bad one, or the 401st -/
def Judge (p : Int) (ts : List T) : Option Nat → Prop
  | none => ts.length ≤ 400 ∧ ∀ i, i < ts.length → badAt p ts i = false
  | some i => i < ts.length ∧ i ≤ 400 ∧ (∀ j, j < i → badAt p ts j = false) ∧ (i = 400 ∨ badAt p ts i = true)
theorem Judge.one {p : Int} {ts : List T} {r r' : Option Nat} (h : Judge p ts r) (h' : Judge p ts r') : r = r' := by
  cases r with
  | none =>
    cases r' with
    | none => rfl
    | some i =>
      obtain ⟨h1, h2⟩ := h
      obtain ⟨g1, g2, g3, g4⟩ := h'
      rcases g4 with g4 | g4
      · omega
      · rw [h2 i g1] at g4; cases g4
  | some j =>
    cases r' with
    | none =>
      obtain ⟨h1, h2⟩ := h'
      obtain ⟨g1, g2, g3, g4⟩ := h
      rcases g4 with g4 | g4
      · omega
      · rw [h2 j g1] at g4; cases g4
    | some i =>
      obtain ⟨h1, h2, h3, h4⟩ := h
      obtain ⟨g1, g2, g3, g4⟩ := h'
      rcases Nat.lt_trichotomy i j with z | z | z
      · rcases g4 with g4 | g4
        · omega
        · rw [h3 i z] at g4; cases g4
      · rw [z]
      · rcases h4 with h4 | h4
        · omega
        · rw [g3 j z] at h4; cases h4
theorem badAt_take {p : Int} {ts : List T} {n i : Nat} (h : i < n) : badAt p (ts.take n) i = badAt p ts i := by
  unfold badAt
  rw [List.getElem?_take_of_lt h, List.getElem?_take_of_lt (by omega)]
theorem Judge.of {p : Int} {ts : List T} {r : Option Nat} (h : WJ p (ts.take 400) r) : (r = none → 400 < ts.length → Judge p ts (some 400)) ∧ (r = none → ¬ 400 < ts.length → Judge p ts none) ∧ (∀ i, r = some i → Judge p ts (some i)) := by
  refine ⟨fun e l => ?_, fun e l => ?_, fun i e => ?_⟩
  · subst e
    refine ⟨l, by omega, fun j hj => ?_, .inl rfl⟩
    rw [← badAt_take hj]
    exact h j (by rw [List.length_take]; omega)
  · subst e
    refine ⟨by omega, fun j hj => ?_⟩
    rw [← badAt_take (n := 400) (by omega)]
    exact h j (by rw [List.length_take]; omega)
  · subst e
    obtain ⟨h1, h2, h3⟩ := h
    rw [List.length_take] at h1
    rw [badAt_take (by omega)] at h2
    refine ⟨by omega, by omega, fun j hj => ?_, .inr h2⟩
    rw [← badAt_take (n := 400) (by omega)]
    exact h3 j hj
/-! the program's -/
def spIsInt (K : PySem.W.Frag) : Sp := fun vs H Q _ => ∃ (v : V) (t : T), vs = [v] ∧ An K H v t ∧ Q (.bl (whole t)) H
def spIsLevels (K : PySem.W.Frag) : Sp := fun vs H Q _ => ∃ (v : V) (t : T), vs = [v] ∧ An K H v t ∧ Q (.bl (levelsB t)) H
def spIsLamp (K : PySem.W.Frag) : Sp := fun vs H Q _ => ∃ (lv : Int) (v : V) (t : T), vs = [.int lv, v] ∧ An K H v t ∧ Q (.bl (lampOf lv t).isSome) H
def spWrong (K : PySem.W.Frag) : Sp := fun vs H Q _ => ∃ (lv : Int) (a : Addr) (xs : List V) (ts : List T), vs = [.int lv, .ref a] ∧ SqT K H a xs ∧ AnAll K H xs ts ∧ ∀ r H', Same H H' → WJ lv ts r → Q (rV r) H'
section
variable {P : Program} {w : World} {K : PySem.W.Frag} {mg : Str → Option Value} {base : Heap}
theorem scIsInt : FnScope ["value"] ["value"] (defScope sIsInt) := ⟨rfl, rfl, rfl, by decide +kernel, rfl, by decide +kernel, by decide +kernel⟩
theorem scIsLevels : FnScope ["value"] ["value"] (defScope sIsLevels) := ⟨rfl, rfl, rfl, by decide +kernel, rfl, by decide +kernel, by decide +kernel⟩
theorem scIsLamp : FnScope ["levels", "value", "place", "level"] ["levels", "value"] (defScope sIsLamp) := ⟨rfl, rfl, rfl, by decide +kernel, rfl, by decide +kernel, by decide +kernel⟩
theorem scWrong : FnScope ["levels", "lamps", "index", "lamp"] ["levels", "lamps"] (defScope sWrong) := ⟨rfl, rfl, rfl, by decide +kernel, rfl, by decide +kernel, by decide +kernel⟩
theorem an_int {H : Hp} {v : V} {t : T} (h : An K H v t) (e : whole t = true) : ∃ i, v = .int i ∧ t = .int i := by
  cases h <;> first | exact ⟨_, rfl, rfl⟩ | cases e
theorem ok_isInt {f : Addr} {fd : FuncData} (F : Fun K "is_integer" "is_integer" sIsInt f fd) (mis : mg "isinstance" = none) (mi : mg "int" = none) (mb : mg "bool" = none) : FnOk P w K mg base CX0 1 f fd ["value"] (spIsInt K) := by
  refine F.ok scIsInt (fun vs H Q E h => ?_) (fun cdv A outer s H vs Q E hr h => ?_)
  · obtain ⟨v, t, rfl, _⟩ := h
    rfl
  · obtain ⟨v, t, rfl, ha, q⟩ := h
    refine ⟨_, pss_one (ps_ret (pe_and (pe_callB call_isi (by rfl) mis (by decide +kernel) (pa_cons (pv 0) (pa_cons (pe_bltn (v := .ty "int") (by rfl) mi (by decide +kernel) rfl) pa_nil)))
      (pe_one (pe_not (pe_callB call_isi (by rfl) mis (by decide +kernel) (pa_cons (pv 0) (pa_cons (pe_bltn (v := .ty "bool") (by rfl) mb (by decide +kernel) rfl) pa_nil))))))), ?_⟩
    exact st_ret (whole_and (val_var rfl) ha) q
theorem in_levels {i : Int} : inV (V.int i) [.int 2, .int 3, .int 5, .int 7] = decide (i = 2 ∨ i = 3 ∨ i = 5 ∨ i = 7) := by
  by_cases h : i = 2 ∨ i = 3 ∨ i = 5 ∨ i = 7
  · rw [decide_eq_true h]
    rcases h with rfl | rfl | rfl | rfl <;> decide
  · rw [decide_eq_false h]
    have h2 : i ≠ 2 := fun z => h (.inl z)
    have h3 : i ≠ 3 := fun z => h (.inr (.inl z))
    have h5 : i ≠ 5 := fun z => h (.inr (.inr (.inl z)))
    have h7 : i ≠ 7 := fun z => h (.inr (.inr (.inr z)))
    simp [inV, eqV, Ne.symm h2, Ne.symm h3, Ne.symm h5, Ne.symm h7]
theorem ok_isLevels {f aL : Addr} {fd : FuncData} (F : Fun K "is_levels" "is_levels" sIsLevels f fd) (I : Dr P w K mg base (spIsInt K) "is_integer" ["value"] 1) (mL : mg "LEVELS" = some (.ref aL)) (four : ∀ H, SqT K H aL [.int 2, .int 3, .int 5, .int 7]) : FnOk P w K mg base CX0 2 f fd ["value"] (spIsLevels K) := by
  refine F.ok scIsLevels (fun vs H Q E h => ?_) (fun cdv A outer s H vs Q E hr h => ?_)
  · obtain ⟨v, t, rfl, _⟩ := h
    rfl
  · obtain ⟨v, t, rfl, ha, q⟩ := h
    refine ⟨_, pss_one (ps_ret (pe_and (pe_dr I (Nat.le_refl _) hr rfl (pa_cons (pv 0) pa_nil)) (pe_one (pe_cmpR op_in_seq (pv 0) (pe_glob (v := .ref aL) rfl mL rfl) (by rfl))))), ?_⟩
    refine ⟨_, rfl, v, t, rfl, ha, whole t, rfl, ?_⟩
    cases e : whole t with
    | true =>
      obtain ⟨i, rfl, rfl⟩ := an_int ha e
      refine iteT ⟨_, rfl, aL, _, rfl, .inr (four H), rfl, by decide, ?_⟩
      rw [in_levels]
      exact q
    | false =>
      refine iteF ?_
      cases t with
      | int i => cases e
      | _ => exact q
theorem tup_two {H : Hp} {v : V} {ts : List T} (h : An K H v (.tup ts)) (e : ts.length = 2) : ∃ a x y t u, v = .ref a ∧ SqT K H a [x, y] ∧ ts = [t, u] ∧ An K H x t ∧ An K H y u := by
  cases h with
  | tup hs ha =>
    cases ha with
    | nil => cases e
    | cons h1 h2 =>
      cases h2 with
      | nil => cases e
      | cons h3 h4 =>
        cases h4 with
        | nil => exact ⟨_, _, _, _, _, rfl, hs, rfl, h1, h3⟩
        | cons _ _ => simp at e
theorem lampOf_two {lv : Int} {t u : T} : (lampOf lv (.tup [t, u])).isSome = (whole t && (whole u && (match u with | .int b => decide (0 < b ∧ b < lv) | _ => false))) := by
  cases t with
  | int a =>
    cases u with
    | int b =>
      show (if 0 < b ∧ b < lv then some a else none).isSome = _
      by_cases h : 0 < b ∧ b < lv
      · rw [if_pos h]
        simp [whole, h]
      · rw [if_neg h]
        simp only [whole, decide_eq_false h]
        rfl
    | _ => rfl
  | _ => cases u <;> rfl
theorem lampOf_len {lv : Int} {ts : List T} (h : ts.length ≠ 2) : lampOf lv (.tup ts) = none := by
  match ts, h with
  | [], _ => rfl
  | [_], _ => cases ‹T› <;> rfl
  | [_, _], h => exact absurd rfl h
  | _ :: _ :: _ :: _, _ =>
    unfold lampOf
    split
    · rename_i e; injection e with e; simp at e
    · rfl
theorem ok_isLamp {f : Addr} {fd : FuncData} (F : Fun K "is_lamp" "is_lamp" sIsLamp f fd) (I : Dr P w K mg base (spIsInt K) "is_integer" ["value"] 1) (mis : mg "isinstance" = none) (mt : mg "tuple" = none) (ml : mg "len" = none) : FnOk P w K mg base CX0 2 f fd ["levels", "value"] (spIsLamp K) := by
  refine F.ok scIsLamp (fun vs H Q E h => ?_) (fun cdv A outer s H vs Q E hr h => ?_)
  · obtain ⟨lv, v, t, rfl, _⟩ := h
    rfl
  · obtain ⟨lv, v, t, rfl, ha, q⟩ := h
    refine ⟨_, pss_cons (ps_if (PW.pt (pw_or (pt_not (pt_val (pe_callB call_isi (by rfl) mis (by decide +kernel) (pa_cons (pv 1) (pa_cons (pe_bltn (v := .ty "tuple") (by rfl) mt (by decide +kernel) rfl) pa_nil)))))
          (pw_or1 (pt_cmpR op_ne (pe_callB call_len_seq (by rfl) ml PySem.boot_len (pa_cons (pv 1) pa_nil)) pe_int (nomark _))))) (pss_one (ps_ret pe_bl)) pss_nil)
      (pss_cons (ps_asg (pv 1) (pg_tup rfl (pgs_cons (pg_name (i := 2) scIsLamp.nd rfl (.inl rfl)) (pgs_cons (pg_name (i := 3) scIsLamp.nd rfl (.inl rfl)) pgs_nil))))
      (pss_one (ps_ret (pe_and (pe_dr I (Nat.le_refl _) hr rfl (pa_cons (pv 2) pa_nil)) (pe_and (pe_dr I (Nat.le_refl _) hr rfl (pa_cons (pv 3) pa_nil)) (pe_one (pe_chain op_lt op_lt pe_int (pv 3) (pv 0)))))))), ?_⟩
    have noTup : isT t = false → lampOf lv t = none := fun e => by cases t <;> first | rfl | cases e
    cases ei : isT t with
    | false =>
      rw [noTup ei] at q
      refine sq_yes (ans_or1 (ans_not (b := false) (ans_val (by have z := v_tuple (K := K) (te := tVar 1) (σ := [some (V.int lv), some v, none, none]) (val_var rfl) ha; rw [ei] at z; exact z)))) ?_
      exact st_ret val_c q
    | true =>
      cases t with
      | tup ts =>
        obtain ⟨a, xs, rfl, hs, hall⟩ : ∃ a xs, v = .ref a ∧ SqT K H a xs ∧ AnAll K H xs ts := by
          cases ha with
          | tup h1 h2 => exact ⟨_, _, rfl, h1, h2⟩
        have hl := anAll_len hall
        have isTup : Ans (tNot (tB (tCB (rIsi K) (tCons (tVar 1) (tCons (tC (.ty "tuple")) tNil))))) [some (V.int lv), some (V.ref a), none, none] H false :=
          ans_not (b := true) (ans_val (v_tuple (t := .tup ts) (val_var rfl) ha))
        by_cases h2 : ts.length = 2
        · obtain ⟨a', x, y, t, u, ev, hs2, rfl, h3, h4⟩ := tup_two ha h2
          cases ev
          refine sq_no (ans_or isTup (ans_ne (x := .int 2) (y := .int 2) (fun Q q => ⟨_, rfl, a, _, rfl, .inr hs2, q⟩) val_c rfl rfl)) ?_
          refine ⟨_, rfl, a, _, rfl, hs2, rfl, _, _, rfl, _, _, rfl, rfl, ?_⟩
          rw [lampOf_two] at q
          refine ⟨_, rfl, x, t, rfl, h3, whole t, rfl, ?_⟩
          cases e1 : whole t with
          | false =>
            rw [e1] at q
            exact iteF q
          | true =>
            rw [e1, Bool.true_and] at q
            refine iteT ⟨_, rfl, y, u, rfl, h4, whole u, rfl, ?_⟩
            cases e2 : whole u with
            | false =>
              rw [e2] at q
              exact iteF q
            | true =>
              obtain ⟨b, rfl, rfl⟩ := an_int h4 e2
              rw [e2, Bool.true_and] at q
              refine iteT ⟨_, rfl, 0, b, rfl, rfl, decide (0 < b), rfl, ?_⟩
              have q : Q (.bl (decide (0 < b ∧ b < lv))) H := q
              by_cases h0 : 0 < b
              · rw [if_pos (decide_eq_true h0)]
                refine ⟨_, rfl, b, lv, rfl, rfl, ?_⟩
                have e : decide (0 < b ∧ b < lv) = decide (b < lv) := by simp [h0]
                rw [e] at q
                exact q
              · rw [if_neg (by rw [decide_eq_false h0]; decide)]
                have e : decide (0 < b ∧ b < lv) = false := decide_eq_false fun z => h0 z.1
                rw [e] at q
                exact q
        · rw [lampOf_len h2] at q
          refine sq_yes (ans_or isTup (ans_ne (x := .int (xs.length : Int)) (y := .int 2) (fun Q q => ⟨_, rfl, a, _, rfl, .inr hs, q⟩) val_c rfl ?_)) ?_
          · rw [decide_eq_false fun z => h2 (by have z := V.int.inj z; omega)]
            rfl
          · exact st_ret val_c q
      | _ => cases ei
end
end Lamp
set_option Elab.async false
set_option linter.all false
set_option maxRecDepth 100000
set_option maxHeartbeats 1000000
namespace Lamp
open PySem PySem.Spec PyProof.Rows L2 LamX
section
variable {P : Program} {w : World} {K : PySem.W.Frag} {mg : Str → Option Value} {base : Heap}
theorem good_val {H : Hp} {xs : List V} {ts : List T} {p : Int} {i : Nat} (h : AnAll K H xs ts) (hl : i < ts.length) (g : badAt p ts i = false) : ∃ (c : Addr) (a b : Int), xs[i]? = some (.ref c) ∧ SqT K H c [.int a, .int b] ∧ ts[i]?.bind (lampOf p) = some a ∧ ts[i]? = some (.tup [.int a, .int b]) := by
  obtain ⟨a, b, e1, e2, _⟩ := good_at g
  have hx : i < xs.length := by rw [anAll_len h]; exact hl
  obtain ⟨t, e3, an⟩ := anAll_get h (List.getElem?_eq_getElem hx)
  rw [e1] at e3
  cases e3
  obtain ⟨c, x, y, t, u, ev, hs, et, h3, h4⟩ := tup_two an rfl
  cases et
  cases h3
  cases h4
  refine ⟨c, a, b, by rw [List.getElem?_eq_getElem hx, ev], hs, by rw [e1]; exact e2, e1⟩
/-- whether the i-th one is bad, when it is a lamp and those ahead are not bad -/
theorem bad_by {p a a' : Int} {ts : List T} {i : Nat} (h : ts[i]?.bind (lampOf p) = some a) (h' : 0 < i → ts[i - 1]?.bind (lampOf p) = some a') : badAt p ts i = (decide (0 < i) && decide (a ≤ a')) := by
  unfold badAt
  rw [h]
  by_cases hi : 0 < i
  · rw [h' hi]
  · simp only [hi, decide_false, Bool.false_and]
theorem ok_wrong {f : Addr} {fd : FuncData} (F : Fun K "wrong_lamp" "wrong_lamp" sWrong f fd) (L : Dr P w K mg base (spIsLamp K) "is_lamp" ["levels", "value"] 2) (me : mg "enumerate" = none) : FnOk P w K mg base CX0 3 f fd ["levels", "lamps"] (spWrong K) := by
  refine F.ok scWrong (fun vs H Q E h => ?_) (fun cdv A outer s H vs Q E hr h => ?_)
  · obtain ⟨lv, a, xs, ts, rfl, _⟩ := h
    rfl
  · obtain ⟨lv, t, xs, ts, rfl, ht, hall, q⟩ := h
    have hlen := anAll_len hall
    refine ⟨_, pss_cons (ps_for PassesOwn.never rfl (pi_enumT rfl me (pa_cons (pv 1) pa_nil)) (pg_tup rfl (pgs_cons (pg_name (i := 2) scWrong.nd rfl (.inl rfl)) (pgs_cons (pg_name (i := 3) scWrong.nd rfl (.inl rfl)) pgs_nil)))
        (pss_cons (ps_if (pt_not (pt_val (pe_dr L (Nat.le_refl _) hr rfl (pa_cons (pv 0) (pa_cons (pv 3) pa_nil))))) (pss_one (ps_ret (pv 2))) pss_nil)
        (pss_one (ps_if (PW.pt (pw_and (pt_cmpR op_gt (pv 2) pe_int (nomark _)) (pw_and1 (pt_cmpR op_le (pe_ix ix_tup (pv 3) pe_int (fun _ _ => rfl)) (pe_ix ix_tup (pe_ix ix_tup (pv 1) (pe_op op_sub (pv 2) pe_int) (fun _ _ => rfl)) pe_int (fun _ _ => rfl)) (nomark _))))) (pss_one (ps_ret (pv 2))) pss_nil))))
      (pss_one (ps_ret pe_non)), ?_⟩
    refine ⟨_, rfl, t, _, rfl, ht, for_enumT (xs := xs) (fun i σ H' => ∃ x y, σ = [some (.int lv), some (.ref t), x, y] ∧ Same H H' ∧ i ≤ ts.length ∧ ∀ j, j < i → badAt lv ts j = false) ⟨_, _, rfl, Same.refl H, Nat.zero_le _, fun j hj => absurd hj (by omega)⟩ (fun i σ H' _ z => ?_) (fun i x σ H' Tp hx z hT => ?_) (fun σ H' z => ?_)⟩
    · obtain ⟨_, _, _, s, _⟩ := z
      exact same_seqT s ht
    · obtain ⟨x0, y0, rfl, s, _, ahead⟩ := z
      have s1 := s.trans (same_of (o := .tup [V.int (i : Nat), x]) hT)
      have hall1 := anAll_same s1 hall
      obtain ⟨u, eu, an⟩ := anAll_get hall1 hx
      have li : i < ts.length := (List.getElem?_eq_some_iff.mp eu).1
      refine ⟨Tp, _, rfl, SqT.of upd_same, rfl, _, _, rfl, _, _, rfl, rfl, ?_⟩
      cases el : lampOf lv u with
      | none =>
        have bad : badAt lv ts i = true := by
          unfold badAt
          rw [eu]
          show (match lampOf lv u with | none => true | some a => _) = true
          rw [el]
        refine sq_yes (ans_not (b := false) (ans_val fun Q q => ⟨_, rfl, _, rfl, lv, _, u, rfl, an, by rw [el]; exact q⟩)) ?_
        exact st_ret (val_var rfl) (q (some i) _ s1 ⟨li, bad, ahead⟩)
      | some a =>
        refine sq_no (ans_not (b := true) (ans_val fun Q q => ⟨_, rfl, _, rfl, lv, _, u, rfl, an, by rw [el]; exact q⟩)) ?_
        obtain ⟨b, rfl, _⟩ := lampOf_some el
        obtain ⟨c, x1, y1, t1, u1, ev, hs, et, h3, h4⟩ := tup_two an rfl
        cases et
        cases h3
        cases h4
        subst ev
        have here : ts[i]?.bind (lampOf lv) = some a := by rw [eu]; exact el
        cases i with
        | zero =>
          have e : badAt lv ts 0 = false := by rw [bad_by (a' := 0) here (fun z => absurd z (by omega))]; rfl
          refine st_no (ans_and0 (an_gt (val_var rfl) val_c (decide_eq_false (by decide)))) ?_
          exact ⟨_, _, rfl, s1, li, fun j hj => by have z : j = 0 := by omega
                                                   rw [z]; exact e⟩
        | succ j =>
          obtain ⟨c', a', b', ex, hs', hb', _⟩ := good_val hall1 (i := j) (by omega) (ahead j (by omega))
          have e := bad_by (a' := a') here (fun _ => hb')
          have e : badAt lv ts (j + 1) = decide (a ≤ a') := by rw [e, decide_eq_true (by omega : 0 < j + 1), Bool.true_and]
          have cmp : Ans (tAnd (tTest (tOp (rI0 fun i j => .bl (decide (j < i))) (tVar 2) (tC (.int 0)))) (tTest (tOp (rI0 fun i j => .bl (decide (i ≤ j))) (tOp (rIxT K) (tVar 3) (tC (.int 0))) (tOp (rIxT K) (tOp (rIxT K) (tVar 1) (tOp (rI0 fun i j => .int (i - j)) (tVar 2) (tC (.int 1)))) (tC (.int 0))))))
              [some (.int lv), some (.ref t), some (.int ((j + 1 : Nat) : Int)), some (.ref c)] (upd H' Tp (.tup [V.int ((j + 1 : Nat) : Int), V.ref c])) (decide (a ≤ a')) := by
            refine ans_and (an_gt (val_var rfl) val_c (decide_eq_true (by omega))) (ans_cmp (x := .int a) (y := .int a') (val_op (val_var rfl) val_c fun Q q => ⟨c, _, 0, _, rfl, rfl, hs, rfl, q⟩) ?_ fun Q q => ⟨_, _, rfl, rfl, q⟩)
            refine val_op (x := .ref c') (val_op (val_var rfl) (val_op (z := .int (j : Int)) (val_var rfl) val_c fun Q q => ⟨_, _, rfl, rfl, ?_⟩) fun Q q => ⟨t, _, (j : Int), _, rfl, rfl, same_seqT s1 ht, L2.at_of (j := j) rfl ex, q⟩) val_c fun Q q => ⟨_, _, 0, _, rfl, rfl, hs', rfl, q⟩
            have e : ((j + 1 : Nat) : Int) - 1 = (j : Int) := by omega
            show Q (.int (((j + 1 : Nat) : Int) - 1)) _
            rw [e]
            exact q
          by_cases h : a ≤ a'
          · rw [decide_eq_true h] at cmp e
            exact st_yes cmp (st_ret (val_var rfl) (q (some (j + 1)) _ s1 ⟨li, e, ahead⟩))
          · rw [decide_eq_false h] at cmp e
            refine st_no cmp ⟨_, _, rfl, s1, li, fun k hk => ?_⟩
            by_cases z : k = j + 1
            · rw [z]; exact e
            · exact ahead k (by omega)
    · obtain ⟨_, _, rfl, s, _, all⟩ := z
      exact q none _ s fun i hi => all i (by omega)
end
end Lamp
set_option Elab.async false
set_option linter.all false
set_option maxRecDepth 100000
set_option maxHeartbeats 1000000
namespace Lamp
open PySem PySem.Spec PyProof.Rows L2
/-! len, str, repr, bool of an instance by its own methods -/
/-- the class at C has m as a def at f that keeps sp -/
structure OwnM (P : Program) (w : World) (K : PySem.W.Frag) (mg : Str → Option Value) (base : Heap) (C : Addr) (m : Str) (sp : Sp) (k : Nat) : Prop where
  ex : ∃ (f : Addr) (fd : FuncData), PySem.W.findIn K (.ref C) m = some (some (.ref f)) ∧ PySem.W.isFn K (.ref f) = true ∧ FnOk P w K mg base CX0 k f fd ["self"] sp ∧ Binds K fd ["self"] []
section
variable {X : Cx} {pins : List (Addr × Obj)} {σ : L2.St} {H : Hp} {s : Shared} {Q : VK} {a f : Addr} {k : Nat} {sp : Sp} {fd : FuncData} {A' : Around}
theorem run_self (F : FnOk X.prog X.w X.K X.mg X.base CX0 k f fd ["self"] sp) (hr : Room k A') (hf : A'.frames = X.A.frames) (hb : Binds X.K fd ["self"] []) (I : Inv X pins σ H s) (h : sp [.ref a] H Q E0) :
    wpAny (model X.prog X.w) A' (call (.ref f) [.ref a]) (EP X pins σ Q) X.xe s := by
  have e0 := I.env0
  have e1 : Env0 X.prog X.w X.K X.mg X.base A' X.stack s H := ⟨hf.trans e0.frames, e0.mod, e0.bs, e0.bsz, e0.funs, e0.frf, e0.hok, e0.bare⟩
  have bb := hb s [.ref a] I.kIn rfl
  refine wpAny_call (codeAny_mono (F.run A' X.stack s H ⟨[.ref a], []⟩ [.ref a] [.ref a] Q E0 hr e1 bb (.cons (show RelV (V.ref a) (Value.ref a) from rfl) .nil) h) fun res s' told => ?_)
  match res, told with
  | .error _, told => exact False.elim told
  | .ok (.ret u), told => exact I.after told
  | .ok .next, told => exact False.elim told
  | .ok .brk, told => exact False.elim told
  | .ok .cont, told => exact False.elim told
theorem ins_inst {C dx : Addr} {fs : List (Str × V)} (I : Inv X pins σ H s) (h : H a = some (.ins C dx fs)) : ∃ od, PySem.W.InstAt s.heap a (PySem.W.instObj C dx) C (some od) := by
  obtain ⟨mA, O, _⟩ := ins_get I.hok h
  obtain ⟨od, J, _⟩ := O.look
  exact ⟨od, J⟩
end
section
variable {X : Cx} {C : Addr} {sp : Sp} {k : Nat}
/-- the reading of such a call: what the method hands back, as ok says, is the answer -/
def rOwn (C : Addr) (sp : Sp) (ok : V → Prop) : List V → Hp → VK → Prop := fun xs H Q => ∃ (a dx : Addr) (fs : List (Str × V)), xs = [.ref a] ∧ H a = some (.ins C dx fs) ∧ sp [.ref a] H (fun v H' => ok v ∧ Q v H') E0
def okLen (v : V) : Prop := ∃ n : Int, v = .int n ∧ 0 ≤ n ∧ n < 2 ^ 63
def okStr (v : V) : Prop := ∃ x : Str, v = .str x
def okBool (v : V) : Prop := ∃ b : Bool, v = .bl b
theorem call_lenO (Z : OwnM X.prog X.w X.K X.mg X.base C "__len__" sp k) (hr : Room (k + 1) X.A) : CallR X (.builtin "len") (rOwn C sp okLen) := by
  intro pins s σ H xs us Q I r h
  obtain ⟨a, dx, fs, rfl, ha, hs⟩ := h
  obtain ⟨f, fd, h1, h2, F, b⟩ := Z.ex
  have e := Vals.ref1 r
  subst e
  obtain ⟨od, J⟩ := ins_inst I ha
  obtain ⟨m, fr⟩ := I.fr
  refine PySem.W.len_K fr I.ok.mod.kin J h1 h2 (wpAny_mono (run_self F hr.in1 rfl b I hs) (fun u s' told => ?_) fun _ _ z => z)
  obtain ⟨v, H1, I1, rv, ⟨n, ev, n0, n1⟩, q⟩ := told
  subst ev
  obtain ⟨t, eu⟩ := rv
  subst eu
  exact ⟨⟨n0, n1⟩, ⟨.int n, H1, I1.tok _, ⟨_, rfl⟩, q⟩⟩
theorem call_reprO (Z : OwnM X.prog X.w X.K X.mg X.base C "__repr__" sp k) (hr : Room (k + 1) X.A) : CallR X (.builtin "repr") (rOwn C sp okStr) := by
  intro pins s σ H xs us Q I r h
  obtain ⟨a, dx, fs, rfl, ha, hs⟩ := h
  obtain ⟨f, fd, h1, h2, F, b⟩ := Z.ex
  have e := Vals.ref1 r
  subst e
  obtain ⟨od, J⟩ := ins_inst I ha
  obtain ⟨m, fr⟩ := I.fr
  refine PySem.W.repr_K hr.in1.units0 fr I.ok.mod.kin J h1 h2 (wpAny_mono (run_self F hr.in1 rfl b I hs) (fun u s' told => ?_) fun _ _ z => z)
  obtain ⟨v, H1, I1, rv, ⟨x, ev⟩, q⟩ := told
  subst ev
  obtain ⟨t, eu⟩ := rv
  subst eu
  exact ⟨.str x, H1, I1, ⟨_, rfl⟩, q⟩
theorem call_strO (Z : OwnM X.prog X.w X.K X.mg X.base C "__str__" sp k) (hr : Room (k + 2) X.A) : CallR X (.type "str") (rOwn C sp okStr) := by
  intro pins s σ H xs us Q I r h
  obtain ⟨a, dx, fs, rfl, ha, hs⟩ := h
  obtain ⟨f, fd, h1, h2, F, b⟩ := Z.ex
  have e := Vals.ref1 r
  subst e
  obtain ⟨od, J⟩ := ins_inst I ha
  refine PySem.W.kso_call hr.in1.in1.units0 I.kIn J h1 h2 (wpAny_mono (run_self F hr.in1.in1 rfl b I hs) (fun u s' told => ?_) fun _ _ z => z)
  obtain ⟨v, H1, I1, rv, ⟨x, ev⟩, q⟩ := told
  subst ev
  obtain ⟨t, eu⟩ := rv
  subst eu
  exact ⟨.str x, H1, I1, ⟨_, rfl⟩, q⟩
theorem call_boolO (Z : OwnM X.prog X.w X.K X.mg X.base C "__bool__" sp k) (hr : Room (k + 2) X.A) : CallR X (.type "bool") (rOwn C sp okBool) := by
  intro pins s σ H xs us Q I r h
  obtain ⟨a, dx, fs, rfl, ha, hs⟩ := h
  obtain ⟨f, fd, h1, h2, F, b⟩ := Z.ex
  have e := Vals.ref1 r
  subst e
  obtain ⟨od, J⟩ := ins_inst I ha
  obtain ⟨m, fr⟩ := I.fr
  refine callType_codes (T := "bool") (Bi := Builtin.«object.__init__») (Q₁ := fun r s₁ => ∃ y, r = .bool y ∧ EP X pins σ Q r s₁) PySem.F.called_bool (PySem.F.typeCall_bool_1 _) PySem.F.entry_object_init ?_ ?_
  · refine codeAny_of_tree ?_
    show wpAny _ X.A.in1.in1 (do checkBuiltinCall "bool.__new__" ⟨[.type "bool", .ref a], []⟩; again (.builtin "bool.__new__" ⟨[.type "bool", .ref a], []⟩)) _ _ s
    refine PySem.wpAny_bind (wpAny_of_eq (PySem.F.newCall_bool_1 _) (PySem.wpAny_pure ⟨plainId_quiet (by decide +kernel) _, codeAny_builtin PySem.F.entry_bool_new ?_⟩))
    rw [Around.under_plainId (by decide +kernel) _]
    refine PySem.wpAny_bind (PySem.wpAny_pure ?_)
    refine PySem.wpAny_bind (wpAny_of_eq PySem.F.conv_sub_bool ?_)
    refine PySem.wpAny_bind (PySem.wpAny_pure ?_)
    refine PySem.wpAny_bind (PySem.W.truthy_K fr I.ok.mod.kin J h1 h2 (wpAny_mono (run_self F hr.in1.in1 rfl b I hs) (fun u s' told => ?_) fun _ _ z => z))
    obtain ⟨v, H1, I1, rv, ⟨x, ev⟩, q⟩ := told
    subst ev
    have eu : u = Value.bool x := rv
    subst eu
    exact PySem.wpAny_pure ⟨x, rfl, .bl x, H1, I1, rfl, q⟩
  · rintro obj s₁ ⟨y, rfl, hq⟩
    exact ⟨rfl, PySem.F.args_object_init_2 _ _, object_init_meets PySem.F.called_bool.init.lookup PySem.F.called_bool.made (by decide) X.prog X.w X.A.in1 _ s₁ ⟨rfl, rfl, hq⟩⟩
end
end Lamp
set_option Elab.async false
set_option linter.all false
set_option maxRecDepth 100000
set_option maxHeartbeats 1000000
namespace Lamp
open PySem PySem.Spec PyProof.Rows L2 LamX
abbrev sRound : Stmt := top 22
abbrev sInit : Stmt := inClass sRound 0
/-! what a making comes to -/
inductive Due
  | lv
  | la (r : Option Nat)
  | nu
  | ok
/-- .. for levels, lamps and an end of any kind -/
def DueOf (tl ta te : T) : Due → Prop
  | .lv => levelsB tl = false
  | .la none => levelsB tl = true ∧ isT ta = false
  | .la (some i) => levelsB tl = true ∧ ∃ p ts, tl = .int p ∧ ta = .tup ts ∧ Judge p ts (some i)
  | .nu => levelsB tl = true ∧ ∃ p ts, tl = .int p ∧ ta = .tup ts ∧ Judge p ts none ∧ whole te = false
  | .ok => levelsB tl = true ∧ ∃ p ts, tl = .int p ∧ ta = .tup ts ∧ Judge p ts none ∧ whole te = true
theorem DueOf.one {tl ta te : T} {d d' : Due} (h : DueOf tl ta te d) (h' : DueOf tl ta te d') : d = d' := by
  have lvn : levelsB tl = false → levelsB tl = true → False := fun a b => by rw [a] at b; cases b
  have tn : isT ta = false → ∀ ts, ta = .tup ts → False := fun a ts b => by rw [b] at a; cases a
  have jn : ∀ {p p' ts ts'} {r r' : Option Nat}, tl = T.int p → ta = T.tup ts → tl = T.int p' → ta = T.tup ts' → Judge p ts r → Judge p' ts' r' → r = r' := fun a b a' b' j j' => by
    rw [a] at a'
    rw [b] at b'
    cases a'
    cases b'
    exact j.one j'
  have wn : whole te = false → whole te = true → False := fun a b => by rw [a] at b; cases b
  match d, d', h, h' with
  | .lv, .lv, _, _ => rfl
  | .lv, .la none, a, b => exact (lvn a b.1).elim
  | .lv, .la (some _), a, b => exact (lvn a b.1).elim
  | .lv, .nu, a, b => exact (lvn a b.1).elim
  | .lv, .ok, a, b => exact (lvn a b.1).elim
  | .la none, .lv, b, a => exact (lvn a b.1).elim
  | .la (some _), .lv, b, a => exact (lvn a b.1).elim
  | .nu, .lv, b, a => exact (lvn a b.1).elim
  | .ok, .lv, b, a => exact (lvn a b.1).elim
  | .la none, .la none, _, _ => rfl
  | .la none, .la (some _), a, ⟨_, _, ts, _, e, _⟩ => exact (tn a.2 ts e).elim
  | .la none, .nu, a, ⟨_, _, ts, _, e, _⟩ => exact (tn a.2 ts e).elim
  | .la none, .ok, a, ⟨_, _, ts, _, e, _⟩ => exact (tn a.2 ts e).elim
  | .la (some _), .la none, ⟨_, _, ts, _, e, _⟩, a => exact (tn a.2 ts e).elim
  | .nu, .la none, ⟨_, _, ts, _, e, _⟩, a => exact (tn a.2 ts e).elim
  | .ok, .la none, ⟨_, _, ts, _, e, _⟩, a => exact (tn a.2 ts e).elim
  | .la (some i), .la (some j), ⟨_, _, _, a1, a2, a3⟩, ⟨_, _, _, b1, b2, b3⟩ => rw [jn a1 a2 b1 b2 a3 b3]
  | .la (some i), .nu, ⟨_, _, _, a1, a2, a3⟩, ⟨_, _, _, b1, b2, b3, _⟩ => cases jn a1 a2 b1 b2 a3 b3
  | .la (some i), .ok, ⟨_, _, _, a1, a2, a3⟩, ⟨_, _, _, b1, b2, b3, _⟩ => cases jn a1 a2 b1 b2 a3 b3
  | .nu, .la (some i), ⟨_, _, _, b1, b2, b3, _⟩, ⟨_, _, _, a1, a2, a3⟩ => cases jn a1 a2 b1 b2 a3 b3
  | .ok, .la (some i), ⟨_, _, _, b1, b2, b3, _⟩, ⟨_, _, _, a1, a2, a3⟩ => cases jn a1 a2 b1 b2 a3 b3
  | .nu, .nu, _, _ => rfl
  | .ok, .ok, _, _ => rfl
  | .nu, .ok, ⟨_, _, _, _, _, _, a⟩, ⟨_, _, _, _, _, _, b⟩ => exact (wn a b).elim
  | .ok, .nu, ⟨_, _, _, _, _, _, b⟩, ⟨_, _, _, _, _, _, a⟩ => exact (wn a b).elim
theorem level_int {tl : T} (h : levelsB tl = true) : ∃ p, tl = .int p := by
  cases tl <;> first | exact ⟨_, rfl⟩ | cases h
/-! rounds as objects -/
def fldX (lv la en : V) : List (Str × V) := [("_levels", lv), ("_lamps", la), ("_end", en)]
/-- at a: the round with these parts -/
def RAt (C : Addr) (H : Hp) (a : Addr) (lv la en : V) : Prop := ∃ dx, H a = some (.ins C dx (fldX lv la en))
theorem RAt.same {C : Addr} {H H' : Hp} {a : Addr} {lv la en : V} (h : RAt C H a lv la en) (e : Same H H') : RAt C H' a lv la en := by
  obtain ⟨dx, h⟩ := h
  exact ⟨dx, e _ _ h⟩
/-- what of the text the class must have -/
structure RCls (K : PySem.W.Frag) (C : Addr) : Prop where
  cl : Cls K C
  n1 : NoAttr K C "_levels"
  n2 : NoAttr K C "_lamps"
  n3 : NoAttr K C "_end"
/-- the ways that it ends: an error with what it holds, or what follows -/
def Fin (xL xA xN : Addr) (lv en : V) (H : Hp) (E : XK) (ok : Prop) : Due → Prop
  | .lv => ∀ d H', Same H H' → H' d = some (exd d [("given", lv)]) → E (.ref xL) (some d) H'
  | .la r => ∀ d H', Same H H' → H' d = some (exd d [("index", rV r)]) → E (.ref xA) (some d) H'
  | .nu => ∀ d H', Same H H' → H' d = some (exd d [("given", en)]) → E (.ref xN) (some d) H'
  | .ok => ok
def spInitX (K : PySem.W.Frag) (C xL xA xN : Addr) : Sp := fun vs H Q E => ∃ (a dx : Addr) (lv la en : V) (tl ta te : T), vs = [.ref a, lv, la, en] ∧ H a = some (.ins C dx []) ∧ An K H lv tl ∧ An K H la ta ∧ An K H en te ∧
  ∀ d, DueOf tl ta te d → Fin xL xA xN lv en H E (∀ H', But a H H' → H' a = some (.ins C dx (fldX lv la en)) → Q .non H') d
theorem raise_run {X : Cx} {C : Addr} {f : Str} {te : TE} {σ : L2.St} {H : Hp} {y : V} {Q : XK} (h : Val te σ H y) (hs : ∀ a, H a = none → Fr0 X.H_0 a) (rs : Raises X (.ref C)) (k : ∀ dx H', Same H H' → H' dx = some (exd dx [(f, y)]) → Q (.ref C) (some dx) H') :
    tMkE C f te σ H fun x H1 => ∃ (a C' : Addr) (d : Option Addr), x = .ref a ∧ H1 a = some (exo a C' d) ∧ Fr0 X.H_0 a ∧ Raises X (.ref C') ∧ Q (.ref C') d (delH H1 a) := by
  refine h _ fun a dx na nd ne => ⟨a, C, some dx, rfl, upd_same, hs a na, rs, k dx _ (fun b o e => ?_) ?_⟩
  · rw [delH_ne (ne_of_none e na), upd_ne (ne_of_none e na), upd_ne (ne_of_none e nd), upd_ne (ne_of_none e na)]
    exact e
  · rw [delH_ne ne, upd_ne ne, upd_same]
theorem cut_to (xs : List V) (k : Nat) : cutV xs none (some (k : Int)) = xs.take k := by
  unfold cutV
  rw [HT.sIx_none, HT.sIx_nat]
  show (xs.drop 0).take (min k xs.length - 0) = xs.take k
  rw [List.drop_zero, Nat.sub_zero, List.take_eq_take_min]
  simp
section
variable {P : Program} {w : World} {K : PySem.W.Frag} {mg : Str → Option Value} {base : Heap} {C xL xA xN : Addr}
theorem scInit : FnScope ["self", "levels", "lamps", "end", "index"] ["self", "levels", "lamps", "end"] (defScope sInit) := ⟨rfl, rfl, rfl, by decide +kernel, rfl, by decide +kernel, by decide +kernel⟩
theorem xc_raises {X : Cx} {x f : Str} (Z : XC X.prog X.w X.K X.mg C x f) (ty : PySem.W.typeIn X.K (.ref C) = some (.type "type")) : Raises X (.ref C) := by
  obtain ⟨B, n, i, t, T⟩ := Z.T
  exact raises_ec T ty
theorem ok_initX {f : Addr} {fd : FuncData} {t1 : Tok} (F : Fun K "__init__" "Round.__init__" sInit f fd) (R : RCls K C) (Ii : Dr P w K mg base (spIsInt K) "is_integer" ["value"] 1) (Il : Dr P w K mg base (spIsLevels K) "is_levels" ["value"] 2)
    (Wr : Dr P w K mg base (spWrong K) "wrong_lamp" ["levels", "lamps"] 3) (ZL : XC P w K mg xL "InvalidLevels" "given") (ZA : XC P w K mg xA "InvalidLamps" "index") (ZN : XC P w K mg xN "InvalidNumber" "given")
    (yL : PySem.W.typeIn K (.ref xL) = some (.type "type")) (yA : PySem.W.typeIn K (.ref xA) = some (.type "type")) (yN : PySem.W.typeIn K (.ref xN) = some (.type "type"))
    (mML : mg "MOST_LAMPS" = some (.int 400 t1)) (mis : mg "isinstance" = none) (mt : mg "tuple" = none) (ml : mg "len" = none) :
    FnOk P w K mg base (L2.CX P w) 4 f fd ["self", "levels", "lamps", "end"] (spInitX K C xL xA xN) := by
  refine F.okX scInit (fun vs H Q E h => ?_) (fun cdv A outer s H vs Q E hr h => ?_)
  · obtain ⟨a, dx, lv, la, en, _, _, _, rfl, _⟩ := h
    rfl
  · obtain ⟨a, dx, lv, la, en, tl, ta, te, rfl, ha, hl, hA, hn, q⟩ := h
    have hr2 : Room 2 _ := hr.mono (by decide)
    refine ⟨_, pss_cons (ps_if (pt_not (pt_val (pe_dr Il (by decide) hr rfl (pa_cons (pv 1) pa_nil)))) (pss_one (ps_raise rfl (takes_of rfl rfl rfl rfl) (pmk_xo rfl (pe_xc ZL hr2 rfl (pv 1))))) pss_nil)
      (pss_cons (ps_if (pt_not (pt_val (pe_callB call_isi (by rfl) mis (by decide +kernel) (pa_cons (pv 2) (pa_cons (pe_bltn (v := .ty "tuple") (by rfl) mt (by decide +kernel) rfl) pa_nil))))) (pss_one (ps_raise rfl (takes_of rfl rfl rfl rfl) (pmk_xo rfl (pe_xc ZA hr2 rfl pe_non)))) pss_nil)
      (pss_cons (ps_set (i := 4) scInit.nd rfl (.inl rfl) (pe_dr Wr (Nat.le_refl _) hr rfl (pa_cons (pv 1) (pa_cons (pe_slice (r := rSlA K) sl_tupA (pv 2) po_none (po_some (pe_glob (v := .int 400) rfl mML ⟨_, rfl⟩))) pa_nil))))
      (pss_cons (ps_if (pt_cmpR op_notN1 (pv 4) pe_non (nomark _)) (pss_one (ps_raise rfl (takes_of rfl rfl rfl rfl) (pmk_xo rfl (pe_xc ZA hr2 rfl (pv 4))))) pss_nil)
      (pss_cons (ps_if (pt_cmpR op_gt (pe_callB call_len_seq (by rfl) ml PySem.boot_len (pa_cons (pv 2) pa_nil)) (pe_glob (v := .int 400) rfl mML ⟨_, rfl⟩) (nomark _)) (pss_one (ps_raise rfl (takes_of rfl rfl rfl rfl) (pmk_xo rfl (pe_xc ZA hr2 rfl (pe_glob (v := .int 400) rfl mML ⟨_, rfl⟩))))) pss_nil)
      (pss_cons (ps_if (pt_not (pt_val (pe_dr Ii (by decide) hr rfl (pa_cons (pv 3) pa_nil)))) (pss_one (ps_raise rfl (takes_of rfl rfl rfl rfl) (pmk_xo rfl (pe_xc ZN hr2 rfl (pv 3))))) pss_nil)
      (pss_cons (ps_fld (pv 0) (pv 1) (by rfl)) (pss_cons (ps_fld (pv 0) (pv 2) (by rfl)) (pss_one (ps_fld (pv 0) (pv 3) (by rfl)))))))))), ?_⟩
    cases el : levelsB tl with
    | false =>
      refine sq_yes (ans_not (b := false) (ans_val fun Q q => ⟨_, rfl, lv, tl, rfl, hl, by rw [el]; exact q⟩)) ?_
      exact raise_run (val_var rfl) (fun a na => fr0_none na) (xc_raises ZL yL) fun d H' s1 hd => q .lv el d H' s1 hd
    | true =>
      refine sq_no (ans_not (b := true) (ans_val fun Q q => ⟨_, rfl, lv, tl, rfl, hl, by rw [el]; exact q⟩)) ?_
      cases et : isT ta with
      | false =>
        refine sq_yes (ans_not (b := false) (ans_val (by have z := v_tuple (K := K) (te := tVar 2) (σ := [some (V.ref a), some lv, some la, some en, none]) (val_var rfl) hA; rw [et] at z; exact z))) ?_
        exact raise_run val_c (fun a na => fr0_none na) (xc_raises ZA yA) fun d H' s1 hd => q (.la none) ⟨el, et⟩ d H' s1 hd
      | true =>
        refine sq_no (ans_not (b := true) (ans_val (by have z := v_tuple (K := K) (te := tVar 2) (σ := [some (V.ref a), some lv, some la, some en, none]) (val_var rfl) hA; rw [et] at z; exact z))) ?_
        obtain ⟨p, rfl⟩ := level_int el
        obtain ⟨ts, rfl⟩ : ∃ ts, ta = .tup ts := by cases ta <;> first | exact ⟨_, rfl⟩ | cases et
        cases hl
        cases hA with
        | @tup t xs _ ht hall =>
          have hlen := anAll_len hall
          refine ⟨_, rfl, _, rfl, 400, rfl, sl_anyT ht fun b H1 s1 hb => ?_⟩
          have hb : SqT K H1 b (cutV xs none (some ((400 : Nat) : Int))) := hb
          rw [cut_to] at hb
          refine ⟨p, b, _, _, rfl, hb, anAll_same s1 (anAll_take 400 hall), fun r H2 s2 hr2 => ?_⟩
          have s12 := s1.trans s2
          obtain ⟨j1, j2, j3⟩ := Judge.of hr2
          have fr : ∀ a, H2 a = none → Fr0 H a := fun a na => fr0_none (s12.free na)
          dsimp only [gName]
          cases r with
          | some i =>
            refine sq_yes (ans_notN (x := rV (some i)) (val_var rfl) (by rw [decide_eq_false (show ¬ (rV (some i) = V.non) from fun z => by cases z)]; rfl)) ?_
            exact raise_run (val_var rfl) fr (xc_raises ZA yA) fun d H' s3 hd => q (.la (some i)) ⟨el, p, ts, rfl, rfl, j3 i rfl⟩ d H' (s12.trans s3) hd
          | none =>
            refine sq_no (ans_notN (x := rV none) (val_var rfl) (by rw [decide_eq_true (show rV none = V.non from rfl)]; rfl)) ?_
            by_cases h4 : 400 < ts.length
            · refine sq_yes (an_gt (x := (xs.length : Nat)) (fun Q q => ⟨_, rfl, t, _, rfl, .inr (same_seqT s12 ht), q⟩) val_c (decide_eq_true (by omega))) ?_
              exact raise_run val_c fr (xc_raises ZA yA) fun d H' s3 hd => q (.la (some 400)) ⟨el, p, ts, rfl, rfl, j1 rfl h4⟩ d H' (s12.trans s3) hd
            · refine sq_no (an_gt (x := (xs.length : Nat)) (fun Q q => ⟨_, rfl, t, _, rfl, .inr (same_seqT s12 ht), q⟩) val_c (decide_eq_false (by omega))) ?_
              cases ew : whole te with
              | false =>
                refine sq_yes (ans_not (b := false) (ans_val fun Q q => ⟨_, rfl, en, te, rfl, an_same s12 hn, by rw [ew]; exact q⟩)) ?_
                exact raise_run (val_var rfl) fr (xc_raises ZN yN) fun d H' s3 hd => q .nu ⟨el, p, ts, rfl, rfl, j2 rfl h4, ew⟩ d H' (s12.trans s3) hd
              | true =>
                refine sq_no (ans_not (b := true) (ans_val fun Q q => ⟨_, rfl, en, te, rfl, an_same s12 hn, by rw [ew]; exact q⟩)) ?_
                refine st_seq (st_fld (y := .int p) (val_var rfl) (val_var rfl) (s12 _ _ ha) R.cl R.n1 (by show 0 < 1000; decide) ?_)
                refine st_seq (st_fld (y := .ref t) (val_var rfl) (val_var rfl) upd_same R.cl R.n2 (by show 1 < 1000; decide) ?_)
                refine st_fld (y := en) (val_var rfl) (val_var rfl) upd_same R.cl R.n3 (by show 2 < 1000; decide) ?_
                exact q .ok ⟨el, p, ts, rfl, rfl, j2 rfl h4, ew⟩ _ (((But.of s12).trans But.at).trans (But.at.trans But.at)) upd_same
end
end Lamp
set_option Elab.async false
set_option linter.all false
set_option maxRecDepth 100000
set_option maxHeartbeats 1000000
namespace Lamp
open PySem PySem.Spec PyProof.Rows L2 LamX
abbrev sLevels : Stmt := inClass sRound 2
abbrev sLampsP : Stmt := inClass sRound 3
abbrev sEnd : Stmt := inClass sRound 4
abbrev sLen : Stmt := inClass sRound 8
abbrev sTold : Stmt := top 41
/-! making rounds, of values of any kind -/
structure MkX (P : Program) (w : World) (K : PySem.W.Frag) (mg : Str → Option Value) (base : Heap) (C xL xA xN : Addr) : Prop where
  ex : ∃ (f : Addr) (fd : FuncData), Mk K C f ∧ FnOk P w K mg base (L2.CX P w) 4 f fd ["self", "levels", "lamps", "end"] (spInitX K C xL xA xN) ∧ Binds K fd ["self", "levels", "lamps", "end"] [] ∧
    ∀ (s : Shared) (x u1 u2 u3 : Value), BindsTo s fd ⟨[x], [("end", u1), ("lamps", u2), ("levels", u3)]⟩ [("self", x), ("levels", u3), ("lamps", u2), ("end", u1)]
def rMkX (K : PySem.W.Frag) (C xL xA xN : Addr) (lv la en : V) (H : Hp) (E : XK) (Q : VK) : Prop := ∃ tl ta te, An K H lv tl ∧ An K H la ta ∧ An K H en te ∧
  ∀ d, DueOf tl ta te d → Fin xL xA xN lv en H E (∀ a H', Same H H' → H a = none → RAt C H' a lv la en → Q (.ref a) H') d
theorem fin_same {xL xA xN : Addr} {lv en : V} {H H' : Hp} {E : XK} {p q : Prop} (s : Same H H') (pq : p → q) : ∀ {d : Due}, Fin xL xA xN lv en H E p d → Fin xL xA xN lv en H' E q d
  | .lv, h => fun d H2 s2 hd => h d H2 (s.trans s2) hd
  | .la _, h => fun d H2 s2 hd => h d H2 (s.trans s2) hd
  | .nu, h => fun d H2 s2 hd => h d H2 (s.trans s2) hd
  | .ok, h => pq h
theorem mk_init {K : PySem.W.Frag} {C xL xA xN : Addr} {lv la en : V} {H : Hp} {E : XK} {Q : VK} (h : rMkX K C xL xA xN lv la en H E Q) {x dx : Addr} (hx : H x = none) (hd : H dx = none) (hne : dx ≠ x) :
    spInitX K C xL xA xN [.ref x, lv, la, en] (upd (upd H dx (.own x)) x (.ins C dx [])) (fun v H2 => v = .non ∧ Q (.ref x) H2) E := by
  obtain ⟨tl, ta, te, h1, h2, h3, q⟩ := h
  have s1 : Same H (upd (upd H dx (.own x)) x (.ins C dx [])) := fun b o e => by rw [upd_ne (ne_of_none e hx), upd_ne (ne_of_none e hd)]; exact e
  refine ⟨x, dx, lv, la, en, tl, ta, te, rfl, upd_same, an_same s1 h1, an_same s1 h2, an_same s1 h3, fun d hd' => fin_same s1 (fun q H' bt hr => ⟨rfl, q x H' (fun b o e => ?_) hx ⟨dx, hr⟩⟩) (q d hd')⟩
  exact bt b o (ne_of_none e hx) (s1 b o e)
/-- Round(a, b, c) -/
def tMkX (K : PySem.W.Frag) (C xL xA xN : Addr) (E : XK) (ta : TA) : TE := fun σ H Q => ta σ H fun vs H1 => ∃ lv la en, vs = [lv, la, en] ∧ rMkX K C xL xA xN lv la en H1 E Q
/-- Round(end=c, lamps=b, levels=a) -/
def tMkXK (K : PySem.W.Frag) (C xL xA xN : Addr) (E : XK) (tk : TA) : TE := fun σ H Q => tk σ H fun zs H1 => ∃ lv la en, zs = [en, la, lv] ∧ rMkX K C xL xA xN lv la en H1 E Q
def gK {α : Type} : List α → List α → List α
  | [x], [u1, u2, u3] => [x, u3, u2, u1]
  | _, _ => []
theorem three {α : Type} : ∀ {l : List α}, l.length = 3 → ∃ a b c, l = [a, b, c]
  | [a, b, c], _ => ⟨a, b, c, rfl⟩
theorem gK_rel : ∀ {vs : List V} {us : List Value} {zs : List V} {ws : List Value}, Vals vs us → Vals zs ws → Vals (gK vs zs) (gK us ws)
  | _, _, _, _, .cons r .nil, .cons r1 (.cons r2 (.cons r3 .nil)) => .cons r (.cons r3 (.cons r2 (.cons r1 .nil)))
  | _, _, _, _, .nil, _ => .nil
  | _, _, _, _, .cons _ (.cons _ _), _ => .nil
  | _, _, _, _, .cons _ .nil, .nil => .nil
  | _, _, _, _, .cons _ .nil, .cons _ .nil => .nil
  | _, _, _, _, .cons _ .nil, .cons _ (.cons _ .nil) => .nil
  | _, _, _, _, .cons _ .nil, .cons _ (.cons _ (.cons _ (.cons _ _))) => .nil
section
variable {X : Cx} {C xL xA xN : Addr} {x : Str} {e : Expr} {es : List Expr} {ta tk : TA} {p pos : Pos} {kws : List Keyword} {E : XK}
theorem pe_mkX (Z : MkX X.prog X.w X.K X.mg X.base C xL xA xN) (hr : Room 5 X.A) (hg : Gl X x) (hm : X.mg x = some (.ref C)) (hx : Passes (L2.CX X.prog X.w) X E) (ha : PA X (e :: es) ta) (hdb : (x == ("__debug__" : Str)) = false := by decide)
    (he : starEach (e :: es) X.env = (false, eval e X.env) :: starEach es X.env := by rfl) (hpl : (backTo pos (starEach es X.env)).any (·.1) = false := by rfl) : PE X (.Call (.Name x p) (e :: es) [] pos) (tMkX X.K C xL xA xN E ta) := by
  obtain ⟨f, fd, M, F, b, _⟩ := Z.ex
  refine ⟨fun pins s σ H Q I h => ?_⟩
  refine wpAny_Call_Name_kw (ld_glob I hg hm ?_ hdb)
  refine PySem.W.callWith_K (h₀ := X.base) I.ok.mod.kin M.kp (thn (ha.run pos pins s σ H _ I h) fun us s1 ⟨vs, H1, I1, r, lv, la, en, ev, q⟩ => ⟨I1.kIn, ?_⟩) he hpl
  subst ev
  exact run_make M F hr b .nil hx I1 r fun y dx hy hd hne => mk_init q hy hd hne
theorem pe_mkXK (Z : MkX X.prog X.w X.K X.mg X.base C xL xA xN) (hr : Room 5 X.A) (hg : Gl X x) (hm : X.mg x = some (.ref C)) (hx : Passes (L2.CX X.prog X.w) X E) (hkw : PK X kws tk)
    (hall : (backToKw pos (keywordEach kws X.env)).all (·.1.isSome) = true := by rfl) (hks : (backToKw pos (keywordEach kws X.env)).filterMap (·.1) = (["end", "lamps", "levels"] : List Str) := by rfl) (hdb : (x == ("__debug__" : Str)) = false := by decide)
    (hpl : ((backTo pos (starEach [] X.env)).any (·.1) || (backToKw pos (keywordEach kws X.env)).any (·.1.isNone)) = false := by rfl) : PE X (.Call (.Name x p) [] kws pos) (tMkXK X.K C xL xA xN E tk) := by
  obtain ⟨f, fd, M, F, _, b⟩ := Z.ex
  have kb : KBn X.K fd ["self", "levels", "lamps", "end"] 1 ["end", "lamps", "levels"] gK gK := ⟨fun s us ws _ l1 l2 => by
    obtain ⟨x, rfl⟩ := List.length_eq_one_iff.mp l1
    obtain ⟨u1, u2, u3, rfl⟩ := three l2
    exact b s x u1 u2 u3, gK_rel⟩
  refine ⟨fun pins s σ H Q I h => ?_⟩
  refine wpAny_Call_Name_kw (ld_glob I hg hm ?_ hdb)
  refine PySem.W.callWith_KW0 (h₀ := X.base) I.ok.mod.kin M.kp hall ?_ hpl
  refine thn (hkw.run pos pins s σ H _ I h) fun ws s2 ⟨zs, H2, I2, rz, lv, la, en, ev, q2⟩ => ⟨I2.kIn, ?_⟩
  subst ev
  rw [hks]
  exact run_makeK (us := []) (vs := []) M F hr kb hx I2 .nil rz rfl rfl fun y dx hy hd hne => mk_init q2 hy hd hne
/-- what a lambda's body lets out -/
theorem passes_lam {A : Around} {outer : List Env} {s : Shared} {H : Hp} {scope : Scope} {f c' : Addr} : Passes (L2.CX X.prog X.w) (lamCx X A outer s H E scope f c') E :=
  passes_call (X := lamCx X A outer s H E scope f c') (takes_of rfl rfl rfl rfl) fun _ _ _ _ h => h
end
def spLv (C : Addr) : Sp := fun vs H Q _ => ∃ (a : Addr) (lv la en : V), vs = [.ref a] ∧ RAt C H a lv la en ∧ Q lv H
def spLa (C : Addr) : Sp := fun vs H Q _ => ∃ (a : Addr) (lv la en : V), vs = [.ref a] ∧ RAt C H a lv la en ∧ Q la H
def spEn (C : Addr) : Sp := fun vs H Q _ => ∃ (a : Addr) (lv la en : V), vs = [.ref a] ∧ RAt C H a lv la en ∧ Q en H
def spLn (K : PySem.W.Frag) (C : Addr) : Sp := fun vs H Q _ => ∃ (a t : Addr) (lv en : V) (xs : List V), vs = [.ref a] ∧ RAt C H a lv (.ref t) en ∧ SqT K H t xs ∧ Q (.int (xs.length : Int)) H
def spTold (C : Addr) : Sp := fun vs H Q _ => ∃ (a : Addr) (lv la en : V), vs = [.ref a] ∧ RAt C H a lv la en ∧ ∀ l H', Same H H' → H l = none → H' l = some (.lst [lv, la, en]) → Q (.ref l) H'
section
variable {P : Program} {w : World} {K : PySem.W.Frag} {mg : Str → Option Value} {base : Heap} {C : Addr}
theorem scLevels : FnScope ["self"] ["self"] (defScope sLevels) := ⟨rfl, rfl, rfl, by decide +kernel, rfl, by decide +kernel, by decide +kernel⟩
theorem scLampsP : FnScope ["self"] ["self"] (defScope sLampsP) := ⟨rfl, rfl, rfl, by decide +kernel, rfl, by decide +kernel, by decide +kernel⟩
theorem scEnd : FnScope ["self"] ["self"] (defScope sEnd) := ⟨rfl, rfl, rfl, by decide +kernel, rfl, by decide +kernel, by decide +kernel⟩
theorem scLen : FnScope ["self"] ["self"] (defScope sLen) := ⟨rfl, rfl, rfl, by decide +kernel, rfl, by decide +kernel, by decide +kernel⟩
theorem scTold : FnScope ["_law_mine"] ["_law_mine"] (defScope sTold) := ⟨rfl, rfl, rfl, by decide +kernel, rfl, by decide +kernel, by decide +kernel⟩
section
variable {σ : L2.St} {H : Hp} {a : Addr} {lv la en : V} {ta : TE}
theorem v_lv (R : RCls K C) (h : Val ta σ H (.ref a)) (hr : RAt C H a lv la en) : Val (tFld K ta "_levels") σ H lv := by
  obtain ⟨dx, hr⟩ := hr
  exact val_fld h hr R.cl R.n1 rfl
theorem v_la (R : RCls K C) (h : Val ta σ H (.ref a)) (hr : RAt C H a lv la en) : Val (tFld K ta "_lamps") σ H la := by
  obtain ⟨dx, hr⟩ := hr
  exact val_fld h hr R.cl R.n2 rfl
theorem v_en (R : RCls K C) (h : Val ta σ H (.ref a)) (hr : RAt C H a lv la en) : Val (tFld K ta "_end") σ H en := by
  obtain ⟨dx, hr⟩ := hr
  exact val_fld h hr R.cl R.n3 rfl
end
theorem ok_lv {f : Addr} {fd : FuncData} (F : Fun K "levels" "Round.levels" sLevels f fd) (R : RCls K C) : FnOk P w K mg base CX0 1 f fd ["self"] (spLv C) := by
  refine F.ok scLevels (fun vs H Q E h => ?_) (fun cdv A outer s H vs Q E hr h => ?_)
  · obtain ⟨a, lv, la, en, rfl, _⟩ := h
    rfl
  · obtain ⟨a, lv, la, en, rfl, h, q⟩ := h
    exact ⟨_, pss_one (ps_ret (pe_fld (pv 0) rfl)), st_ret (v_lv R (val_var rfl) h) q⟩
theorem ok_la {f : Addr} {fd : FuncData} (F : Fun K "lamps" "Round.lamps" sLampsP f fd) (R : RCls K C) : FnOk P w K mg base CX0 1 f fd ["self"] (spLa C) := by
  refine F.ok scLampsP (fun vs H Q E h => ?_) (fun cdv A outer s H vs Q E hr h => ?_)
  · obtain ⟨a, lv, la, en, rfl, _⟩ := h
    rfl
  · obtain ⟨a, lv, la, en, rfl, h, q⟩ := h
    exact ⟨_, pss_one (ps_ret (pe_fld (pv 0) rfl)), st_ret (v_la R (val_var rfl) h) q⟩
theorem ok_en {f : Addr} {fd : FuncData} (F : Fun K "end" "Round.end" sEnd f fd) (R : RCls K C) : FnOk P w K mg base CX0 1 f fd ["self"] (spEn C) := by
  refine F.ok scEnd (fun vs H Q E h => ?_) (fun cdv A outer s H vs Q E hr h => ?_)
  · obtain ⟨a, lv, la, en, rfl, _⟩ := h
    rfl
  · obtain ⟨a, lv, la, en, rfl, h, q⟩ := h
    exact ⟨_, pss_one (ps_ret (pe_fld (pv 0) rfl)), st_ret (v_en R (val_var rfl) h) q⟩
theorem ok_ln {f : Addr} {fd : FuncData} (F : Fun K "__len__" "Round.__len__" sLen f fd) (R : RCls K C) (ml : mg "len" = none) : FnOk P w K mg base CX0 1 f fd ["self"] (spLn K C) := by
  refine F.ok scLen (fun vs H Q E h => ?_) (fun cdv A outer s H vs Q E hr h => ?_)
  · obtain ⟨a, t, lv, en, xs, rfl, _⟩ := h
    rfl
  · obtain ⟨a, t, lv, en, xs, rfl, h, ht, q⟩ := h
    exact ⟨_, pss_one (ps_ret (pe_callB call_len_seq (by rfl) ml PySem.boot_len (pa_cons (pe_fld (pv 0) rfl) pa_nil))), st_ret (fun Q q => v_la R (val_var rfl) h _ ⟨t, _, rfl, .inr ht, q⟩) q⟩
/-- a property of rounds -/
structure PrR (P : Program) (w : World) (K : PySem.W.Frag) (mg : Str → Option Value) (base : Heap) (C : Addr) (x : Str) (sp : Sp) (k : Nat) : Prop where
  ex : ∃ (p g : Addr) (fd : FuncData), PropOf K C x p g ∧ FnOk P w K mg base CX0 k g fd ["self"] sp ∧ Binds K fd ["self"] []
theorem pe_prR {X : Cx} {k j : Nat} {x : Str} {sp : Sp} {e : Expr} {ta : TE} {pos : Pos} (Z : PrR X.prog X.w X.K X.mg X.base C x sp k) (R : RCls X.K C) (hk : k + 1 ≤ j) (hr : Room j X.A) (he : PE X e ta) (hab : attributeBase e x X.env (eval e X.env) = eval e X.env := by rfl) :
    PE X (.Attribute e x pos) (tProp C sp [] E0 ta) := by
  obtain ⟨p, g, fd, hp, F, b⟩ := Z.ex
  exact pe_prop he R.cl hp F (hr.mono hk) b .nil pass0 hab
theorem ok_told {f : Addr} {fd : FuncData} (F : Fun K "_law_told" "_law_told" sTold f fd) (R : RCls K C) (Lv : PrR P w K mg base C "levels" (spLv C) 1) (La : PrR P w K mg base C "lamps" (spLa C) 1) (En : PrR P w K mg base C "end" (spEn C) 1) :
    FnOk P w K mg base CX0 3 f fd ["_law_mine"] (spTold C) := by
  refine F.ok scTold (fun vs H Q E h => ?_) (fun cdv A outer s H vs Q E hr h => ?_)
  · obtain ⟨a, lv, la, en, rfl, _⟩ := h
    rfl
  · obtain ⟨a, lv, la, en, rfl, h, q⟩ := h
    refine ⟨_, pss_one (ps_ret (pe_lst (pa_cons (pe_prR Lv R (Nat.le_refl _) hr (pv 0)) (pa_cons (pe_prR La R (Nat.le_refl _) hr (pv 0)) (pa_cons (pe_prR En R (Nat.le_refl _) hr (pv 0)) pa_nil))))), ?_⟩
    have h' := h
    obtain ⟨dx, ha⟩ := h
    refine ⟨_, rfl, a, dx, _, rfl, ha, a, lv, la, en, rfl, h', ?_⟩
    refine ⟨_, rfl, a, dx, _, rfl, ha, a, lv, la, en, rfl, h', ?_⟩
    refine ⟨_, rfl, a, dx, _, rfl, ha, a, lv, la, en, rfl, h', ?_⟩
    exact ⟨(by show 3 ≤ sizeLine; decide), fun l nl => q l _ (same_of nl) nl upd_same⟩
end
end Lamp
set_option Elab.async false
set_option linter.all false
set_option maxRecDepth 100000
set_option maxHeartbeats 1000000
namespace Lamp
open PySem PySem.Spec PyProof.Rows L2 LamX
/-! the law's own judging -/
def rL : Option Nat → List V
  | none => []
  | some i => [.int (i : Int)]
def spIsLv (K : PySem.W.Frag) : Sp := fun vs H Q _ => ∃ (v : V) (t : T), vs = [v] ∧ An K H v t ∧ ∀ H', Same H H' → Q (.bl (levelsB t)) H'
def spWrongs (K : PySem.W.Frag) : Sp := fun vs H Q _ => ∃ (p : Int) (v : V) (t : T), vs = [.int p, v] ∧ An K H v t ∧ (isT t = false → ∀ l H', Same H H' → H' l = some (.lst [.non]) → Q (.ref l) H') ∧
  ∀ ts, t = .tup ts → ts.length ≤ 1000 ∧ ∀ r, Judge p ts r → ∀ l H', Same H H' → H' l = some (.lst (rL r)) → Q (.ref l) H'
section
variable {P : Program} {w : World} {K : PySem.W.Frag} {mg : Str → Option Value} {base : Heap}
theorem scWhole : FnScope ["_law_value"] ["_law_value"] (defScope sWhole) := ⟨rfl, rfl, rfl, by decide +kernel, rfl, by decide +kernel, by decide +kernel⟩
theorem scIsLv : FnScope ["_law_value"] ["_law_value"] (defScope sIsLv) := ⟨rfl, rfl, rfl, by decide +kernel, rfl, by decide +kernel, by decide +kernel⟩
theorem scWrongs : FnScope ["_law_p", "_law_value", "_law_at", "_law_each"] ["_law_p", "_law_value"] (defScope sWrongs) := ⟨rfl, rfl, rfl, by decide +kernel, rfl, by decide +kernel, by decide +kernel⟩
theorem ok_whole {f : Addr} {fd : FuncData} (F : Fun K "_law_is_whole" "_law_is_whole" sWhole f fd) (mis : mg "isinstance" = none) (mi : mg "int" = none) (mb : mg "bool" = none) : FnOk P w K mg base CX0 1 f fd ["_law_value"] (spIsInt K) := by
  refine F.ok scWhole (fun vs H Q E h => ?_) (fun cdv A outer s H vs Q E hr h => ?_)
  · obtain ⟨v, t, rfl, _⟩ := h
    rfl
  · obtain ⟨v, t, rfl, ha, q⟩ := h
    refine ⟨_, pss_one (ps_ret (pe_and (pe_callB call_isi (by rfl) mis (by decide +kernel) (pa_cons (pv 0) (pa_cons (pe_bltn (v := .ty "int") (by rfl) mi (by decide +kernel) rfl) pa_nil)))
      (pe_one (pe_not (pe_callB call_isi (by rfl) mis (by decide +kernel) (pa_cons (pv 0) (pa_cons (pe_bltn (v := .ty "bool") (by rfl) mb (by decide +kernel) rfl) pa_nil))))))), ?_⟩
    exact st_ret (whole_and (val_var rfl) ha) q
theorem ok_isLv {f : Addr} {fd : FuncData} (F : Fun K "_law_is_levels" "_law_is_levels" sIsLv f fd) (I : Dr P w K mg base (spIsInt K) "_law_is_whole" ["_law_value"] 1) : FnOk P w K mg base CX0 2 f fd ["_law_value"] (spIsLv K) := by
  refine F.ok scIsLv (fun vs H Q E h => ?_) (fun cdv A outer s H vs Q E hr h => ?_)
  · obtain ⟨v, t, rfl, _⟩ := h
    rfl
  · obtain ⟨v, t, rfl, ha, q⟩ := h
    refine ⟨_, pss_one (ps_ret (pe_and (pe_dr I (Nat.le_refl _) hr rfl (pa_cons (pv 0) pa_nil)) (pe_one (pe_cmpR op_in_seq (pv 0) (pe_lst (pa_cons pe_int (pa_cons pe_int (pa_cons pe_int (pa_cons pe_int pa_nil))))) (by rfl))))), ?_⟩
    refine ⟨_, rfl, v, t, rfl, ha, whole t, rfl, ?_⟩
    cases e : whole t with
    | true =>
      obtain ⟨i, rfl, rfl⟩ := an_int ha e
      refine iteT ⟨_, rfl, (by show 4 ≤ sizeLine; decide), fun r hr => ⟨r, [.int 2, .int 3, .int 5, .int 7], rfl, .inl (SqL.of upd_same), rfl, by decide, ?_⟩⟩
      rw [in_levels]
      exact q _ (same_of hr)
    | false =>
      refine iteF ?_
      cases t with
      | int i => cases e
      | _ => exact q _ (Same.refl H)
theorem lamp_bad {p : Int} {ts : List T} {i : Nat} {u : T} (eu : ts[i]? = some u) (el : lampOf p u = none) : badAt p ts i = true := by
  unfold badAt
  rw [eu]
  show (match lampOf p u with | none => true | some a => _) = true
  rw [el]
theorem ok_wrongs {f : Addr} {fd : FuncData} (F : Fun K "_law_wrong_lamps" "_law_wrong_lamps" sWrongs f fd) (I : Dr P w K mg base (spIsInt K) "_law_is_whole" ["_law_value"] 1) (mis : mg "isinstance" = none) (mt : mg "tuple" = none) (ml : mg "len" = none) (mr : mg "range" = none) :
    FnOk P w K mg base CX0 2 f fd ["_law_p", "_law_value"] (spWrongs K) := by
  refine F.ok scWrongs (fun vs H Q E h => ?_) (fun cdv A outer s H vs Q E hr h => ?_)
  · obtain ⟨p, v, t, rfl, _⟩ := h
    rfl
  · obtain ⟨p, v, t, rfl, ha, qn, qt⟩ := h
    refine ⟨_, pss_cons (ps_if (pt_not (pt_val (pe_callB call_isi (by rfl) mis (by decide +kernel) (pa_cons (pv 1) (pa_cons (pe_bltn (v := .ty "tuple") (by rfl) mt (by decide +kernel) rfl) pa_nil))))) (pss_one (ps_ret (pe_lst (pa_cons pe_non pa_nil)))) pss_nil)
      (pss_cons (ps_for PassesOwn.never rfl (pi_range1 rfl mr (pa_cons (pe_callB call_len_seq (by rfl) ml PySem.boot_len (pa_cons (pv 1) pa_nil)) pa_nil)) (pg_name (i := 2) scWrongs.nd rfl (.inl rfl))
        (pss_cons (ps_set (i := 3) scWrongs.nd rfl (.inl rfl) (pe_ix ix_tup (pv 1) (pv 2) (fun _ _ => rfl)))
        (pss_cons (ps_if (PW.pt (pw_or (pt_cmpR op_eq (pv 2) pe_int (nomark _)) (pw_or (pt_not (pt_val (pe_callB call_isi (by rfl) mis (by decide +kernel) (pa_cons (pv 3) (pa_cons (pe_bltn (v := .ty "tuple") (by rfl) mt (by decide +kernel) rfl) pa_nil)))))
            (pw_or1 (pt_cmpR op_ne (pe_callB call_len_seq (by rfl) ml PySem.boot_len (pa_cons (pv 3) pa_nil)) pe_int (nomark _)))))) (pss_one (ps_ret (pe_lst (pa_cons (pv 2) pa_nil)))) pss_nil)
        (pss_cons (ps_if (PW.pt (pw_or (pt_not (pt_val (pe_dr I (by decide) hr rfl (pa_cons (pe_ix ix_tup (pv 3) pe_int (fun _ _ => rfl)) pa_nil)))) (pw_or (pt_not (pt_val (pe_dr I (by decide) hr rfl (pa_cons (pe_ix ix_tup (pv 3) pe_int (fun _ _ => rfl)) pa_nil))))
            (pw_or1 (pt_not (pt_chain op_lt op_lt pe_int (pe_ix ix_tup (pv 3) pe_int (fun _ _ => rfl)) (pv 0))))))) (pss_one (ps_ret (pe_lst (pa_cons (pv 2) pa_nil)))) pss_nil)
        (pss_one (ps_if (PW.pt (pw_and (pt_cmpR op_gt (pv 2) pe_int (nomark _)) (pw_and1 (pt_cmpR op_le (pe_ix ix_tup (pv 3) pe_int (fun _ _ => rfl)) (pe_ix ix_tup (pe_ix ix_tup (pv 1) (pe_op op_sub (pv 2) pe_int) (fun _ _ => rfl)) pe_int (fun _ _ => rfl)) (nomark _))))) (pss_one (ps_ret (pe_lst (pa_cons (pv 2) pa_nil)))) pss_nil))))))
      (pss_one (ps_ret (pe_lst pa_nil)))), ?_⟩
    cases et : isT t with
    | false =>
      refine sq_yes (ans_not (b := false) (ans_val (by have z := v_tuple (K := K) (te := tVar 1) (σ := [some (V.int p), some v, none, none]) (val_var rfl) ha; rw [et] at z; exact z))) ?_
      exact ⟨(by show 1 ≤ sizeLine; decide), fun l nl => qn et l _ (same_of nl) upd_same⟩
    | true =>
      refine sq_no (ans_not (b := true) (ans_val (by have z := v_tuple (K := K) (te := tVar 1) (σ := [some (V.int p), some v, none, none]) (val_var rfl) ha; rw [et] at z; exact z))) ?_
      obtain ⟨ts, rfl⟩ : ∃ ts, t = .tup ts := by cases t <;> first | exact ⟨_, rfl⟩ | cases et
      obtain ⟨hn, q⟩ := qt ts rfl
      cases ha with
      | @tup a xs _ hs hall =>
        have hlen := anAll_len hall
        refine sq_forRn (n := ts.length) hn (fun i σ H' => ∃ x y, σ = [some (.int p), some (.ref a), x, y] ∧ H' = H ∧ i ≤ 400 ∧ ∀ j, j < i → badAt p ts j = false) ⟨_, _, rfl, rfl, by omega, fun j hj => absurd hj (by omega)⟩ ?_ ?_
          (fun Q q => ⟨_, rfl, a, _, rfl, .inr hs, by rw [hlen]; exact q⟩)
        · rintro i σ' H0 hi ⟨x0, y0, rfl, rfl, h4, ahead⟩
          have hx : i < xs.length := by omega
          obtain ⟨u, eu, an⟩ := anAll_get hall (List.getElem?_eq_getElem hx)
          obtain ⟨x, ex⟩ : ∃ x, xs[i] = x := ⟨_, rfl⟩
          rw [ex] at an
          have hxi : xs[i]? = some x := by rw [List.getElem?_eq_getElem hx, ex]
          refine sq_set (v := x) (val_op (val_var rfl) (val_var rfl) fun Q q => ⟨a, _, (i : Int), _, rfl, rfl, hs, L2.at_of (j := i) rfl hxi, q⟩) ?_
          dsimp only [List.set]
          have out : Judge p ts (some i) → ∀ D : Ends, D.rt = Q → tRet (tLst (tCons (tVar 2) tNil)) D [some (.int p), some (.ref a), some (.int (i : Int)), some x] H0 := fun hj D eD => by
            refine ⟨_, rfl, (by show 1 ≤ sizeLine; decide), fun l nl => ?_⟩
            rw [eD]
            exact q (some i) hj l _ (same_of nl) upd_same
          by_cases h400 : i = 400
          · refine sq_yes (ans_or1 (ans_eq (x := .int (i : Int)) (y := .int 400) (val_var rfl) val_c rfl (decide_eq_true (by rw [h400]; rfl)))) ?_
            exact out ⟨hi, h4, ahead, .inl h400⟩ _ rfl
          · have e400 : Ans (tTest (tOp rEq (tVar 2) (tC (.int 400)))) [some (.int p), some (.ref a), some (.int (i : Int)), some x] H0 false := ans_eq (x := .int (i : Int)) (y := .int 400) (val_var rfl) val_c rfl (decide_eq_false (by intro z; have z := V.int.inj z; omega))
            cases eu2 : isT u with
            | false =>
              have nt : lampOf p u = none := by cases u <;> first | rfl | cases eu2
              refine sq_yes (ans_or e400 (ans_or1 (ans_not (b := false) (ans_val (by have z := v_tuple (K := K) (te := tVar 3) (σ := [some (.int p), some (.ref a), some (.int (i : Int)), some x]) (val_var rfl) an; rw [eu2] at z; exact z))))) ?_
              exact out ⟨hi, h4, ahead, .inr (lamp_bad eu nt)⟩ _ rfl
            | true =>
              have isTup := ans_not (b := true) (ans_val (by have z := v_tuple (K := K) (te := tVar 3) (σ := [some (.int p), some (.ref a), some (.int (i : Int)), some x]) (val_var rfl) an; rw [eu2] at z; exact z))
              obtain ⟨us, rfl⟩ : ∃ us, u = .tup us := by cases u <;> first | exact ⟨_, rfl⟩ | cases eu2
              obtain ⟨c0, xs0, rfl, hs0, hall0⟩ : ∃ c xs, x = .ref c ∧ SqT K H0 c xs ∧ AnAll K H0 xs us := by
                cases an with
                | tup h1 h2 => exact ⟨_, _, rfl, h1, h2⟩
              have hl0 := anAll_len hall0
              by_cases h2 : us.length = 2
              · obtain ⟨c, x1, y1, t1, u1, ev, hs1, rfl, h3, h5⟩ := tup_two an h2
                cases ev
                refine sq_no (ans_or e400 (ans_or isTup (ans_ne (x := .int 2) (y := .int 2) (fun Q q => ⟨_, rfl, c0, _, rfl, .inr hs1, q⟩) val_c rfl rfl))) ?_
                have w1 : Ans (tNot (tB (tCallG (spIsInt K) (tCons (tOp (rIxT K) (tVar 3) (tC (.int 0))) tNil)))) [some (.int p), some (.ref a), some (.int (i : Int)), some (.ref c0)] H0 (!whole t1) := ans_not (ans_val fun Q q => ⟨_, rfl, c0, _, 0, _, rfl, rfl, hs1, rfl, x1, t1, rfl, h3, q⟩)
                have w2 : Ans (tNot (tB (tCallG (spIsInt K) (tCons (tOp (rIxT K) (tVar 3) (tC (.int 1))) tNil)))) [some (.int p), some (.ref a), some (.int (i : Int)), some (.ref c0)] H0 (!whole u1) := ans_not (ans_val fun Q q => ⟨_, rfl, c0, _, 1, _, rfl, rfl, hs1, rfl, y1, u1, rfl, h5, q⟩)
                have l2 := lampOf_two (lv := p) (t := t1) (u := u1)
                cases e1 : whole t1 with
                | false =>
                  rw [e1] at w1 l2
                  refine sq_yes (ans_or1 w1) ?_
                  exact out ⟨hi, h4, ahead, .inr (lamp_bad eu (Option.not_isSome_iff_eq_none.mp (by rw [l2]; exact Bool.false_ne_true)))⟩ _ rfl
                | true =>
                  cases e2 : whole u1 with
                  | false =>
                    rw [e1] at w1
                    rw [e2] at w2
                    rw [e1, e2] at l2
                    refine sq_yes (ans_or w1 (ans_or1 w2)) ?_
                    exact out ⟨hi, h4, ahead, .inr (lamp_bad eu (Option.not_isSome_iff_eq_none.mp (by rw [l2]; exact Bool.false_ne_true)))⟩ _ rfl
                  | true =>
                    rw [e1] at w1
                    rw [e2] at w2
                    obtain ⟨a1, rfl, rfl⟩ := an_int h3 e1
                    obtain ⟨b1, rfl, rfl⟩ := an_int h5 e2
                    have ch : Ans (tTest (tChain (rI0 fun i j => .bl (decide (i < j))) (rI0 fun i j => .bl (decide (i < j))) (tC (.int 0)) (tOp (rIxT K) (tVar 3) (tC (.int 1))) (tVar 0))) [some (.int p), some (.ref a), some (.int (i : Int)), some (.ref c0)] H0 (decide (0 < b1 ∧ b1 < p)) := by
                      intro Q q
                      refine ⟨_, rfl, c0, _, 1, _, rfl, rfl, hs1, rfl, 0, b1, rfl, rfl, decide (0 < b1), rfl, ?_⟩
                      by_cases h0 : 0 < b1
                      · rw [if_pos (decide_eq_true h0)]
                        refine ⟨_, rfl, b1, p, rfl, rfl, decide (b1 < p), rfl, ?_⟩
                        have e : decide (0 < b1 ∧ b1 < p) = decide (b1 < p) := by simp [h0]
                        rw [e] at q
                        exact q
                      · rw [if_neg (by rw [decide_eq_false h0]; decide)]
                        refine ⟨false, rfl, ?_⟩
                        · have e : decide (0 < b1 ∧ b1 < p) = false := decide_eq_false fun z => h0 z.1
                          rw [e] at q
                          exact q
                    by_cases hb : 0 < b1 ∧ b1 < p
                    · rw [decide_eq_true hb] at ch
                      refine sq_no (ans_or w1 (ans_or w2 (ans_not ch))) ?_
                      have el : lampOf p (.tup [.int a1, .int b1]) = some a1 := if_pos hb
                      have here : ts[i]?.bind (lampOf p) = some a1 := by rw [eu]; exact el
                      cases i with
                      | zero =>
                        have e : badAt p ts 0 = false := by rw [bad_by (a' := 0) here (fun z => absurd z (by omega))]; rfl
                        refine st_no (ans_and0 (an_gt (val_var rfl) val_c (decide_eq_false (by decide)))) ?_
                        exact ⟨_, _, rfl, rfl, by omega, fun j hj => by have z : j = 0 := by omega
                                                                        rw [z]; exact e⟩
                      | succ j =>
                        obtain ⟨c', a', b', ex, hs', hb', _⟩ := good_val hall (i := j) (by omega) (ahead j (by omega))
                        have e := bad_by (a' := a') here (fun _ => hb')
                        have e : badAt p ts (j + 1) = decide (a1 ≤ a') := by rw [e, decide_eq_true (by omega : 0 < j + 1), Bool.true_and]
                        have cmp : Ans (tAnd (tTest (tOp (rI0 fun i j => .bl (decide (j < i))) (tVar 2) (tC (.int 0)))) (tTest (tOp (rI0 fun i j => .bl (decide (i ≤ j))) (tOp (rIxT K) (tVar 3) (tC (.int 0))) (tOp (rIxT K) (tOp (rIxT K) (tVar 1) (tOp (rI0 fun i j => .int (i - j)) (tVar 2) (tC (.int 1)))) (tC (.int 0))))))
                            [some (.int p), some (.ref a), some (.int ((j + 1 : Nat) : Int)), some (.ref c0)] H0 (decide (a1 ≤ a')) := by
                          refine ans_and (an_gt (val_var rfl) val_c (decide_eq_true (by omega))) (ans_cmp (x := .int a1) (y := .int a') (val_op (val_var rfl) val_c fun Q q => ⟨c0, _, 0, _, rfl, rfl, hs1, rfl, q⟩) ?_ fun Q q => ⟨_, _, rfl, rfl, q⟩)
                          refine val_op (x := .ref c') (val_op (val_var rfl) (val_op (z := .int (j : Int)) (val_var rfl) val_c fun Q q => ⟨_, _, rfl, rfl, ?_⟩) fun Q q => ⟨a, _, (j : Int), _, rfl, rfl, hs, L2.at_of (j := j) rfl ex, q⟩) val_c fun Q q => ⟨_, _, 0, _, rfl, rfl, hs', rfl, q⟩
                          have e : ((j + 1 : Nat) : Int) - 1 = (j : Int) := by omega
                          show Q (.int (((j + 1 : Nat) : Int) - 1)) _
                          rw [e]
                          exact q
                        by_cases h : a1 ≤ a'
                        · rw [decide_eq_true h] at cmp e
                          exact st_yes cmp (out ⟨hi, h4, ahead, .inr e⟩ _ rfl)
                        · rw [decide_eq_false h] at cmp e
                          refine st_no cmp ⟨_, _, rfl, rfl, by omega, fun k hk => ?_⟩
                          by_cases z : k = j + 1
                          · rw [z]; exact e
                          · exact ahead k (by omega)
                    · rw [decide_eq_false hb] at ch
                      have el : lampOf p (.tup [.int a1, .int b1]) = none := if_neg hb
                      refine sq_yes (ans_or w1 (ans_or w2 (ans_not ch))) ?_
                      exact out ⟨hi, h4, ahead, .inr (lamp_bad eu el)⟩ _ rfl
              · refine sq_yes (ans_or e400 (ans_or isTup (ans_ne (x := .int (xs0.length : Int)) (y := .int 2) (fun Q q => ⟨_, rfl, c0, _, rfl, .inr hs0, q⟩) val_c rfl ?_))) ?_
                · rw [decide_eq_false fun z => h2 (by have z := V.int.inj z; omega)]
                  rfl
                · exact out ⟨hi, h4, ahead, .inr (lamp_bad eu (lampOf_len h2))⟩ _ rfl
        · rintro σ' H0 ⟨x0, y0, rfl, rfl, h4, ahead⟩
          exact ⟨(by show 0 ≤ sizeLine; decide), fun l nl => q none ⟨h4, fun i hi => ahead i hi⟩ l _ (same_of nl) upd_same⟩
end
end Lamp
set_option Elab.async false
set_option linter.all false
set_option maxRecDepth 100000
set_option maxHeartbeats 1000000
namespace Lamp
open PySem PySem.Spec PyProof.Rows L2
open TL (tl tl_append ext_tl numL tl_ofString len_tl)
/-! numbers and rounds as texts -/
/-- an integer's text -/
def nS (i : Int) : Str := Str.ofString (toString i)
def sg (i : Int) : List Nat := if i < 0 then [45] else []
theorem tl_nS (i : Int) : tl (nS i) = sg i ++ numL i.natAbs := by
  cases i with
  | ofNat n =>
    have e : ¬ Int.ofNat n < 0 := by simp
    unfold sg
    rw [if_neg e]
    exact TL.tl_num n
  | negSucc n =>
    unfold sg
    rw [if_pos (Int.negSucc_lt_zero n)]
    show tl (Str.ofString ("-" ++ Nat.repr (n + 1))) = [45] ++ numL (n + 1)
    rw [tl_ofString, String.toList_append, List.map_append, Nat.toList_repr]
    rfl
theorem nS_sign {i : Int} {c : Nat} (h : c ∈ tl (nS i)) : c = 45 ∨ (48 ≤ c ∧ c ≤ 57) := by
  rw [tl_nS] at h
  rcases List.mem_append.mp h with h | h
  · unfold sg at h
    split at h
    · exact .inl (List.mem_singleton.mp h)
    · cases h
  · exact .inr (TL.numL_digits _ c h)
theorem nS_free {i : Int} {c : Nat} (h1 : c ≠ 45) (h2 : c < 48 ∨ 57 < c) : c ∉ tl (nS i) := fun z => by
  rcases nS_sign z with e | e
  · exact h1 e
  · omega
theorem nS_len {i : Int} (h : i.natAbs < 10 ^ 40) : (nS i).length ≤ 41 := by
  rw [len_tl, tl_nS, List.length_append]
  have h1 := TL.numL_len (by decide : 0 < 40) h
  have h2 : (sg i).length ≤ 1 := by
    unfold sg
    split <;> simp
  omega
theorem nS_read {i : Int} (h : i.natAbs < 10 ^ 40) : intText? (nS i) = some i := by
  have hl : (nS i).length ≤ 4300 := Nat.le_trans (nS_len h) (by decide)
  have e := tl_nS i
  unfold sg at e
  split at e
  · have z := PySem.intText_neg e (TL.numL_digits _) (TL.numL_ne _) hl
    have z2 : intText? (nS i) = some (-((NumText.digitsVal (numL i.natAbs) : Nat) : Int)) := z
    rw [TL.numL_val] at z2
    rw [z2]
    congr 1
    omega
  · rw [List.nil_append] at e
    have z := PySem.intText_digits (x := nS i) (by rw [show (nS i).cps.toList = _ from e]; exact TL.numL_digits _) (by rw [show (nS i).cps.toList = _ from e]; exact TL.numL_ne _) hl
    rw [show (nS i).cps.toList = _ from e, TL.numL_val] at z
    rw [z]
    congr 1
    omega
theorem nS_inj {i j : Int} (h1 : i.natAbs < 10 ^ 40) (h2 : j.natAbs < 10 ^ 40) (h : nS i = nS j) : i = j := by
  have e := nS_read h1
  rw [h, nS_read h2] at e
  exact (Option.some.inj e).symm
/-- without its sign -/
theorem tl_bare (i : Int) : tl (Txt.removeprefix (nS i) "-") = numL i.natAbs := by
  have hs : Builtin.Str.subAt (nS i) "-" 0 = decide (i < 0) := by
    unfold Builtin.Str.subAt
    have e : ((nS i).cps.extract 0 (0 + ("-" : Str).length)).toList = (tl (nS i)).take 1 := by
      rw [Array.toList_extract]
      rfl
    have e2 : (("-" : Str).cps).toList = [45] := rfl
    have e3 : ((nS i).cps.extract 0 (0 + ("-" : Str).length) == ("-" : Str).cps) = ((tl (nS i)).take 1 == [45]) := by
      rw [Bool.eq_iff_iff, beq_iff_eq, beq_iff_eq, ← e, ← e2]
      exact ⟨fun z => by rw [z], fun z => Array.toList_inj.mp z⟩
    rw [e3, tl_nS]
    unfold sg
    by_cases h : i < 0
    · rw [if_pos h, decide_eq_true h]
      rfl
    · rw [if_neg h, decide_eq_false h, List.nil_append]
      cases hn : numL i.natAbs with
      | nil => exact absurd hn (TL.numL_ne _)
      | cons c r =>
        have hd := TL.numL_digits i.natAbs c (by rw [hn]; exact List.mem_cons_self ..)
        show ([c] == [45]) = false
        rw [beq_eq_false_iff_ne]
        intro z
        have := (List.cons.inj z).1
        omega
  unfold Txt.removeprefix
  rw [hs]
  have e := tl_nS i
  unfold sg at e
  by_cases h : i < 0
  · rw [decide_eq_true h, if_pos rfl]
    rw [if_pos h] at e
    show tl (if ((nS i).length - ("-" : Str).length == (nS i).length) = true then nS i else Builtin.Str.strSub (nS i) ("-" : Str).length (nS i).length) = _
    have hl : (nS i).length ≠ 0 := by
      rw [len_tl, e]
      simp
    rw [if_neg (by rw [beq_iff_eq]; show ¬ (nS i).length - 1 = (nS i).length; omega), TL.tl_strSub_end, e]
    rfl
  · rw [decide_eq_false h, if_neg Bool.false_ne_true]
    rw [if_neg h] at e
    exact e
theorem dig_uni : ∀ c, c < 128 → 48 ≤ c → c ≤ 57 → Unicode.isDigit c = true := by decide +kernel
theorem all_tl (x : Str) (p : Nat → Bool) : x.cps.all p = (tl x).all p := by
  show x.cps.all p = x.cps.toList.all p
  simp
theorem bare_ascii (i : Int) : Txt.isascii (Txt.removeprefix (nS i) "-") = true := by
  unfold Txt.isascii
  rw [all_tl, tl_bare, List.all_eq_true]
  intro c hc
  have := TL.numL_digits _ c hc
  exact decide_eq_true (by omega)
theorem bare_digit (i : Int) : Txt.isdigit (Txt.removeprefix (nS i) "-") = true := by
  unfold Txt.isdigit
  rw [all_tl, len_tl, tl_bare, Bool.and_eq_true, List.all_eq_true]
  refine ⟨decide_eq_true ?_, fun c hc => ?_⟩
  · cases hn : numL i.natAbs with
    | nil => exact absurd hn (TL.numL_ne _)
    | cons c r => exact Nat.succ_pos _
  · have := TL.numL_digits _ c hc
    exact dig_uni c (by omega) this.1 this.2
/-- a lamp's word -/
def lampS (q : Int × Int) : Str := nS q.1 ++ ":" ++ nS q.2
theorem tl_lampS (q : Int × Int) : tl (lampS q) = tl (nS q.1) ++ 58 :: tl (nS q.2) := by
  unfold lampS
  rw [tl_append, tl_append, List.append_assoc]
  rfl
theorem lampS_free (q : Int × Int) : 32 ∉ tl (lampS q) := by
  rw [tl_lampS]
  intro h
  rcases List.mem_append.mp h with h | h
  · exact nS_free (by decide) (.inl (by decide)) h
  · rcases List.mem_cons.mp h with h | h
    · cases h
    · exact nS_free (by decide) (.inl (by decide)) h
theorem lampS_len {q : Int × Int} (h1 : q.1.natAbs < 10 ^ 40) (h2 : q.2.natAbs < 10 ^ 40) : (lampS q).length ≤ 83 := by
  rw [len_tl, tl_lampS, List.length_append, List.length_cons]
  have e1 := nS_len h1
  have e2 := nS_len h2
  rw [len_tl] at e1 e2
  omega
/-- the words behind the end -/
def tailWs (ls : List (Int × Int)) : List Str := match ls with
  | [] => ["dark"]
  | l :: r => "lamps" :: (l :: r).map lampS
def wordsS (lv : Int) (ls : List (Int × Int)) (fin : Int) : List Str := [("levels" : Str), nS lv, ("end" : Str), nS fin] ++ tailWs ls
def sheetS (lv : Int) (ls : List (Int × Int)) (fin : Int) : Str := Txt.join " " (wordsS lv ls fin)
theorem wordsS_free (lv : Int) (ls : List (Int × Int)) (fin : Int) : ∀ p ∈ wordsS lv ls fin, 32 ∉ tl p := by
  intro p hp
  unfold wordsS at hp
  rcases List.mem_append.mp hp with h | h
  · simp only [List.mem_cons, List.not_mem_nil, or_false] at h
    rcases h with rfl | rfl | rfl | rfl
    · decide
    · exact nS_free (by decide) (.inl (by decide))
    · decide
    · exact nS_free (by decide) (.inl (by decide))
  · cases ls with
    | nil =>
      rw [show tailWs [] = [("dark" : Str)] from rfl] at h
      rw [List.mem_singleton.mp h]
      decide
    | cons l r =>
      rcases List.mem_cons.mp h with h | h
      · rw [h]; decide
      · obtain ⟨q, _, rfl⟩ := List.mem_map.mp h
        exact lampS_free q
theorem sheet_split (lv : Int) (ls : List (Int × Int)) (fin : Int) : Txt.split (sheetS lv ls fin) " " = wordsS lv ls fin :=
  TL.split_join (y := (" " : Str)) (s := 32) (S := []) rfl (by rw [all_tl]; decide) (by unfold wordsS; simp) (wordsS_free lv ls fin)
theorem lamp_part (q : Int × Int) : Txt.partition (lampS q) ":" = (nS q.1, (":" : Str), nS q.2) :=
  TL.partition_app (y := (":" : Str)) (s := 58) (S := []) rfl (nS_free (by decide) (.inr (by decide)))
end Lamp
set_option Elab.async false
set_option linter.all false
set_option maxRecDepth 100000
set_option maxHeartbeats 1000000
namespace Lamp
open PySem PySem.Spec PyProof.Rows L2 LamX
abbrev sSort : Stmt := top 37
abbrev sDue : Stmt := top 38
/-! what is due, as the law tells it -/
def rD : Option Nat → PyData
  | none => .none
  | some i => .int (i : Int)
def dueL (dl de : PyData) : Due → List V
  | .lv => [.str "InvalidLevels", .str dl.shown]
  | .la r => [.str "InvalidLamps", .str (rD r).shown]
  | .nu => [.str "InvalidNumber", .str de.shown]
  | .ok => []
def spDue (K : PySem.W.Frag) : Sp := fun vs H Q _ => ∃ (lv la en : V) (tl ta te : T) (dl de : PyData), vs = [lv, la, en] ∧ An K H lv tl ∧ An K H la ta ∧ An K H en te ∧ Dq K H lv dl ∧ okD dl = true ∧ Dq K H en de ∧ okD de = true ∧ (∀ ts, ta = .tup ts → ts.length ≤ 1000) ∧
  ∀ d l H', DueOf tl ta te d → Same H H' → H l = none → H' l = some (.lst (dueL dl de d)) → Q (.ref l) H'
theorem small_log {i : Nat} (h : i ≤ 1000) : (((i : Nat) : Int)).natAbs.log2 < 1920 := Nat.lt_trans (PySem.Flt.log2_lt_of (k := 133) (by decide) (by omega)) (by decide)
section
variable {P : Program} {w : World} {K : PySem.W.Frag} {mg : Str → Option Value} {base : Heap}
theorem scDue : FnScope ["_law_p", "_law_some_here", "_law_last", "_law_wrong"] ["_law_p", "_law_some_here", "_law_last"] (defScope sDue) := ⟨rfl, rfl, rfl, by decide +kernel, rfl, by decide +kernel, by decide +kernel⟩
theorem le_line {n : Nat} (h : n ≤ 1000) : n ≤ sizeLine := Nat.le_of_lt (small1000 h)
theorem okI {i : Nat} (h : i ≤ 1000) : (rD (some i)).showable = true ∧ (rD (some i)).depth ≤ 60 ∧ (rD (some i)).shown.length ≤ sizeLine := by
  refine ⟨decide_eq_true (small_log h), Nat.zero_le _, ?_⟩
  have hl : (nS (i : Int)).length ≤ 41 := nS_len (by omega)
  exact le_line (Nat.le_trans hl (by decide))
theorem okN : (rD none).showable = true ∧ (rD none).depth ≤ 60 ∧ (rD none).shown.length ≤ sizeLine := by
  refine ⟨rfl, by decide, ?_⟩
  exact le_line (by decide +kernel)
theorem ok_due {f : Addr} {fd : FuncData} (F : Fun K "_law_due" "_law_due" sDue f fd) (W : Dr P w K mg base (spIsInt K) "_law_is_whole" ["_law_value"] 1) (Lv : Dr P w K mg base (spIsLv K) "_law_is_levels" ["_law_value"] 2) (Wr : Dr P w K mg base (spWrongs K) "_law_wrong_lamps" ["_law_p", "_law_value"] 2)
    (mp : mg "repr" = none) : FnG P w K mg base 3 f fd ["_law_p", "_law_some_here", "_law_last"] (spDue K) := by
  refine okG F scDue (fun vs H Q E h => ?_) (fun cdv A outer s H vs Q E hgd hr h => ?_)
  · obtain ⟨lv, la, en, _, _, _, _, _, rfl, _⟩ := h
    rfl
  · obtain ⟨lv, la, en, tl, ta, te, dl, de, rfl, hl, ha, hn, ql, kl, qe, ke, few, q⟩ := h
    have hu := hr.units
    refine ⟨_, pss_cons (ps_if (pt_not (pt_val (pe_dr Lv (Nat.le_refl _) hr rfl (pa_cons (pv 0) pa_nil)))) (pss_one (ps_ret (pe_lst (pa_cons pe_str (pa_cons (pe_callB (call_reprD hgd hu) (by rfl) mp (by decide +kernel) (pa_cons (pv 0) pa_nil)) pa_nil))))) pss_nil)
      (pss_cons (ps_set (i := 3) scDue.nd rfl (.inl rfl) (pe_dr Wr (Nat.le_refl _) hr rfl (pa_cons (pv 0) (pa_cons (pv 1) pa_nil))))
      (pss_cons (ps_if (pt_cmpR (op_neD hu) (pv 3) (pe_lst pa_nil) (nomark _)) (pss_one (ps_ret (pe_lst (pa_cons pe_str (pa_cons (pe_callB (call_reprD hgd hu) (by rfl) mp (by decide +kernel) (pa_cons (pe_ix ix_list (pv 3) pe_int (fun _ _ => rfl)) pa_nil)) pa_nil))))) pss_nil)
      (pss_one (ps_ret (pe_ifExp (pt_val (pe_dr W (by decide) hr rfl (pa_cons (pv 2) pa_nil))) (pe_lst pa_nil) (pe_lst (pa_cons pe_str (pa_cons (pe_callB (call_reprD hgd hu) (by rfl) mp (by decide +kernel) (pa_cons (pv 2) pa_nil)) pa_nil)))))))), ?_⟩
    have kl3 := okD_of kl
    have ke3 := okD_of ke
    refine ⟨_, rfl, lv, tl, rfl, hl, fun H1 s1 => ⟨_, rfl, ?_⟩⟩
    cases el : levelsB tl with
    | false =>
      refine iteT ?_
      refine ⟨_, rfl, lv, dl, rfl, dq_same s1 ql, kl3.1, kl3.2.1, kl3.2.2, (by show 2 ≤ sizeLine; decide), fun l nl => ?_⟩
      exact q .lv l _ el (s1.trans (same_of nl)) (s1.free nl) upd_same
    | true =>
      refine iteF ?_
      obtain ⟨p, rfl⟩ := level_int el
      cases hl
      refine ⟨_, rfl, _, rfl, p, la, ta, rfl, an_same s1 ha, fun et l H2 s2 hl2 => ?_, fun ts et => ⟨few ts et, fun r hj l H2 s2 hl2 => ?_⟩⟩
      · dsimp only [gName]
        have s12 := s1.trans s2
        refine ⟨_, rfl, (by show 0 ≤ sizeLine; decide), fun l3 n3 => ?_⟩
        have s3 := same_of (o := .lst []) n3
        refine ⟨.list [.none], .list [], .lst (SqL.of (s3 _ _ hl2)) (.cons .non .nil), .lst (SqL.of upd_same) .nil, by decide, by decide, ⟨_, rfl, ?_⟩⟩
        refine iteT ?_
        refine ⟨_, rfl, l, _, 0, .non, rfl, rfl, SqL.of (s3 _ _ hl2), rfl, .non, .none, rfl, .plain .non, okN.1, okN.2.1, okN.2.2, (by show 2 ≤ sizeLine; decide), fun l4 n4 => ?_⟩
        exact q (.la none) l4 _ ⟨el, et⟩ ((s12.trans s3).trans (same_of n4)) ((s12.trans s3).free n4) upd_same
      · subst et
        dsimp only [gName]
        have s12 := s1.trans s2
        refine ⟨_, rfl, (by show 0 ≤ sizeLine; decide), fun l3 n3 => ?_⟩
        have s3 := same_of (o := .lst []) n3
        cases r with
        | some i =>
          have hi : i ≤ 1000 := by
            obtain ⟨_, h, _⟩ := hj
            omega
          refine ⟨.list [.int (i : Int)], .list [], .lst (SqL.of (s3 _ _ hl2)) (.cons (.int _) .nil), .lst (SqL.of upd_same) .nil, rfl, by decide, ⟨_, rfl, ?_⟩⟩
          refine iteT ?_
          refine ⟨_, rfl, l, _, 0, .int (i : Int), rfl, rfl, SqL.of (s3 _ _ hl2), rfl, _, rD (some i), rfl, .plain (.int _), (okI hi).1, (okI hi).2.1, (okI hi).2.2, (by show 2 ≤ sizeLine; decide), fun l4 n4 => ?_⟩
          exact q (.la (some i)) l4 _ ⟨el, p, ts, rfl, rfl, hj⟩ ((s12.trans s3).trans (same_of n4)) ((s12.trans s3).free n4) upd_same
        | none =>
          refine ⟨.list [], .list [], .lst (SqL.of (s3 _ _ hl2)) .nil, .lst (SqL.of upd_same) .nil, by decide, by decide, ⟨_, rfl, ?_⟩⟩
          refine iteF ?_
          have s13 := s12.trans s3
          refine ⟨_, rfl, en, te, rfl, an_same s13 hn, whole te, rfl, ?_⟩
          cases ew : whole te with
          | true =>
            refine iteT ⟨(by show 0 ≤ sizeLine; decide), fun l4 n4 => ?_⟩
            exact q .ok l4 _ ⟨el, p, ts, rfl, rfl, hj, ew⟩ (s13.trans (same_of n4)) (s13.free n4) upd_same
          | false =>
            refine iteF ⟨_, rfl, en, de, rfl, dq_same s13 qe, ke3.1, ke3.2.1, ke3.2.2, (by show 2 ≤ sizeLine; decide), fun l4 n4 => ?_⟩
            exact q .nu l4 _ ⟨el, p, ts, rfl, rfl, hj, ew⟩ (s13.trans (same_of n4)) (s13.free n4) upd_same
end
end Lamp
set_option Elab.async false
set_option linter.all false
set_option maxRecDepth 100000
set_option maxHeartbeats 1000000
namespace Lamp
open PySem PySem.Spec PyProof.Rows L2 LamX
/-! the sorting of errors -/
/-- the classes: what holds of them -/
structure KdX (K : PySem.W.Frag) (mg : Str → Option Value) (cA cB cC xA xL xN D : Addr) (b0 b1 b2 : Bool) : Prop where
  T : ∃ (B newId initId : String) (tail : List Value), EC K D B newId initId tail
  ki : PySem.W.findIn K (.ref D) "index" = some none
  kg : PySem.W.findIn K (.ref D) "given" = some none
  k1 : PySem.W.kitOne K (.ref D) (.ref cA) = some true
  k2 : PySem.W.kitOne K (.ref D) (.ref cB) = some false
  k3 : PySem.W.kitOne K (.ref D) (.ref cC) = some false
  k4 : PySem.W.kitOne K (.ref D) (.type "ValueError") = some true
  k5 : PySem.W.kitOne K (.ref D) (.type "LookupError") = some false
  k6 : PySem.W.kitOne K (.ref D) (.type "ArithmeticError") = some false
  kA : PySem.W.kitOne K (.ref D) (.ref xA) = some b0
  kL : PySem.W.kitOne K (.ref D) (.ref xL) = some b1
  kN : PySem.W.kitOne K (.ref D) (.ref xN) = some b2
/-- the names that the law's defs ask -/
structure NmX (mg : Str → Option Value) (cA cB cC xA xL xN : Addr) : Prop where
  mA : mg "WrongValue" = some (.ref cA)
  mB : mg "WrongName" = some (.ref cB)
  mC : mg "NotPossible" = some (.ref cC)
  mx : mg "InvalidLamps" = some (.ref xA)
  ml : mg "InvalidLevels" = some (.ref xL)
  mn : mg "InvalidNumber" = some (.ref xN)
  n1 : mg "ValueError" = none
  n2 : mg "LookupError" = none
  n3 : mg "ArithmeticError" = none
def ErrOf (xL xA xN : Addr) (D : Addr) (f n : Str) : Prop := (D = xA ∧ f = "index" ∧ n = "InvalidLamps") ∨ (D = xL ∧ f = "given" ∧ n = "InvalidLevels") ∨ (D = xN ∧ f = "given" ∧ n = "InvalidNumber")
def spSort (K : PySem.W.Frag) (xL xA xN : Addr) : SpP := fun a D dd vs H Q _ => vs = [.ref a] ∧ ∃ (f n : Str) (y : V) (d : PyData), ErrOf xL xA xN D f n ∧ H dd = some (exd dd [(f, y)]) ∧ Dq K H y d ∧ okD d = true ∧ ∀ l H', Same H H' → H l = none → H' l = some (.lst [.str n, .str d.shown]) → Q (.ref l) H'
def flD : PyData := .list ([true, false, false].map PyData.bool)
theorem fl_ok : SeqAt.shaped flD = true ∧ PyData.eqv flD flD = true := by decide +kernel
theorem fl_cnt : (([true, false, false].map PyData.bool).countP fun z => PyData.eqv z (.bool true)) = 1 := by decide +kernel
theorem sq_lstVn {ta : TA} {σ : L2.St} {H : Hp} {vs : List V} {t2 : TS} {D : Ends} {i : Nat} (h : VA ta σ H vs) (hl : vs.length ≤ 100) (k : ∀ l H', H l = none → H' l = some (.lst vs) → Same H H' → t2 D (σ.set i (some (.ref l))) H') : tSeq (tAsg (tLst ta) (gName i)) t2 D σ H :=
  h _ ⟨Nat.le_of_lt (small1000 (by omega)), fun r hr => k r _ hr upd_same (same_of hr)⟩
section
variable {P : Program} {w : World} {K : PySem.W.Frag} {mg : Str → Option Value} {base : Heap} {cA cB cC xA xL xN : Addr}
theorem scSort : FnScope ["_law_e", "_law_bases", "_law_plain", "_law_found"] ["_law_e"] (defScope sSort) := ⟨rfl, rfl, rfl, by decide +kernel, rfl, by decide +kernel, by decide +kernel⟩
theorem ok_sort {f : Addr} {fd : FuncData} (F : Fun K "_law_sort" "_law_sort" sSort f fd) (G : ClsG K) (N : NmX mg cA cB cC xA xL xN) (DA : KdX K mg cA cB cC xA xL xN xA true false false) (DL : KdX K mg cA cB cC xA xL xN xL false true false) (DN : KdX K mg cA cB cC xA xL xN xN false false true)
    (mis : mg "isinstance" = none) (mp : mg "repr" = none) (ml : mg "len" = none) : FnP P w K mg base 2 f fd ["_law_e"] (spSort K xL xA xN) := by
  refine okP F scSort (fun a D dd vs H Q E h => ?_) (fun cdv A outer s H vs Q p D dd hgd hr Z h => ?_)
  · obtain ⟨rfl, _⟩ := h
    rfl
  · obtain ⟨rfl, fl, n, y, d, he, hd, hq, kd, q⟩ := h
    obtain ⟨b0, b1, b2, DD, hb⟩ : ∃ b0 b1 b2, KdX K mg cA cB cC xA xL xN D b0 b1 b2 ∧ ((b0 = true ∧ b1 = false ∧ b2 = false ∧ fl = "index" ∧ n = "InvalidLamps") ∨ (b0 = false ∧ b1 = true ∧ b2 = false ∧ fl = "given" ∧ n = "InvalidLevels") ∨ (b0 = false ∧ b1 = false ∧ b2 = true ∧ fl = "given" ∧ n = "InvalidNumber")) := by
      rcases he with ⟨rfl, e1, e2⟩ | ⟨rfl, e1, e2⟩ | ⟨rfl, e1, e2⟩
      · exact ⟨_, _, _, DA, .inl ⟨rfl, rfl, rfl, e1, e2⟩⟩
      · exact ⟨_, _, _, DL, .inr (.inl ⟨rfl, rfl, rfl, e1, e2⟩)⟩
      · exact ⟨_, _, _, DN, .inr (.inr ⟨rfl, rfl, rfl, e1, e2⟩)⟩
    have hu : (A.deeper (envOfC "_law_sort" (defScope sSort) s.heap.objs.size f cdv)).units + 64 < cLine := by have := hr.un; omega
    have hp : p ∈ (L2H.cxH CX0 P w K mg base ["_law_e", "_law_bases", "_law_plain", "_law_found"] "_law_sort" (defScope sSort) f cdv A outer s H E0 p).nox.pn := List.mem_cons_self ..
    refine ⟨_, pss_cons (ps_set (i := 1) scSort.nd rfl (.inl rfl) (pe_lst (pa_cons (pe_callB (call_isP G DD.T hp Z) (by rfl) mis (by decide +kernel) (pa_cons (pv 0) (pa_cons (pe_glob (v := .ref cA) rfl N.mA rfl) pa_nil)))
          (pa_cons (pe_callB (call_isP G DD.T hp Z) (by rfl) mis (by decide +kernel) (pa_cons (pv 0) (pa_cons (pe_glob (v := .ref cB) rfl N.mB rfl) pa_nil))) (pa_cons (pe_callB (call_isP G DD.T hp Z) (by rfl) mis (by decide +kernel) (pa_cons (pv 0) (pa_cons (pe_glob (v := .ref cC) rfl N.mC rfl) pa_nil))) pa_nil)))))
      (pss_cons (ps_set (i := 2) scSort.nd rfl (.inl rfl) (pe_lst (pa_cons (pe_callB (call_isP G DD.T hp Z) (by rfl) mis (by decide +kernel) (pa_cons (pv 0) (pa_cons (pe_bltn (v := .ty "ValueError") (by rfl) N.n1 (by decide +kernel) rfl) pa_nil)))
          (pa_cons (pe_callB (call_isP G DD.T hp Z) (by rfl) mis (by decide +kernel) (pa_cons (pv 0) (pa_cons (pe_bltn (v := .ty "LookupError") (by rfl) N.n2 (by decide +kernel) rfl) pa_nil))) (pa_cons (pe_callB (call_isP G DD.T hp Z) (by rfl) mis (by decide +kernel) (pa_cons (pv 0) (pa_cons (pe_bltn (v := .ty "ArithmeticError") (by rfl) N.n3 (by decide +kernel) rfl) pa_nil))) pa_nil)))))
      (pss_cons (ps_set (i := 3) scSort.nd rfl (.inl rfl) (pe_lst pa_nil))
      (pss_cons (ps_if (pt_val (pe_callB (call_isP G DD.T hp Z) (by rfl) mis (by decide +kernel) (pa_cons (pv 0) (pa_cons (pe_glob (v := .ref xA) rfl N.mx rfl) pa_nil)))) (pss_one (ps_expr (pe_bm PySem.F.plainAttrs_list PySem.F.slot_list_append PySem.F.type_list_append mt_append (pv 3)
          (pa_cons (pe_lst (pa_cons pe_str (pa_cons (pe_callB (call_reprD hgd hu) (by rfl) mp (by decide +kernel) (pa_cons (pe_xfP DD.T DD.ki hp Z (pv 0)) pa_nil)) pa_nil))) pa_nil)))) pss_nil)
      (pss_cons (ps_if (pt_val (pe_callB (call_isP G DD.T hp Z) (by rfl) mis (by decide +kernel) (pa_cons (pv 0) (pa_cons (pe_glob (v := .ref xL) rfl N.ml rfl) pa_nil)))) (pss_one (ps_expr (pe_bm PySem.F.plainAttrs_list PySem.F.slot_list_append PySem.F.type_list_append mt_append (pv 3)
          (pa_cons (pe_lst (pa_cons pe_str (pa_cons (pe_callB (call_reprD hgd hu) (by rfl) mp (by decide +kernel) (pa_cons (pe_xfP DD.T DD.kg hp Z (pv 0)) pa_nil)) pa_nil))) pa_nil)))) pss_nil)
      (pss_cons (ps_if (pt_val (pe_callB (call_isP G DD.T hp Z) (by rfl) mis (by decide +kernel) (pa_cons (pv 0) (pa_cons (pe_glob (v := .ref xN) rfl N.mn rfl) pa_nil)))) (pss_one (ps_expr (pe_bm PySem.F.plainAttrs_list PySem.F.slot_list_append PySem.F.type_list_append mt_append (pv 3)
          (pa_cons (pe_lst (pa_cons pe_str (pa_cons (pe_callB (call_reprD hgd hu) (by rfl) mp (by decide +kernel) (pa_cons (pe_xfP DD.T DD.kg hp Z (pv 0)) pa_nil)) pa_nil))) pa_nil)))) pss_nil)
      (pss_one (ps_ret (pe_ifExp (PW.pt (pw_and (pt_cmpR op_eq (pe_callB call_len_seq (by rfl) ml PySem.boot_len (pa_cons (pv 3) pa_nil)) pe_int (nomark _)) (pw_and (pt_cmpR (op_eqD hu) (pv 1) (pv 2) (nomark _))
          (pw_and1 (pt_cmpR op_eq (pe_bm PySem.F.plainAttrs_list PySem.F.slot_list_count PySem.F.type_list_count (mt_cntD hu) (pv 1) (pa_cons pe_bl pa_nil)) pe_int (nomark _))))))
          (pe_ix ix_list (pv 3) pe_int (fun _ _ => rfl)) (pe_lst (pa_cons pe_str (pa_cons pe_str pa_nil))))))))))), ?_⟩
    refine sq_lstV (va_cons (v_isP rfl hd DD.k1) (va_cons (v_isP rfl hd DD.k2) (va_cons (v_isP rfl hd DD.k3) va_nil))) (by decide) fun l1 H1 h1 s1 => ?_
    have hd1 := s1 _ _ hd
    refine sq_lstV (va_cons (v_isPT rfl hd1 DD.k4) (va_cons (v_isPT rfl hd1 DD.k5) (va_cons (v_isPT rfl hd1 DD.k6) va_nil))) (by decide) fun l2 H2 h2 s2 => ?_
    refine sq_lstVn va_nil (by decide) fun l3 H3 n3 h3 s3 => ?_
    have n3 := (s1.trans s2).free n3
    dsimp only [List.set, L2.start, List.map, List.length, List.replicate, List.append]
    have hd3 := s3 _ _ (s2 _ _ hd1)
    have g2 := s3 _ _ h2
    have g1 := s3 _ _ (s2 _ _ h1)
    have s03 := (s1.trans s2).trans s3
    have hq3 := dq_same s03 hq
    have kd3 := okD_of kd
    have n31 : l1 ≠ l3 := fun z => by rw [z, h3] at g1; cases g1
    have n32 : l2 ≠ l3 := fun z => by rw [z, h3] at g2; cases g2
    have n3d : dd ≠ l3 := fun z => by rw [z, h3] at hd3; unfold exd at hd3; cases hd3
    have app : ∀ l4, H3 l4 = none → ∃ H4, H4 = upd (upd H3 l4 (.lst [.str n, .str d.shown])) l3 (.lst [.ref l4]) ∧ (upd H3 l4 (.lst [.str n, .str d.shown])) l3 = some (.lst []) ∧ H4 l1 = some (.lst [.bl true, .bl false, .bl false]) ∧ H4 l2 = some (.lst [.bl true, .bl false, .bl false]) ∧ H4 l3 = some (.lst [.ref l4]) ∧ H4 l4 = some (.lst [.str n, .str d.shown]) ∧ H4 dd = some (exd dd [(fl, y)]) := fun l4 n4 => by
      have m1 := ne_of_none g1 n4
      have m2 := ne_of_none g2 n4
      have m3 := ne_of_none h3 n4
      have md := ne_of_none hd3 n4
      refine ⟨_, rfl, by rw [upd_ne m3]; exact h3, ?_, ?_, upd_same, ?_, ?_⟩
      · rw [upd_ne n31, upd_ne m1]; exact g1
      · rw [upd_ne n32, upd_ne m2]; exact g2
      · rw [upd_ne (Ne.symm m3), upd_same]
      · rw [upd_ne n3d, upd_ne md]; exact hd3
    have newL : ∀ l4, H3 l4 = none → Same H (upd (upd H3 l4 (.lst [.str n, .str d.shown])) l3 (.lst [.ref l4])) := fun l4 n4 b o e => by
      rw [upd_ne (ne_of_none e n3), upd_ne (ne_of_none (s03 _ _ e) n4)]
      exact s03 _ _ e
    have tail : ∀ (D' : Ends) (l4 : Addr) (H4 : Hp), D'.rt = Q → H l4 = none → Same H H4 → H4 l1 = some (.lst [.bl true, .bl false, .bl false]) → H4 l2 = some (.lst [.bl true, .bl false, .bl false]) → H4 l3 = some (.lst [.ref l4]) → H4 l4 = some (.lst [.str n, .str d.shown]) →
        tRet (tIf (tAnd (tTest (tOp rEq (tCB (fun xs H Q => ∃ p ys, xs = [.ref p] ∧ (SqL K H p ys ∨ SqT K H p ys) ∧ Q (.int ys.length) H) (tCons (tVar 3) tNil)) (tC (.int 1)))) (tAnd (tTest (tOp (rEqD K) (tVar 1) (tVar 2))) (tTest (tOp rEq (tBM K "list" (rCntD K) (tVar 1) (tCons (tC (.bl true)) tNil)) (tC (.int 1))))))
          (tOp (rIxL K) (tVar 3) (tC (.int 0))) (tLst (tCons (tC (.str "other")) (tCons (tC (.str "")) tNil)))) D' [some (.ref p.1), some (.ref l1), some (.ref l2), some (.ref l3)] H4 := by
      intro D' l4 H4 eD n4 s4 e1 e2 e3 e4
      have a3 : Ans (tTest (tOp rEq (tBM K "list" (rCntD K) (tVar 1) (tCons (tC (.bl true)) tNil)) (tC (.int 1)))) [some (.ref p.1), some (.ref l1), some (.ref l2), some (.ref l3)] H4 true := by
        refine ans_eq (x := .int 1) (y := .int 1) (fun Q q => ⟨_, rfl, .inl ⟨rfl, _, SqL.of e1⟩, l1, _, .bl true, [true, false, false].map PyData.bool, .bool true, rfl, rfl, SqL.of e1, dpAll_bools (bs := [true, false, false]), .bl true, by decide, by decide, by decide, ?_⟩) val_c rfl rfl
        rw [fl_cnt]
        exact q
      have a2 : Ans (tTest (tOp (rEqD K) (tVar 1) (tVar 2))) [some (.ref p.1), some (.ref l1), some (.ref l2), some (.ref l3)] H4 true := by
        intro Q q
        refine ⟨_, rfl, _, rfl, flD, flD, .lst (SqL.of e1) (dpAll_bools (bs := [true, false, false])), .lst (SqL.of e2) (dpAll_bools (bs := [true, false, false])), fl_ok.1, fl_ok.1, _, rfl, ?_⟩
        rw [fl_ok.2]
        exact q
      have a1 : Ans (tTest (tOp rEq (tCB (fun xs H Q => ∃ p ys, xs = [.ref p] ∧ (SqL K H p ys ∨ SqT K H p ys) ∧ Q (.int ys.length) H) (tCons (tVar 3) tNil)) (tC (.int 1)))) [some (.ref p.1), some (.ref l1), some (.ref l2), some (.ref l3)] H4 true := ans_eq (x := .int 1) (y := .int 1) (fun Q q => ⟨_, rfl, l3, _, rfl, .inl (SqL.of e3), q⟩) val_c rfl rfl
      refine ans_and a1 (ans_and a2 a3) _ ?_
      refine iteT ⟨_, rfl, l3, _, 0, .ref l4, rfl, rfl, SqL.of e3, rfl, ?_⟩
      rw [eD]
      exact q l4 H4 s4 n4 e4
    rcases hb with ⟨rfl, rfl, rfl, rfl, rfl⟩ | ⟨rfl, rfl, rfl, rfl, rfl⟩ | ⟨rfl, rfl, rfl, rfl, rfl⟩
    · refine sq_yes (ans_val (v_isP rfl hd3 DD.kA)) ?_
      refine ⟨_, rfl, .inl ⟨rfl, _, SqL.of h3⟩, _, rfl, rfl, _, y, hd3, by rw [List.lookup_cons, beq_self_eq_true], y, d, rfl, hq3, kd3.1, kd3.2.1, kd3.2.2, (by show 2 ≤ sizeLine; decide), fun l4 n4 => ?_⟩
      obtain ⟨H4, e4, g0, j1, j2, j3, j4, jd⟩ := app l4 n4
      have s4 := newL l4 n4
      refine ⟨l3, [], _, rfl, rfl, g0, (by show 0 < sizeLine; decide), ?_⟩
      rw [← e4] at s4
      show tSeq _ _ _ _ (upd (upd H3 l4 (.lst [.str _, .str d.shown])) l3 (.lst [.ref l4]))
      rw [← e4]
      refine sq_no (ans_val (v_isP rfl jd DD.kL)) ?_
      refine sq_no (ans_val (v_isP rfl jd DD.kN)) ?_
      exact tail _ l4 H4 (by rfl) (s03.free n4) s4 j1 j2 j3 j4
    · refine sq_no (ans_val (v_isP rfl hd3 DD.kA)) ?_
      refine sq_yes (ans_val (v_isP rfl hd3 DD.kL)) ?_
      refine ⟨_, rfl, .inl ⟨rfl, _, SqL.of h3⟩, _, rfl, rfl, _, y, hd3, by rw [List.lookup_cons, beq_self_eq_true], y, d, rfl, hq3, kd3.1, kd3.2.1, kd3.2.2, (by show 2 ≤ sizeLine; decide), fun l4 n4 => ?_⟩
      obtain ⟨H4, e4, g0, j1, j2, j3, j4, jd⟩ := app l4 n4
      have s4 := newL l4 n4
      refine ⟨l3, [], _, rfl, rfl, g0, (by show 0 < sizeLine; decide), ?_⟩
      rw [← e4] at s4
      show tSeq _ _ _ _ (upd (upd H3 l4 (.lst [.str _, .str d.shown])) l3 (.lst [.ref l4]))
      rw [← e4]
      refine sq_no (ans_val (v_isP rfl jd DD.kN)) ?_
      exact tail _ l4 H4 (by rfl) (s03.free n4) s4 j1 j2 j3 j4
    · refine sq_no (ans_val (v_isP rfl hd3 DD.kA)) ?_
      refine sq_no (ans_val (v_isP rfl hd3 DD.kL)) ?_
      refine sq_yes (ans_val (v_isP rfl hd3 DD.kN)) ?_
      refine ⟨_, rfl, .inl ⟨rfl, _, SqL.of h3⟩, _, rfl, rfl, _, y, hd3, by rw [List.lookup_cons, beq_self_eq_true], y, d, rfl, hq3, kd3.1, kd3.2.1, kd3.2.2, (by show 2 ≤ sizeLine; decide), fun l4 n4 => ?_⟩
      obtain ⟨H4, e4, g0, j1, j2, j3, j4, jd⟩ := app l4 n4
      have s4 := newL l4 n4
      refine ⟨l3, [], _, rfl, rfl, g0, (by show 0 < sizeLine; decide), ?_⟩
      rw [← e4] at s4
      dsimp only
      show tRet _ _ _ (upd (upd H3 l4 (.lst [.str _, .str d.shown])) l3 (.lst [.ref l4]))
      rw [← e4]
      exact tail _ l4 H4 (by rfl) (s03.free n4) s4 j1 j2 j3 j4
end
end Lamp
set_option Elab.async false
set_option linter.all false
set_option maxRecDepth 100000
set_option maxHeartbeats 1000000
namespace Lamp
open PySem PySem.Spec PyProof.Rows L2 LamX
abbrev sThing : Stmt := top 33
abbrev sBent : Stmt := top 34
section
variable {P : Program} {w : World} {K : PySem.W.Frag} {mg : Str → Option Value} {base : Heap}
/-! the things -/
def things : List PyData := [.none, .bool true, .bool false, .int 0, .int 1, .int (-1), .int 2, .int 4, .int (-(10 ^ (39 : Int).toNat)), .str "", .str "a", .str "levels 2 end 0 dark", .tuple [], .tuple [.int 0], .tuple [.int 0, .int 1], .str "A"] ++
  [.list [], .list [.int 1], .dict [], .dict [(.str "a", .int 1)], .tuple [.tuple [.int 0, .int 1]], .tuple [.tuple [.int 1, .int 1], .tuple [.int 0, .int 1]], .tuple [.str "step", .int 1], .tuple [.none], .str "abcdefghi", .str "+>", .int 11]
theorem things_ok : things.all okD = true := by decide +kernel
def spThing (K : PySem.W.Frag) : Sp := fun vs H Q _ => ∃ (p : Addr), vs = [.ref p] ∧ Pail H p ∧ ∀ (v : V) (d : PyData) H', Dq K (delH H' p) v d → d ∈ things → Pail H' p → But p H H' → Q v H'
theorem sq_lstQ {ta : TA} {ds : List PyData} {t2 : TS} {D : Ends} {σ : L2.St} {H : Hp} {i : Nat} {p : Addr} (h : EvQs K p ta ds) (hp : Pail H p) (hl : ds.length ≤ 100)
    (k : ∀ l vs H', H' l = some (.lst vs) → l ≠ p → Same H H' → Paired (Dq K (delH H' p)) vs ds → t2 D (σ.set i (some (.ref l))) H') : tSeq (tAsg (tLst ta) (gName i)) t2 D σ H := h σ H hp _ fun vs H1 s1 d1 => by
  have hlen := Paired.length d1
  refine ⟨Nat.le_of_lt (small1000 (by omega)), fun r hr => ?_⟩
  have s2 : Same H1 (upd H1 r (.lst vs)) := same_of hr
  exact k r vs _ upd_same ((hp.same s1).ne hr) (s1.trans s2) (paired_same (But.of s2).del d1)
theorem sq_catQ {ta : TA} {ds ds0 : List PyData} {vs0 : List V} {t2 : TS} {D : Ends} {σ : L2.St} {H : Hp} {i : Nat} {p l0 : Addr} (hx : σ[i]? = some (some (.ref l0))) (h0 : H l0 = some (.lst vs0)) (ne0 : l0 ≠ p) (d0 : Paired (Dq K (delH H p)) vs0 ds0) (h : EvQs K p ta ds) (hp : Pail H p) (hl : ds.length ≤ 100) (hl0 : ds0.length ≤ 100)
    (k : ∀ l vs H', H' l = some (.lst vs) → l ≠ p → Same H H' → Paired (Dq K (delH H' p)) vs (ds0 ++ ds) → t2 D (σ.set i (some (.ref l))) H') : tSeq (tAsg (tOp rCat (tVar i) (tLst ta)) (gName i)) t2 D σ H := by
  refine ⟨_, hx, h σ H hp _ fun vs H1 s1 d1 => ?_⟩
  have hlen := Paired.length d1
  have hlen0 := Paired.length d0
  refine ⟨Nat.le_of_lt (small1000 (by omega)), fun r hr => ?_⟩
  have s2 : Same H1 (upd H1 r (.lst vs)) := same_of hr
  refine ⟨l0, r, vs0, vs, rfl, rfl, s2 _ _ (s1 _ _ h0), upd_same, Nat.le_of_lt (small1000 (by omega)), fun r2 hr2 => ?_⟩
  have s3 : Same (upd H1 r (.lst vs)) (upd (upd H1 r (.lst vs)) r2 (.lst (vs0 ++ vs))) := same_of hr2
  exact k r2 _ _ upd_same (((hp.same s1).same s2).ne hr2) ((s1.trans s2).trans s3) (paired_app (paired_same (But.of ((s1.trans s2).trans s3)).del d0) (paired_same (But.of (s2.trans s3)).del d1))
theorem scThing : FnScope ["_law_pail", "_law_menu"] ["_law_pail"] (defScope sThing) := ⟨rfl, rfl, rfl, by decide +kernel, rfl, by decide +kernel, by decide +kernel⟩
local macro_rules | `(tactic| walk_at "pe") => `(tactic| first
  | exact pe_non
  | exact pe_bl
  | exact pe_int
  | exact pe_str
  | (refine' pe_un un_neg ?ha; (case ha => walk_at "pe"))
  | (refine' pe_op op_pow ?ha ?hb; (case ha => walk_at "pe"); (case hb => walk_at "pe"))
  | (refine' pe_tup ?ha; (case ha => walk_at "pa"))
  | (refine' pe_lst ?ha; (case ha => walk_at "pa"))
  | exact pe_dnewK
  | exact pe_disp (pps_cons pe_str pe_int pps_nil) (by rfl) (by rfl) (fun z => by cases z) (by decide))
local macro_rules | `(tactic| walk_at "pa") => `(tactic| first
  | exact pa_nil
  | (refine' pa_cons ?ha ?hb; (case ha => walk_at "pe"); (case hb => walk_at "pa")))
local macro_rules | `(tactic| walk_at "evp") => `(tactic| first
  | exact evp_non
  | exact evp_bl
  | exact evp_int
  | exact evp_str
  | (refine' evp_neg ?ha; (case ha => walk_at "evp"))
  | exact evp_pow ⟨by decide, by decide, by decide⟩
  | (refine' evp_tup ?ha ?hb; (case ha => walk_at "evps"); (case hb => decide))
  | (refine' evp_lst ?ha ?hb; (case ha => walk_at "evps"); (case hb => decide)))
local macro_rules | `(tactic| walk_at "evps") => `(tactic| first
  | exact evps_nil
  | (refine' evps_cons ?ha ?hb; (case ha => walk_at "evp"); (case hb => walk_at "evps")))
local macro_rules | `(tactic| walk_at "evqs") => `(tactic| first
  | exact evqs_nil
  | (refine' evqs_cons ?ha ?hb; (case ha => first | exact evq_d0 | exact evq_d1 | (refine' evq_of ?hc; (case hc => walk_at "evp"))); (case hb => walk_at "evqs")))
theorem ok_thing {f fA : Addr} {fd fdA : FuncData} {k : Nat} (F : Fun K "_law_thing" "_law_thing" sThing f fd) (G : FnOk P w K mg base CX0 k fA fdA ["_law_pail", "_law_some_here"] spAny) (bA : Binds K fdA ["_law_pail", "_law_some_here"] []) (mA : mg "_law_any_of" = some (.ref fA)) (kA : PySem.W.keepIn K (.ref fA) = true) :
    FnOk P w K mg base CX0 (k + 1) f fd ["_law_pail"] (spThing K) := by
  refine F.ok scThing (fun vs H Q E h => ?_) (fun cdv A outer s H vs Q E hr h => ?_)
  · obtain ⟨p, rfl, _⟩ := h
    rfl
  · obtain ⟨p, rfl, hp, q⟩ := h
    refine ⟨_, pss_cons (ps_set (i := 1) scThing.nd rfl (.inl rfl) (pe_lst (by walk_at "pa")))
      (pss_cons (ps_set (i := 1) scThing.nd rfl (.inl rfl) (pe_op op_cat (pv 1) (pe_lst (by walk_at "pa"))))
      (pss_one (ps_ret (pe_call G hr rfl mA kA bA .nil pass0 (pa_cons (pv 0) (pa_cons (pv 1) pa_nil)))))), ?_⟩
    refine sq_lstQ (K := K) (ds := things.take 16) (by walk_at "evqs") hp (by decide) fun l0 vs0 H0 hl0 ne0 s0 d0 => ?_
    refine sq_catQ (K := K) (ds := things.drop 16) (l0 := l0) rfl hl0 ne0 d0 (by walk_at "evqs") (hp.same s0) (by decide) (by decide) fun l1 vs1 H1 hl1 ne1 s1 d1 => ?_
    have hlen : vs1.length = 27 := by rw [Paired.length d1]; decide
    refine ⟨_, rfl, _, rfl, p, l1, vs1, rfl, ne1, hl1, by omega, by omega, (hp.same s0).same s1, fun v H2 hv hp2 bt => ?_⟩
    obtain ⟨d, hd, hdq⟩ := paired_mem d1 hv
    exact q v d H2 (dq_same bt.del hdq) (by rw [← List.take_append_drop 16 things]; exact hd) hp2 ((But.of (s0.trans s1)).trans bt)
theorem things_okD {d : PyData} (h : d ∈ things) : okD d = true := by
  have hall := things_ok
  rw [List.all_eq_true] at hall
  exact hall d h
end
end Lamp
set_option Elab.async false
set_option linter.all false
set_option maxRecDepth 100000
set_option maxHeartbeats 1000000
namespace Lamp
open PySem PySem.Spec PyProof.Rows L2 LamX
/-! how deep and great the things are -/
mutual
def fitB (w : Nat) (b : Int) : Nat → T → Bool
  | _, .int i => decide (-b ≤ i) && decide (i ≤ b)
  | 0, .tup ts => ts.isEmpty
  | n + 1, .tup ts => decide (ts.length ≤ w) && fitBs w b n ts
  | _, _ => true
def fitBs (w : Nat) (b : Int) : Nat → List T → Bool
  | _, [] => true
  | n, t :: ts => fitB w b n t && fitBs w b n ts
end
mutual
theorem fitB_ok {w : Nat} {b : Int} : ∀ (n : Nat) (t : T), fitB w b n t = true → Fits w b n t
  | n, .int i, h => by
    unfold fitB at h
    rw [Bool.and_eq_true, decide_eq_true_eq, decide_eq_true_eq] at h
    rw [fits_int]
    exact h
  | 0, .tup ts, h => by
    unfold fitB at h
    exact List.isEmpty_iff.mp h
  | n + 1, .tup ts, h => by
    unfold fitB at h
    rw [Bool.and_eq_true, decide_eq_true_eq] at h
    exact ⟨h.1, fitBs_ok n ts h.2⟩
  | n, .non, _ => fits_non
  | n, .bl _, _ => fits_bl
  | n, .str _, _ => fits_str
  | n, .lst, _ => fits_lst
  | n, .dct, _ => fits_dct
theorem fitBs_ok {w : Nat} {b : Int} : ∀ (n : Nat) (ts : List T), fitBs w b n ts = true → ∀ t ∈ ts, Fits w b n t
  | n, [], _ => fun t h => by cases h
  | n, t :: ts, h => by
    unfold fitBs at h
    rw [Bool.and_eq_true] at h
    intro u hu
    rcases List.mem_cons.mp hu with e | e
    · rw [e]; exact fitB_ok n t h.1
    · exact fitBs_ok n ts h.2 u e
end
theorem things_fit : things.all (fun d => fitB 10 big 2 (tOf d)) = true := by decide +kernel
theorem things_fits {d : PyData} (h : d ∈ things) : Fits 10 big 2 (tOf d) := by
  have hall := things_fit
  rw [List.all_eq_true] at hall
  exact fitB_ok _ _ (hall d h)
/-! a value bent -/
theorem sqT_del {K : PySem.W.Frag} {H : Hp} {p a : Addr} {xs : List V} (hp : Pail H p) (h : SqT K H a xs) : SqT K (delH H p) a xs := by
  obtain ⟨x, y, z, e, _⟩ := hp
  rcases h with (h | ⟨o, h⟩) | h
  · have ne : a ≠ p := fun z => by rw [z, e] at h; cases h
    exact .inl (.inl (by rw [delH_ne ne]; exact h))
  · have ne : a ≠ p := fun z => by rw [z, e] at h; cases h
    exact .inl (.inr ⟨o, by rw [delH_ne ne]; exact h⟩)
  · exact .inr h
def spB (K : PySem.W.Frag) : Nat → Sp
  | 0 => fun _ _ _ _ => False
  | n + 1 => fun vs H Q _ => ∃ (p : Addr) (v : V) (t : T) (w : Nat) (b : Int), vs = [.ref p, v] ∧ Pail H p ∧ An K (delH H p) v t ∧ Fits w b n t ∧ 10 ≤ w ∧ w ≤ 500 ∧ big ≤ b ∧
    ∀ v' t' H', An K (delH H' p) v' t' → Fits (w + 1) (b + 1) (n + 2) t' → Pail H' p → But p H H' → Q v' H'
theorem cut_mid (xs : List V) {j : Nat} (h : j < xs.length) : cutV xs (some (j : Int)) (some ((j : Int) + 1)) = (xs.drop j).take 1 := by
  unfold cutV
  have e : (some ((j : Int) + 1)) = some ((j + 1 : Nat) : Int) := by rw [Int.natCast_add]; rfl
  rw [e, HT.sIx_nat, HT.sIx_nat, Nat.min_eq_left (by omega), Nat.min_eq_left (by omega)]
  congr 1
  omega
theorem cut_hi1 (xs : List V) (j : Nat) : cutV xs (some ((j : Int) + 1)) none = xs.drop (j + 1) := by
  have e : (some ((j : Int) + 1)) = some ((j + 1 : Nat) : Int) := by rw [Int.natCast_add]; rfl
  rw [e, cut_hi]
theorem run_cat {K : PySem.W.Frag} {σ : L2.St} {H : Hp} {te1 te2 : TE} {xs ys : List V} (h1 : ∀ Q' : VK, (∀ c H', Same H H' → SqT K H' c xs → Q' (.ref c) H') → te1 σ H Q') (h2 : ∀ H1, Same H H1 → ∀ Q' : VK, (∀ c H', Same H1 H' → SqT K H' c ys → Q' (.ref c) H') → te2 σ H1 Q') (hl : xs.length + ys.length ≤ sizeLine) :
    ∀ Q' : VK, (∀ c H', Same H H' → SqT K H' c (xs ++ ys) → Q' (.ref c) H') → tOp (rCatA K) te1 te2 σ H Q' := fun Q' q' => h1 _ fun c H1 s1 hc => h2 H1 s1 _ fun d H2 s2 hd => cat_anyT (same_seqT s2 hc) hd hl fun e H3 s3 he => q' e H3 ((s1.trans s2).trans s3) he
section
variable {P : Program} {w : World} {K : PySem.W.Frag} {mg : Str → Option Value} {base : Heap}
theorem scBent : FnScope ["_law_pail", "_law_value", "_law_chance", "_law_at"] ["_law_pail", "_law_value"] (defScope sBent) := ⟨rfl, rfl, rfl, by decide +kernel, rfl, by decide +kernel, by decide +kernel⟩
theorem ok_bent {f fB : Addr} {fd fdB : FuncData} {k n : Nat} (F : Fun K "_law_bent" "_law_bent" sBent f fd) (C : Dr P w K mg base spCast "_law_cast" ["_law_pail", "_law_many"] 1) (Th : Dr P w K mg base (spThing K) "_law_thing" ["_law_pail"] 3)
    (B : FnOk P w K mg base CX0 (k + 3) fB fdB ["_law_pail", "_law_value"] (spB K n)) (bB : Binds K fdB ["_law_pail", "_law_value"] []) (mB : mg "_law_bent" = some (.ref fB)) (kB : PySem.W.keepIn K (.ref fB) = true)
    (mis : mg "isinstance" = none) (mt : mg "tuple" = none) (mi : mg "int" = none) (mb : mg "bool" = none) (ml : mg "len" = none) (mli : mg "list" = none) : FnOk P w K mg base CX0 (k + 4) f fd ["_law_pail", "_law_value"] (spB K (n + 1)) := by
  refine F.ok scBent (fun vs H Q E h => ?_) (fun cdv A outer s H vs Q E hr h => ?_)
  · obtain ⟨p, v, t, w, b, rfl, _⟩ := h
    rfl
  · obtain ⟨p, v, t, w, b, rfl, hp, ha, hf, w0, w1, b0, q⟩ := h
    have hu := hu_of hr
    refine ⟨_, pss_cons (ps_par (i := 2) (j := 3) (by rfl) scBent.nd rfl rfl (by decide) rfl rfl (pa_cons (pe_dr C (by omega) hr rfl (pa_cons (pv 0) (pa_cons pe_int pa_nil))) (pa_cons (pe_dr C (by omega) hr rfl (pa_cons (pv 0) (pa_cons pe_int pa_nil))) pa_nil)) (by rfl))
      (pss_cons (ps_if (PW.pt (pw_and (pt_val (pe_callB call_isi (by rfl) mis (by decide +kernel) (pa_cons (pv 1) (pa_cons (pe_bltn (v := .ty "tuple") (by rfl) mt (by decide +kernel) rfl) pa_nil)))) (pw_and (pt_cmpR (op_neT0 (Nat.lt_of_succ_lt hu)) (pv 1) (pe_tup pa_nil) (nomark _)) (pw_and1 (pt_cmpR op_gt (pv 2) pe_int (nomark _))))))
        (pss_cons (ps_set (i := 3) scBent.nd rfl (.inl rfl) (pe_op op_mod (pe_callTy call_int1 (by rfl) mi (by decide +kernel) (pa_cons (pv 3) pa_nil)) (pe_callB call_len_seq (by rfl) ml PySem.boot_len (pa_cons (pv 1) pa_nil))))
        (pss_cons (ps_if (pt_cmpR op_eq (pv 2) pe_int (nomark _)) (pss_one (ps_ret (pe_op op_catA (pe_slice (r := rSlA K) sl_tupA (pv 1) po_none (po_some (pv 3))) (pe_slice (r := rSlA K) sl_tupA (pv 1) (po_some (pe_op op_add (pv 3) pe_int)) po_none)))) pss_nil)
        (pss_cons (ps_if (pt_cmpR op_eq (pv 2) pe_int (nomark _)) (pss_one (ps_ret (pe_op op_catA (pe_op op_catA (pe_slice (r := rSlA K) sl_tupA (pv 1) po_none (po_some (pv 3))) (pe_slice (r := rSlA K) sl_tupA (pv 1) (po_some (pv 3)) (po_some (pe_op op_add (pv 3) pe_int)))) (pe_slice (r := rSlA K) sl_tupA (pv 1) (po_some (pv 3)) po_none)))) pss_nil)
        (pss_cons (ps_if (pt_cmpR op_eq (pv 2) pe_int (nomark _)) (pss_one (ps_ret (pe_revT (pv 1)))) pss_nil)
        (pss_one (ps_ret (pe_op op_catA (pe_op op_catA (pe_slice (r := rSlA K) sl_tupA (pv 1) po_none (po_some (pv 3))) (pe_tup (pa_cons (pe_call B hr rfl mB kB bB .nil pass0 (pa_cons (pv 0) (pa_cons (pe_ix ix_tup (pv 1) (pv 3) (fun _ _ => rfl)) pa_nil))) pa_nil)))
          (pe_slice (r := rSlA K) sl_tupA (pv 1) (po_some (pe_op op_add (pv 3) pe_int)) po_none)))))))) pss_nil)
      (pss_cons (ps_if (PW.pt (pw_and (pt_val (pe_callB call_isi (by rfl) mis (by decide +kernel) (pa_cons (pv 1) (pa_cons (pe_bltn (v := .ty "tuple") (by rfl) mt (by decide +kernel) rfl) pa_nil)))) (pw_and1 (pt_cmpR op_gt (pv 3) pe_int (nomark _)))))
        (pss_one (ps_ret (pe_callTy call_list_of (by rfl) mli (by decide +kernel) (pa_cons (pv 1) pa_nil)))) pss_nil)
      (pss_cons (ps_if (PW.pt (pw_and (pt_val (pe_callB call_isi (by rfl) mis (by decide +kernel) (pa_cons (pv 1) (pa_cons (pe_bltn (v := .ty "int") (by rfl) mi (by decide +kernel) rfl) pa_nil)))) (pw_and (pt_not (pt_val (pe_callB call_isi (by rfl) mis (by decide +kernel) (pa_cons (pv 1) (pa_cons (pe_bltn (v := .ty "bool") (by rfl) mb (by decide +kernel) rfl) pa_nil)))))
          (pw_and1 (pt_cmpR op_gt (pv 3) pe_int (nomark _))))))
        (pss_one (ps_ret (pe_ifExp (pt_cmpR op_gt (pv 3) pe_int (nomark _)) (pe_op op_add (pv 1) pe_int) (pe_op op_sub (pv 1) pe_int)))) pss_nil)
      (pss_one (ps_ret (pe_dr Th (by omega) hr rfl (pa_cons (pv 0) pa_nil))))))), ?_⟩
    refine ⟨_, rfl, p, 9, rfl, by decide, by decide, hp, fun r H1 r0 r1 hp1 bt1 => ⟨_, rfl, p, 60, rfl, by decide, by decide, hp1, fun r2 H2 a0 a1 hp2 bt2 => ⟨_, _, rfl, ?_⟩⟩⟩
    have bt := bt1.trans bt2
    have ha2 := an_same bt.del ha
    have isT? : ∀ r3 : Int, Val (tCB (rIsi K) (tCons (tVar 1) (tCons (tC (.ty "tuple")) tNil))) [some (.ref p), some v, some (.int r), some (.int r3)] H2 (.bl (isT t)) := fun r3 => v_tuple (val_var rfl) (an_same del_sub ha2)
    dsimp only [List.set, L2.start, List.map, List.length, List.replicate, List.append]
    have small : 2 * w + 1 ≤ sizeLine := by
      have hl : (1000000 : Nat) ≤ sizeLine := by decide
      omega
    -- behind the first part
    have rest : ∀ (D' : Ends) (H3 : Hp), D'.rt = Q → Same H2 H3 → (tSeq (tIfS (tAnd (tB (tCB (rIsi K) (tCons (tVar 1) (tCons (tC (.ty "tuple")) tNil)))) (tTest (tOp (rI0 fun i j => .bl (decide (j < i))) (tVar 3) (tC (.int 40))))) (tRet (tCB (fun xs H Q => ∃ p ys, xs = [.ref p] ∧ (SqL K H p ys ∨ SqT K H p ys) ∧ ∀ l, H l = none → Q (.ref l) (upd H l (.lst ys))) (tCons (tVar 1) tNil))) tNext)
        (tSeq (tIfS (tAnd (tB (tCB (rIsi K) (tCons (tVar 1) (tCons (tC (.ty "int")) tNil)))) (tAnd (tNot (tB (tCB (rIsi K) (tCons (tVar 1) (tCons (tC (.ty "bool")) tNil))))) (tTest (tOp (rI0 fun i j => .bl (decide (j < i))) (tVar 3) (tC (.int 19))))))
            (tRet (tIf (tTest (tOp (rI0 fun i j => .bl (decide (j < i))) (tVar 3) (tC (.int 39)))) (tOp (rI0 fun i j => .int (i + j)) (tVar 1) (tC (.int 1))) (tOp (rI0 fun i j => .int (i - j)) (tVar 1) (tC (.int 1))))) tNext)
          (tRet (tCallG (spThing K) (tCons (tVar 0) tNil))))) D' [some (.ref p), some v, some (.int r), some (.int r2)] H3 := by
      intro D' H3 eD s3
      have hp3 := hp2.same s3
      have ha3 := an_same (But.of s3).del ha2
      have hv : An K H3 v t := an_same del_sub ha3
      have bt3 := bt.trans (But.of s3)
      have aT : Ans (tB (tCB (rIsi K) (tCons (tVar 1) (tCons (tC (.ty "tuple")) tNil)))) [some (.ref p), some v, some (.int r), some (.int r2)] H3 (isT t) := ans_val (v_tuple (val_var rfl) hv)
      have aI : Ans (tB (tCB (rIsi K) (tCons (tVar 1) (tCons (tC (.ty "int")) tNil)))) [some (.ref p), some v, some (.int r), some (.int r2)] H3 (isI t) := ans_val (v_int (val_var rfl) hv)
      have aB : Ans (tNot (tB (tCB (rIsi K) (tCons (tVar 1) (tCons (tC (.ty "bool")) tNil))))) [some (.ref p), some v, some (.int r), some (.int r2)] H3 (!isB t) := ans_not (ans_val (v_bool (val_var rfl) hv))
      have last : ∀ D' : Ends, D'.rt = Q → tRet (tCallG (spThing K) (tCons (tVar 0) tNil)) D' [some (.ref p), some v, some (.int r), some (.int r2)] H3 := fun D' eD => by
        refine ⟨_, rfl, p, rfl, hp3, fun v' d H4 hd hm hp4 bt4 => ?_⟩
        rw [eD]
        exact q v' (tOf d) H4 (an_dq hd) (fits_mono (by omega) (by omega) 2 (n + 2) _ (by omega) (things_fits hm)) hp4 (bt3.trans bt4)
      have third : ∀ D' : Ends, D'.rt = Q → tSeq (tIfS (tAnd (tB (tCB (rIsi K) (tCons (tVar 1) (tCons (tC (.ty "int")) tNil)))) (tAnd (tNot (tB (tCB (rIsi K) (tCons (tVar 1) (tCons (tC (.ty "bool")) tNil))))) (tTest (tOp (rI0 fun i j => .bl (decide (j < i))) (tVar 3) (tC (.int 19))))))
            (tRet (tIf (tTest (tOp (rI0 fun i j => .bl (decide (j < i))) (tVar 3) (tC (.int 39)))) (tOp (rI0 fun i j => .int (i + j)) (tVar 1) (tC (.int 1))) (tOp (rI0 fun i j => .int (i - j)) (tVar 1) (tC (.int 1))))) tNext)
          (tRet (tCallG (spThing K) (tCons (tVar 0) tNil))) D' [some (.ref p), some v, some (.int r), some (.int r2)] H3 := fun D' eD => by
        by_cases hw : isI t = true ∧ isB t = false ∧ 19 < r2
        · obtain ⟨e1, e2, e3⟩ := hw
          rw [e1] at aI
          rw [e2] at aB
          obtain ⟨i, rfl, rfl⟩ := an_int hv (by cases t <;> first | rfl | exact Bool.noConfusion e1 | exact Bool.noConfusion e2)
          rw [fits_int] at hf
          refine sq_yes (ans_and aI (ans_and aB (an_gt (val_var rfl) val_c (decide_eq_true e3)))) ?_
          by_cases h39 : 39 < r2
          · refine st_ret (v := .int (i + 1)) (lv_if (b := true) (an_gt (val_var rfl) val_c (decide_eq_true h39)) (fun _ => val_op (val_var rfl) val_c fun Q q => ⟨_, _, rfl, rfl, q⟩) (fun z => Bool.noConfusion z)) ?_
            dsimp only
            rw [eD]
            exact q _ _ H3 (.int _) (by rw [fits_int]; omega) hp3 bt3
          · refine st_ret (v := .int (i - 1)) (lv_if (b := false) (an_gt (val_var rfl) val_c (decide_eq_false h39)) (fun z => Bool.noConfusion z) (fun _ => val_op (val_var rfl) val_c fun Q q => ⟨_, _, rfl, rfl, q⟩)) ?_
            dsimp only
            rw [eD]
            exact q _ _ H3 (.int _) (by rw [fits_int]; omega) hp3 bt3
        · refine sq_no ?_ (last D' eD)
          cases e1 : isI t with
          | false => rw [e1] at aI; exact ans_and0 aI
          | true =>
            rw [e1] at aI
            cases e2 : isB t with
            | true => rw [e2] at aB; exact ans_and aI (ans_and0 aB)
            | false =>
              rw [e2] at aB
              exact ans_and aI (ans_and aB (an_gt (val_var rfl) val_c (decide_eq_false fun z => hw ⟨e1, e2, z⟩)))
      by_cases hT : isT t = true ∧ 40 < r2
      · obtain ⟨e1, e2⟩ := hT
        rw [e1] at aT
        refine sq_yes (ans_and aT (an_gt (val_var rfl) val_c (decide_eq_true e2))) ?_
        cases hv with
        | @tup a xs ts hs hall =>
          refine ⟨_, rfl, a, xs, rfl, .inr hs, fun l nl => ?_⟩
          dsimp only
          rw [eD]
          have s4 := same_of (o := .lst xs) nl
          exact q _ .lst _ (.lst (SqL.of (xs := xs) (by rw [delH_ne (hp3.ne nl), upd_same]))) fits_lst (hp3.same s4) (bt3.trans (But.of s4))
        | _ => cases e1
      · refine sq_no ?_ (third D' eD)
        cases e1 : isT t with
        | false => rw [e1] at aT; exact ans_and0 aT
        | true =>
          rw [e1] at aT
          exact ans_and aT (an_gt (val_var rfl) val_c (decide_eq_false fun z => hT ⟨e1, z⟩))
    cases et : isT t with
    | false =>
      refine sq_no (ans_and0 (ans_val (by have z := isT? r2; rw [et] at z; exact z))) ?_
      exact rest _ H2 rfl (Same.refl H2)
    | true =>
      refine (ans_val (by have z := isT? r2; rw [et] at z; exact z) : Ans (tB (tCB (rIsi K) (tCons (tVar 1) (tCons (tC (.ty "tuple")) tNil)))) [some (.ref p), some v, some (.int r), some (.int r2)] H2 true) _ ?_
      refine iteT ?_
      obtain ⟨ts, rfl⟩ : ∃ ts, t = .tup ts := by cases t <;> first | exact ⟨_, rfl⟩ | cases et
      obtain ⟨a, xs, rfl, hsD, hall⟩ : ∃ a xs, v = .ref a ∧ SqT K (delH H2 p) a xs ∧ AnAll K (delH H2 p) xs ts := by
        cases ha2 with
        | tup h1 h2 => exact ⟨_, _, rfl, h1, h2⟩
      have hs : SqT K H2 a xs := same_seqT del_sub hsD
      have hlen := anAll_len hall
      refine ⟨_, rfl, (by show 0 ≤ sizeLine; decide), fun l nl => ?_⟩
      have s3 := same_of (o := .tup []) nl
      revert s3
      have hl3 : SqT K (upd H2 l (.tup [])) l [] := SqT.of upd_same
      revert hl3
      generalize (upd H2 l (.tup [])) = H3
      intro hl3 s3
      refine ⟨a, l, xs, rfl, rfl, same_seqT s3 hs, hl3, _, rfl, ?_⟩
      have hp3 := hp2.same s3
      have hall3 := anAll_same (But.of s3).del hall
      have hs3 := same_seqT s3 hs
      have bt3 := bt.trans (But.of s3)
      cases hx : xs with
      | nil =>
        subst hx
        refine iteF ?_
        exact rest _ H3 rfl s3
      | cons x0 xr =>
        rw [← hx]
        have lpos : 0 < xs.length := by rw [hx]; simp
        have e0 : (!xs.isEmpty) = true := by rw [hx]; rfl
        rw [e0]
        refine iteT ?_
        by_cases hr0 : 0 < r
        · refine (an_gt (val_var rfl) val_c (decide_eq_true hr0) : Ans (tTest (tOp (rI0 fun i j => .bl (decide (j < i))) (tVar 2) (tC (.int 0)))) [some (.ref p), some (.ref a), some (.int r), some (.int r2)] H3 true) _ ?_
          refine iteT ?_
          obtain ⟨j, ej, hj⟩ : ∃ j : Nat, r2 % (xs.length : Int) = (j : Int) ∧ j < xs.length := by
            have h1 := Int.emod_nonneg r2 (by omega : (xs.length : Int) ≠ 0)
            have h2 := Int.emod_lt_of_pos r2 (by omega : (0 : Int) < (xs.length : Int))
            exact ⟨(r2 % (xs.length : Int)).toNat, by omega, by omega⟩
          refine sq_set (v := .int (j : Int)) (val_op (lv_int (val_var rfl)) (fun Q q => ⟨_, rfl, a, xs, rfl, .inr hs3, q⟩) fun Q q => ⟨r2, (xs.length : Int), rfl, rfl, (show (0 : Int) < _ by omega), by show Q (V.int (r2 % (xs.length : Int))) H3; rw [ej]; exact q⟩) ?_
          dsimp only [List.set]
          obtain ⟨m, rfl, wl, child⟩ : ∃ m, n = m + 1 ∧ ts.length ≤ w ∧ ∀ t ∈ ts, Fits w b m t := by
            rcases fits_tup hf with e | h
            · rw [e] at hlen
              simp at hlen
              rw [hlen] at lpos
              cases lpos
            · exact h
          have up : ∀ t ∈ ts, Fits (w + 1) (b + 1) (m + 2) t := fun t ht => fits_mono (by omega) (by omega) m (m + 2) t (by omega) (child t ht)
          have fin : ∀ (ts' : List T) (xs' : List V) (c : Addr) (H' : Hp), Same H3 H' → SqT K H' c xs' → AnAll K (delH H' p) xs' ts' → ts'.length ≤ w + 1 → (∀ t ∈ ts', Fits (w + 1) (b + 1) (m + 2) t) → Q (.ref c) H' := fun ts' xs' c H' s4 hc ha' hl hf' =>
            q _ (.tup ts') H' (.tup (sqT_del (hp3.same s4) hc) ha') ⟨hl, hf'⟩ (hp3.same s4) (bt3.trans (But.of s4))
          have lo : ∀ H1, Same H3 H1 → ∀ Q' : VK, (∀ c H', Same H1 H' → SqT K H' c (xs.take j) → Q' (.ref c) H') → rSlA K (.ref a) none (some (j : Int)) H1 Q' := fun H1 s1 Q' q' => sl_anyT (same_seqT s1 hs3) fun c H' s hc => q' c H' s (by rw [cut_lo xs (by omega)] at hc; exact hc)
          have hi1 : ∀ H1, Same H3 H1 → ∀ Q' : VK, (∀ c H', Same H1 H' → SqT K H' c (xs.drop (j + 1)) → Q' (.ref c) H') → rSlA K (.ref a) (some ((j : Int) + 1)) none H1 Q' := fun H1 s1 Q' q' => sl_anyT (same_seqT s1 hs3) fun c H' s hc => q' c H' s (by rw [cut_hi1 xs j] at hc; exact hc)
          have hi0 : ∀ H1, Same H3 H1 → ∀ Q' : VK, (∀ c H', Same H1 H' → SqT K H' c (xs.drop j) → Q' (.ref c) H') → rSlA K (.ref a) (some (j : Int)) none H1 Q' := fun H1 s1 Q' q' => sl_anyT (same_seqT s1 hs3) fun c H' s hc => q' c H' s (by rw [cut_hi xs j] at hc; exact hc)
          have mid : ∀ H1, Same H3 H1 → ∀ Q' : VK, (∀ c H', Same H1 H' → SqT K H' c ((xs.drop j).take 1) → Q' (.ref c) H') → rSlA K (.ref a) (some (j : Int)) (some ((j : Int) + 1)) H1 Q' := fun H1 s1 Q' q' => sl_anyT (same_seqT s1 hs3) fun c H' s hc => q' c H' s (by rw [cut_mid xs hj] at hc; exact hc)
          have lt1 : (xs.take j).length = j := by rw [List.length_take]; omega
          have lt2 : (xs.drop (j + 1)).length = xs.length - (j + 1) := List.length_drop
          have lt3 : (xs.drop j).length = xs.length - j := List.length_drop
          have lt4 : ((xs.drop j).take 1).length = 1 := by rw [List.length_take, lt3]; omega
          have mk : ∀ H', Same H3 H' → AnAll K (delH H' p) xs ts := fun H' s => anAll_same (But.of s).del hall3
          by_cases h1 : r = 1
          · refine sq_yes (ans_eq (x := .int r) (y := .int 1) (val_var rfl) val_c rfl (decide_eq_true (by rw [h1]))) ?_
            refine run_cat (xs := xs.take j) (ys := xs.drop (j + 1)) (fun Q' q' => ⟨_, rfl, _, rfl, j, rfl, lo H3 (Same.refl H3) Q' q'⟩) (fun H1 s1 Q' q' => ⟨_, rfl, _, rfl, _, _, rfl, rfl, _, rfl, hi1 H1 s1 Q' q'⟩) (by omega) _ fun c H' s hc => ?_
            have al := mk H' s
            exact fin (ts.take j ++ ts.drop (j + 1)) _ c H' s hc (anAll_app (anAll_take j al) (anAll_drop (j + 1) al)) (by rw [List.length_append, List.length_take, List.length_drop]; omega) fun t ht => up t (by
              rcases List.mem_append.mp ht with h | h
              · exact List.mem_of_mem_take h
              · exact List.mem_of_mem_drop h)
          · refine sq_no (ans_eq (x := .int r) (y := .int 1) (val_var rfl) val_c rfl (decide_eq_false (by intro z; exact h1 (V.int.inj z)))) ?_
            by_cases h2 : r = 2
            · refine sq_yes (ans_eq (x := .int r) (y := .int 2) (val_var rfl) val_c rfl (decide_eq_true (by rw [h2]))) ?_
              refine run_cat (xs := xs.take j ++ (xs.drop j).take 1) (ys := xs.drop j) (run_cat (xs := xs.take j) (ys := (xs.drop j).take 1) (fun Q' q' => ⟨_, rfl, _, rfl, j, rfl, lo H3 (Same.refl H3) Q' q'⟩) (fun H1 s1 Q' q' => ⟨_, rfl, _, rfl, j, rfl, _, rfl, _, _, rfl, rfl, _, rfl, mid H1 s1 Q' q'⟩) (by omega)) (fun H1 s1 Q' q' => ⟨_, rfl, _, rfl, j, rfl, hi0 H1 s1 Q' q'⟩) (by rw [List.length_append]; omega) _ fun c H' s hc => ?_
              have al := mk H' s
              exact fin (ts.take j ++ (ts.drop j).take 1 ++ ts.drop j) _ c H' s hc (anAll_app (anAll_app (anAll_take j al) (anAll_take 1 (anAll_drop j al))) (anAll_drop j al)) (by rw [List.length_append, List.length_append, List.length_take, List.length_take, List.length_drop]; omega) fun t ht => up t (by
                rcases List.mem_append.mp ht with h | h
                · rcases List.mem_append.mp h with h | h
                  · exact List.mem_of_mem_take h
                  · exact List.mem_of_mem_drop (List.mem_of_mem_take h)
                · exact List.mem_of_mem_drop h)
            · refine sq_no (ans_eq (x := .int r) (y := .int 2) (val_var rfl) val_c rfl (decide_eq_false (by intro z; exact h2 (V.int.inj z)))) ?_
              by_cases h3 : r = 3
              · refine sq_yes (ans_eq (x := .int r) (y := .int 3) (val_var rfl) val_c rfl (decide_eq_true (by rw [h3]))) ?_
                refine ⟨_, rfl, a, xs, rfl, hs3, fun c nc => ?_⟩
                have s4 := same_of (o := .tup xs.reverse) nc
                have al := mk _ s4
                exact fin ts.reverse xs.reverse c _ s4 (SqT.of upd_same) (anAll_rev al) (by rw [List.length_reverse]; omega) fun t ht => up t (List.mem_reverse.mp ht)
              · refine sq_no (ans_eq (x := .int r) (y := .int 3) (val_var rfl) val_c rfl (decide_eq_false (by intro z; exact h3 (V.int.inj z)))) ?_
                obtain ⟨u, eu, hxu⟩ := anAll_get hall3 (List.getElem?_eq_getElem hj)
                have hut : u ∈ ts := List.mem_of_getElem? eu
                refine ⟨_, rfl, _, rfl, j, rfl, lo H3 (Same.refl H3) _ fun c1 H4 s4 hc1 => ?_⟩
                refine ⟨_, rfl, _, rfl, _, rfl, a, xs, (j : Int), _, rfl, rfl, same_seqT s4 hs3, L2.at_of (j := j) rfl (List.getElem?_eq_getElem hj), ?_⟩
                have hp4 := hp3.same s4
                refine ⟨p, _, u, w, b, rfl, hp4, an_same (But.of s4).del hxu, child u hut, w0, w1, b0, fun v' t' H5 hv' hf' hp5 bt5 => ⟨(by show 1 ≤ sizeLine; decide), fun c2 n2 => ?_⟩⟩
                have s6 := same_of (o := .tup [v']) n2
                have bt36 := ((But.of s4).trans bt5).trans (But.of s6)
                have hc1' : SqT K (upd H5 c2 (.tup [v'])) c1 (xs.take j) := same_seqT s6 (same_seqT del_sub (same_seqT bt5.del (sqT_del hp4 hc1)))
                have hp6 := hp5.same s6
                refine cat_anyT hc1' (SqT.of upd_same) (by rw [lt1]; show j + 1 ≤ sizeLine; omega) fun c3 H7 s7 hc3 => ?_
                have bt37 := bt36.trans (But.of s7)
                have hs7 : SqT K H7 a xs := same_seqT del_sub (same_seqT bt37.del (sqT_del hp3 hs3))
                refine ⟨_, rfl, _, rfl, _, _, rfl, rfl, _, rfl, ?_⟩
                dsimp only [tNoPart]
                refine sl_anyT hs7 fun c4 H8 s8 hc4 => ?_
                rw [cut_hi1 xs j] at hc4
                refine cat_anyT (same_seqT s8 hc3) hc4 (by rw [List.length_append, lt1, lt2]; show j + 1 + (xs.length - (j + 1)) ≤ sizeLine; omega) fun c5 H9 s9 hc5 => ?_
                have s69 := s7.trans (s8.trans s9)
                have hp9 := hp6.same s69
                have bt39 := bt36.trans (But.of s69)
                have al : AnAll K (delH H9 p) xs ts := anAll_same bt39.del hall3
                have hv9 : An K (delH H9 p) v' t' := an_same (But.of (s6.trans s69)).del hv'
                refine q _ (.tup (ts.take j ++ [t'] ++ ts.drop (j + 1))) H9 (.tup (sqT_del hp9 hc5) (anAll_app (anAll_app (anAll_take j al) (.cons hv9 .nil)) (anAll_drop (j + 1) al))) ⟨?_, fun t ht => ?_⟩ hp9 (bt3.trans bt39)
                · rw [List.length_append, List.length_append, List.length_take, List.length_drop]
                  show min j ts.length + 1 + (ts.length - (j + 1)) ≤ w + 1
                  omega
                · rcases List.mem_append.mp ht with h | h
                  · rcases List.mem_append.mp h with h | h
                    · exact up t (List.mem_of_mem_take h)
                    · rw [List.mem_singleton.mp h]
                      exact hf'
                  · exact up t (List.mem_of_mem_drop h)
        · refine (an_gt (val_var rfl) val_c (decide_eq_false hr0) : Ans (tTest (tOp (rI0 fun i j => .bl (decide (j < i))) (tVar 2) (tC (.int 0)))) [some (.ref p), some (.ref a), some (.int r), some (.int r2)] H3 false) _ ?_
          refine iteF ?_
          exact rest _ H3 rfl s3
end
end Lamp
set_option Elab.async false
set_option linter.all false
set_option maxRecDepth 100000
set_option maxHeartbeats 1000000
namespace Lamp
open PySem PySem.Spec PyProof.Rows L2 LamX
abbrev sSome : Stmt := top 39
/-- behind an if: what holds at both ways' ends -/
theorem sq_join {t1 R : TS} {D : Ends} {σ : L2.St} {H : Hp} (Iv : L2.St → Hp → Prop) (h : ∀ N : L2.St → Hp → Prop, (∀ σ' H', Iv σ' H' → N σ' H') → t1 { D with nx := N } σ H) (k : ∀ σ' H', Iv σ' H' → R D σ' H') : tSeq t1 R D σ H := h (R D) k
theorem asg_cb1 {r : List V → Hp → VK → Prop} {te : TE} {i : Nat} {D : Ends} {σ : L2.St} {H : Hp} (h : te σ H fun x H1 => r [x] H1 fun v H2 => D.nx (σ.set i (some v)) H2) : tAsg (tCB r (tCons te tNil)) (gName i) D σ H := h
/-! [(a, 1) for k in range(n)] -/
theorem lc_pairs {S : Nat → Hp → Prop} {σ : L2.St} {H : Hp} {j : Nat} {ta : TA} {te : TE} {Q : VK} (fst : Nat → Int) (hc : ∀ Q' : List V → Hp → Prop, (∀ n H1, n ≤ 1000 → S n H1 → Q' [.int (n : Int)] H1) → ta σ H Q')
    (he : ∀ n H1 (i : Nat) H', S n H1 → i < n → Same H1 H' → Val te ((σ.set j none).set j (some (.int (i : Int)))) H' (.int (fst i)))
    (k : ∀ n H1 D (as : List Addr) H', n ≤ 1000 → S n H1 → Same H1 H' → H1 D = none → H' D = some (.lst (as.map V.ref)) → Paired (fun a (q : Int) => H' a = some (.tup [.int q, .int 1])) as ((List.range n).map fst) → Q (.ref D) H') :
    tLc (iRng1 ta) (gName j) tYes (tTup (tCons te (tCons (tC (.int 1)) tNil))) [j] σ H Q := by
  refine hc _ fun n H1 hn hS => ⟨(n : Int), rfl, by omega, by omega, fun D hD => ?_⟩
  have e0 : ((n : Int)).toNat = n := by omega
  rw [e0]
  refine lc_range (lo := 0) (n := n) (fun i H' => Same H1 H' ∧ ∃ as : List Addr, H' D = some (.lst (as.map V.ref)) ∧ Paired (fun a (q : Int) => H' a = some (.tup [.int q, .int 1]) ∧ a ≠ D) as ((List.range i).map fst)) ⟨same_of hD, [], upd_same, .nil⟩ (fun i H' hi z => ?_) (fun H' z => ?_)
  · obtain ⟨sb, as, hlD, hpa⟩ := z
    have e1 : (0 : Int) + (i : Int) = (i : Int) := Int.zero_add _
    rw [e1]
    refine ⟨?_, ?_⟩
    · show ((σ.set j none).set j (some (V.int (i : Int)))).set j none = σ.set j none
      rw [List.set_set, List.set_set]
    · dsimp only [tYes]
      rw [if_pos rfl]
      refine he n H1 i H' hS hi sb _ ⟨(by show 2 ≤ sizeLine; decide), fun tp ntp => ?_⟩
      have s3 := same_of (o := .tup [V.int (fst i), V.int 1]) ntp
      have tD : tp ≠ D := fun e => by rw [e, hlD] at ntp; cases ntp
      refine ⟨as.map V.ref, s3 _ _ hlD, ?_, fun b' o e => ?_, as ++ [tp], ?_, ?_⟩
      · have hl1 := Paired.length hpa
        rw [List.length_map, List.length_range] at hl1
        rw [List.length_map]
        exact small1000 (by omega)
      · have nb : b' ≠ D := fun z => by rw [z, hD] at e; cases e
        rw [upd_ne nb]
        exact s3 _ _ (sb _ _ e)
      · rw [upd_same, List.map_append]
        rfl
      · rw [List.range_succ, List.map_append]
        refine paired_app (L2.Paired.mapP hpa fun a' qq hz => ?_) (.cons ⟨?_, tD⟩ .nil)
        · exact ⟨by rw [upd_ne hz.2]; exact s3 _ _ hz.1, hz.2⟩
        · rw [upd_ne tD, upd_same]
  · obtain ⟨sb, as, hlD, hpa⟩ := z
    exact k n H1 D as H' hn hS sb hD hlD (L2.Paired.mapP hpa fun a qq hz => hz.1)
/-- the pairs as values -/
def onesT (qs : List Int) : T := .tup (qs.map fun q => .tup [.int q, .int 1])
theorem an_pairs {K : PySem.W.Frag} {H : Hp} : ∀ {as : List Addr} {qs : List Int}, Paired (fun a (q : Int) => H a = some (.tup [.int q, .int 1])) as qs → AnAll K H (as.map V.ref) (qs.map fun q => T.tup [.int q, .int 1])
  | [], [], .nil => .nil
  | a :: as, q :: qs, .cons h t => .cons (.tup (SqT.of h) (.cons (.int _) (.cons (.int _) .nil))) (an_pairs t)
theorem an_pic {K : PySem.W.Frag} {H : Hp} {t : Addr} {ls : List (Int × Int)} (h : PicAt K H t ls) : An K H (.ref t) (.tup (ls.map fun q => T.tup [.int q.1, .int q.2])) := by
  obtain ⟨as, h1, h2⟩ := h
  refine .tup (SqT.of h1) ?_
  clear h1
  induction h2 with
  | nil => exact .nil
  | cons h _ ih => exact .cons (.tup (SqT.of h) (.cons (.int _) (.cons (.int _) .nil))) ih
/-- what is shown of it is short -/
def okE (d : PyData) : Bool := okD d && (fitB 10 (big + 500) 2 (tOf d) && (decide (d.shown.length ≤ 200) && d.shown.cps.toList.all fun c => decide (c < 128)))
theorem things_okE {d : PyData} (h : d ∈ things) : okE d = true := by
  have hall : things.all okE = true := by decide +kernel
  rw [List.all_eq_true] at hall
  exact hall d h
/-- a value of data, told of the heap beside the drawing list -/
def Gd (K : PySem.W.Frag) (p : Addr) (H : Hp) (v : V) : Prop := ∃ d, Dq K (delH H p) v d ∧ okE d = true
theorem Gd.but {K : PySem.W.Frag} {p : Addr} {H H' : Hp} {v : V} (h : Gd K p H v) (b : But p H H') : Gd K p H' v := by
  obtain ⟨d, h1, h2⟩ := h
  exact ⟨d, dq_same b.del h1, h2⟩
/-- a value of any kind, as great as told -/
def Av (K : PySem.W.Frag) (p : Addr) (H : Hp) (v : V) : Prop := ∃ t, An K (delH H p) v t ∧ Fits 412 (big + 412) 6 t
theorem Av.but {K : PySem.W.Frag} {p : Addr} {H H' : Hp} {v : V} (h : Av K p H v) (b : But p H H') : Av K p H' v := by
  obtain ⟨d, h1, h2⟩ := h
  exact ⟨d, an_same b.del h1, h2⟩
def spBents (K : PySem.W.Frag) : Sp := fun vs H Q E => ∃ n, n ≤ 4 ∧ spB K (n + 1) vs H Q E
def spSome (K : PySem.W.Frag) : Sp := fun vs H Q _ => ∃ (p : Addr), vs = [.ref p] ∧ Pail H p ∧ ∀ r lv la en H', SqT K H' r [lv, la, en] → Gd K p H' lv → Av K p H' la → Gd K p H' en → Pail H' p → But p H H' → Q (.ref r) H'
theorem ok_int {i : Int} (h : -(big + 500) ≤ i) (h2 : i ≤ big + 500) : okE (.int i) = true := by
  have hb : big = 1000000000000000000000000000000000000000 := by decide
  have hfit : fitB 10 (big + 500) 2 (tOf (.int i)) = true := by
    show (decide (-(big + 500) ≤ i) && decide (i ≤ big + 500)) = true
    rw [decide_eq_true h, decide_eq_true h2]
    rfl
  rw [hb] at h h2
  have hn : i.natAbs < 10 ^ 40 := by omega
  have hl : (nS i).length ≤ 41 := nS_len hn
  have lg : i.natAbs.log2 < 1920 := Nat.lt_trans (PySem.Flt.log2_lt_of (k := 133) (by decide) (Nat.lt_of_lt_of_le hn (by decide))) (by decide)
  unfold okE okD
  rw [Bool.and_eq_true, Bool.and_eq_true, Bool.and_eq_true, Bool.and_eq_true, Bool.and_eq_true, decide_eq_true_eq, decide_eq_true_eq, decide_eq_true_eq]
  refine ⟨⟨⟨decide_eq_true lg, Nat.zero_le _⟩, le_line (Nat.le_trans hl (by decide))⟩, hfit, Nat.le_trans hl (by decide), ?_⟩
  rw [List.all_eq_true]
  intro c hc
  have hc' : c ∈ TL.tl (nS i) := hc
  exact decide_eq_true (by rcases nS_sign hc' with e | e <;> omega)
section
variable {P : Program} {w : World} {K : PySem.W.Frag} {mg : Str → Option Value} {base : Heap}
theorem bents {f : Addr} {fd : FuncData} {ps : List Str} (F : ∀ n, n ≤ 4 → FnOk P w K mg base CX0 8 f fd ps (spB K (n + 1))) : FnOk P w K mg base CX0 8 f fd ps (spBents K) :=
  ⟨fun vs H Q E ⟨n, hn, h⟩ => (F n hn).len vs H Q E h, fun A out s H ar us vs Q E hr he hb hv ⟨n, hn, h⟩ => (F n hn).run A out s H ar us vs Q E hr he hb hv h⟩
theorem scSome : FnScope ["_law_pail", "_law_p", "_law_some_here", "_law_last", "_law_begin", "_law_k", "_law_turn", "_law_odd"] ["_law_pail"] (defScope sSome) := ⟨rfl, rfl, rfl, by decide +kernel, rfl, by decide +kernel, by decide +kernel⟩
theorem ok_some {f : Addr} {fd : FuncData} (F : Fun K "_law_some" "_law_some" sSome f fd) (C : Dr P w K mg base spCast "_law_cast" ["_law_pail", "_law_many"] 1) (Ay : Dr P w K mg base spAny "_law_any_of" ["_law_pail", "_law_some_here"] 2) (Pl : Dr P w K mg base spPlace "_law_place" ["_law_pail"] 3)
    (Pt : Dr P w K mg base (spParts K) "_law_parts" ["_law_pail"] 5) (Th : Dr P w K mg base (spThing K) "_law_thing" ["_law_pail"] 3) (Be : Dr P w K mg base (spBents K) "_law_bent" ["_law_pail", "_law_value"] 8)
    (mr : mg "range" = none) (mt : mg "tuple" = none) : FnOk P w K mg base CX0 9 f fd ["_law_pail"] (spSome K) := by
  refine F.ok scSome (fun vs H Q E h => ?_) (fun cdv A outer s H vs Q E hr h => ?_)
  · obtain ⟨p, rfl, _⟩ := h
    rfl
  · obtain ⟨p, rfl, hp, q⟩ := h
    refine ⟨_, pss_cons (ps_asg (pe_dr Pt (by decide) hr rfl (pa_cons (pv 0) pa_nil)) (pg_unl rfl (pgs_cons (pg_name (i := 1) scSome.nd rfl (.inl rfl)) (pgs_cons (pg_name (i := 2) scSome.nd rfl (.inl rfl)) (pgs_cons (pg_name (i := 3) scSome.nd rfl (.inl rfl)) pgs_nil)))))
      (pss_cons (ps_if (pt_cmpR op_eq (pe_dr C (by decide) hr rfl (pa_cons (pv 0) (pa_cons pe_int pa_nil))) pe_int (nomark _))
        (pss_cons (ps_set (i := 4) scSome.nd rfl (.inr rfl) (pe_dr Pl (by decide) hr rfl (pa_cons (pv 0) pa_nil)))
        (pss_one (ps_set (i := 2) scSome.nd rfl (.inl rfl) (pe_callTy call_tuple_of (by rfl) mt (by decide +kernel) (pa_cons (pe_lc (own := [("_law_k", 5)]) (g := gName 5) (tt := tYes) rfl scSome.nd
            (pi_range1 rfl mr (pa_cons (pe_op op_add pe_int (pe_dr C (by decide) hr rfl (pa_cons (pv 0) (pa_cons pe_int pa_nil)))) pa_nil))
            (blkOk_by (own := [("_law_k", 5)]) (N := ["_law_pail", "_law_p", "_law_some_here", "_law_last", "_law_begin", "_law_k", "_law_turn", "_law_odd"]) (sc := defScope sSome) (by decide +kernel)) (fun _ _ _ _ _ => pg_name (i := 5) scSome.nd rfl (Or.inl rfl)) (fun _ _ _ _ _ => pts_nil)
            (fun _ _ _ _ _ => pe_tup (pa_cons (pe_op op_add (pv 4) (pv 5)) (pa_cons pe_int pa_nil)))) pa_nil))))) pss_nil)
      (pss_cons (ps_for PassesOwn.never rfl (pi_range1 rfl mr (pa_cons (pe_dr Ay (by decide) hr rfl (pa_cons (pv 0) (pa_cons (pe_lst (pa_cons pe_int (pa_cons pe_int (pa_cons pe_int (pa_cons pe_int pa_nil))))) pa_nil))) pa_nil)) (pg_name (i := 6) scSome.nd rfl (.inl rfl))
        (pss_one (ps_set (i := 2) scSome.nd rfl (.inl rfl) (pe_dr Be (by decide) hr rfl (pa_cons (pv 0) (pa_cons (pv 2) pa_nil))))))
      (pss_cons (ps_set (i := 7) scSome.nd rfl (.inl rfl) (pe_dr Ay (by decide) hr rfl (pa_cons (pv 0) (pa_cons (pe_lst (pa_cons pe_int (pa_cons pe_int (pa_cons pe_int (pa_cons pe_int (pa_cons pe_int (pa_cons pe_bl (pa_cons pe_str (pa_cons pe_non
          (pa_cons (pe_tup (pa_cons pe_int pa_nil)) (pa_cons (pe_un un_neg pe_int) (pa_cons (pe_dr Th (by decide) hr rfl (pa_cons (pv 0) pa_nil)) pa_nil)))))))))))) pa_nil))))
      (pss_cons (ps_set (i := 1) scSome.nd rfl (.inl rfl) (pe_dr Ay (by decide) hr rfl (pa_cons (pv 0) (pa_cons (pe_lst (pa_cons (pv 1) (pa_cons (pv 1) (pa_cons (pv 1) (pa_cons pe_int (pa_cons pe_int (pa_cons (pv 7) pa_nil))))))) pa_nil))))
      (pss_cons (ps_set (i := 2) scSome.nd rfl (.inl rfl) (pe_dr Ay (by decide) hr rfl (pa_cons (pv 0) (pa_cons (pe_lst (pa_cons (pv 2) (pa_cons (pv 2) (pa_cons (pv 2) (pa_cons (pv 2) (pa_cons (pv 2) (pa_cons (pe_dr Th (by decide) hr rfl (pa_cons (pv 0) pa_nil)) pa_nil))))))) pa_nil))))
      (pss_one (ps_ret (pe_tup (pa_cons (pv 1) (pa_cons (pv 2) (pa_cons (pe_dr Ay (by decide) hr rfl (pa_cons (pv 0) (pa_cons (pe_lst (pa_cons (pv 3) (pa_cons (pv 3) (pa_cons (pv 3) (pa_cons (pe_dr Th (by decide) hr rfl (pa_cons (pv 0) pa_nil)) pa_nil))))) pa_nil))) pa_nil)))))))))))
      , ?_⟩
    refine ⟨_, rfl, p, rfl, hp, fun l t r H1 hok hl1 hp1 bt1 => ?_⟩
    obtain ⟨lv, ls, fin⟩ := r
    have hl0 : H1 l = some (.lst [.int lv, .ref t, .int fin]) := del_sub _ _ hl1.1
    refine ⟨l, _, rfl, SqL.of hl0, rfl, _, _, rfl, _, _, rfl, _, _, rfl, rfl, ?_⟩
    have pic : IsPic lv ls := hok.pic
    have few : ls.length ≤ 5 := pic.few
    have hb : big = 1000000000000000000000000000000000000000 := by decide
    have glv : ∀ H', Gd K p H' (.int lv) := fun H' => ⟨.int lv, .plain (.int _), ok_int (by rw [hb]; rcases hok.lv with e | e | e | e <;> (have e' : lv = _ := e; omega)) (by rw [hb]; rcases hok.lv with e | e | e | e <;> (have e' : lv = _ := e; omega))⟩
    have gen : ∀ H', Gd K p H' (.int fin) := fun H' => ⟨.int fin, .plain (.int _), ok_int (by have : -big ≤ fin := hok.lo; omega) (by have : fin ≤ big := hok.hi; omega)⟩
    have av0 : ∃ tt, An K (delH H1 p) (.ref t) tt ∧ Fits 410 (big + 410) 2 tt := by
      refine ⟨_, an_pic hl1.2, ?_, fun u hu => ?_⟩
      · rw [List.length_map]; show ls.length ≤ 410; omega
      · obtain ⟨q, hq, rfl⟩ := List.mem_map.mp hu
        obtain ⟨q1, q2⟩ := pic.pl q hq
        obtain ⟨q3, q4⟩ := pic.lv q hq
        refine ⟨by show 2 ≤ 410; decide, fun x hx => ?_⟩
        have lv7 : lv ≤ 7 := by rcases hok.lv with e | e | e | e <;> (have e' : lv = _ := e; omega)
        rcases List.mem_cons.mp hx with e | hx
        · rw [e, fits_int]; omega
        · rw [List.mem_singleton.mp hx, fits_int, hb]; omega
    -- a long one
    dsimp only [gName, List.set, L2.start, List.map, List.length, List.replicate, List.append]
    refine sq_join (fun σ' H' => ∃ b v, σ' = [some (.ref p), some (.int lv), some v, some (.int fin), b, none, none, none] ∧ Pail H' p ∧ But p H H' ∧ ∃ tt, An K (delH H' p) v tt ∧ Fits 410 (big + 410) 2 tt) (fun N hN => ?_) ?_
    · refine ⟨_, rfl, p, 6, rfl, by decide, by decide, hp1, fun c H2 c0 c1 hp2 bt2 => ?_⟩
      have bt12 := bt1.trans bt2
      by_cases hc : c = 0
      · refine ⟨rfl, true, by rw [hc]; rfl, ?_⟩
        refine iteT ?_
        refine ⟨_, rfl, p, rfl, hp2, fun z H3 z0 z1 hp3 bt3 => ?_⟩
        have bt13 := bt12.trans bt3
        dsimp only [gName]
        refine asg_cb1 ?_
        refine lc_pairs (S := fun n H' => n ≤ 402 ∧ Pail H' p ∧ But p H3 H') (fun i => z + (i : Int)) (fun Q' q' => ?_) (fun n H4 i H' hS hi s4 => ?_) (fun n H4 D as H' hn hS s4 nD hD hpa => ?_)
        · refine ⟨_, rfl, p, 5, rfl, by decide, by decide, hp3, fun c' H4 c0' c1' hp4 bt4 => ⟨398, c', rfl, rfl, ?_⟩⟩
          obtain ⟨m, em⟩ : ∃ m : Nat, 398 + c' = (m : Int) := ⟨(398 + c').toNat, by omega⟩
          show Q' [V.int (398 + c')] H4
          rw [em]
          exact q' m H4 (by omega) ⟨by omega, hp4, bt4⟩
        · exact val_op (val_var rfl) (val_var rfl) fun Q q => ⟨_, _, rfl, rfl, q⟩
        · obtain ⟨h402, hp4, bt4⟩ := hS
          refine ⟨D, _, rfl, .inl ⟨SqL.of hD, fun l' nl' => ?_⟩⟩
          have s5 := same_of (o := .tup (as.map V.ref)) nl'
          have hp5 := (hp4.same s4).same s5
          have bt5 := bt13.trans (bt4.trans (But.of (s4.trans s5)))
          have ne := (hp4.same s4).ne nl'
          refine hN _ _ ⟨some (.int z), _, rfl, hp5, bt5, onesT ((List.range n).map fun (i : Nat) => z + (i : Int)), ?_, ?_, ?_⟩
          · refine .tup (xs := as.map V.ref) (SqT.of (by rw [delH_ne ne, upd_same])) (an_pairs (L2.Paired.mapP hpa fun a qq hz => ?_))
            have hz5 := s5 _ _ hz
            have ap : a ≠ p := fun e => by
              obtain ⟨x, y, w', hx, _⟩ := hp5
              rw [e, hx] at hz5
              cases hz5
            rw [delH_ne ap]
            exact hz5
          · rw [List.length_map, List.length_map, List.length_range]; omega
          · intro u hu
            obtain ⟨q0, hq0, rfl⟩ := List.mem_map.mp hu
            obtain ⟨i, hi, rfl⟩ := List.mem_map.mp hq0
            have hi' := List.mem_range.mp hi
            refine ⟨by show 2 ≤ 410; decide, fun x hx => ?_⟩
            rcases List.mem_cons.mp hx with e | hx
            · rw [e, fits_int]; omega
            · rw [List.mem_singleton.mp hx, fits_int, hb]; omega
      · refine ⟨rfl, false, by show V.bl (decide (V.int c = V.int 0)) = V.bl false; rw [decide_eq_false (by intro z; exact hc (V.int.inj z))], ?_⟩
        refine iteF ?_
        obtain ⟨tt, a1, a2⟩ := av0
        exact hN _ _ ⟨none, _, rfl, hp2, (bt1.trans bt2), tt, an_same bt2.del a1, a2⟩
    -- bent
    rintro σ1 H2 ⟨b, v1, rfl, hp2, bt2, tt1, an1, ft1⟩
    refine ⟨_, rfl, (by show 4 ≤ sizeLine; decide), fun l2 n2 => ⟨p, l2, _, rfl, hp2.ne n2, upd_same, by decide, by decide, hp2.same (same_of n2), fun vt H3 hvt hp3 bt3 => ?_⟩⟩
    have bt03 := bt2.trans ((But.of (same_of n2)).trans bt3)
    have an3 := an_same (But.of (same_of (o := .lst [V.int 0, V.int 1, V.int 1, V.int 2]) n2)).del an1
    have an3 := an_same bt3.del an3
    obtain ⟨m, rfl, hm⟩ : ∃ m : Nat, vt = .int (m : Int) ∧ m ≤ 2 := by
      simp only [List.mem_cons, List.not_mem_nil, or_false] at hvt
      rcases hvt with rfl | rfl | rfl | rfl
      · exact ⟨0, rfl, by decide⟩
      · exact ⟨1, rfl, by decide⟩
      · exact ⟨1, rfl, by decide⟩
      · exact ⟨2, rfl, by decide⟩
    refine ⟨(m : Int), rfl, by omega, by omega, ?_⟩
    have e0 : ((m : Int)).toNat = m := by omega
    rw [e0]
    refine for_range (lo := 0) (n := m) (fun i σ' H' => ∃ v x, σ' = [some (.ref p), some (.int lv), some v, some (.int fin), b, none, x, none] ∧ Pail H' p ∧ But p H H' ∧ ∃ tt, An K (delH H' p) v tt ∧ Fits (410 + i) (big + 410 + (i : Int)) (2 + 2 * i) tt) ⟨_, _, rfl, hp3, bt03, tt1, an3, by simpa using ft1⟩ (fun i σ' H' hi z => ?_) (fun σ' H' z => ?_)
    · obtain ⟨v, x, rfl, hp4, bt4, tt, a4, f4⟩ := z
      refine ⟨_, rfl, _, rfl, 2 + 2 * i, by omega, p, v, tt, 410 + i, big + 410 + (i : Int), rfl, hp4, a4, f4, by omega, by omega, by omega, fun v' t' H5 a5 f5 hp5 bt5 => ?_⟩
      refine ⟨v', _, rfl, hp5, bt4.trans bt5, t', a5, fits_mono (by omega) (by omega) _ _ _ (by omega) f5⟩
    · obtain ⟨v2, x, rfl, hp4, bt4, tt, a4, f4⟩ := z
      have hav : Av K p H' v2 := ⟨tt, a4, fits_mono (by omega) (by omega) _ _ _ (by omega) f4⟩
      -- another one
      have gint : ∀ (i : Int) H', -20 ≤ i → i ≤ 20 → Gd K p H' (.int i) := fun i H' h1 h2 => ⟨.int i, .plain (.int _), ok_int (by rw [hb]; omega) (by rw [hb]; omega)⟩
      refine ⟨_, rfl, (by show 1 ≤ sizeLine; decide), fun t2 nt2 => ⟨2, rfl, ?_⟩⟩
      have s5 := same_of (o := .tup [V.int 2]) nt2
      have hp5 := hp4.same s5
      refine ⟨_, rfl, p, rfl, hp5, fun v3 d3 H6 hd3 hm3 hp6 bt6 => ⟨(by show 11 ≤ sizeLine; decide), fun l3 n3 => ?_⟩⟩
      have ht2 : SqT K (delH (upd H' t2 (.tup [V.int 2])) p) t2 [V.int 2] := sqT_del hp5 (SqT.of upd_same)
      refine ⟨p, l3, _, rfl, hp6.ne n3, upd_same, (by show 0 < 11; decide), (by show 11 < 1000000; decide), hp6.same (same_of n3), fun v4 H7 hv4 hp7 bt7 => ?_⟩
      have bt67 := (But.of (same_of (o := .lst [V.int 1, V.int 4, V.int 6, V.int 9, V.int 11, V.bl true, V.str "2", V.non, V.ref t2, V.int (-2), v3]) n3)).trans bt7
      have bt57 := bt6.trans bt67
      have bt07 := bt4.trans ((But.of s5).trans bt57)
      have g4 : Gd K p H7 v4 := by
        have fix : ∀ d : PyData, okE d = true → Dp K (delH H7 p) v4 d → Gd K p H7 v4 := fun d h1 h2 => ⟨d, .plain h2, h1⟩
        simp only [List.mem_cons, List.not_mem_nil, or_false] at hv4
        rcases hv4 with rfl | rfl | rfl | rfl | rfl | rfl | rfl | rfl | rfl | rfl | rfl
        · exact gint 1 _ (by decide) (by decide)
        · exact gint 4 _ (by decide) (by decide)
        · exact gint 6 _ (by decide) (by decide)
        · exact gint 9 _ (by decide) (by decide)
        · exact gint 11 _ (by decide) (by decide)
        · exact ⟨.bool true, .plain (.bl _), by decide +kernel⟩
        · exact ⟨.str "2", .plain (.str _), by decide +kernel⟩
        · exact ⟨.none, .plain .non, by decide +kernel⟩
        · exact ⟨.tuple [.int 2], .plain (.tup (same_seqT bt57.del ht2) (.cons (.int _) .nil)), by decide +kernel⟩
        · exact gint (-2) _ (by decide) (by decide)
        · exact ⟨d3, dq_same bt67.del hd3, things_okE hm3⟩
      dsimp only [gName, List.set]
      -- levels
      refine ⟨_, rfl, _, rfl, _, rfl, _, rfl, _, rfl, (by show 6 ≤ sizeLine; decide), fun l4 n4 => ⟨p, l4, _, rfl, hp7.ne n4, upd_same, (by show 0 < 6; decide), (by show 6 < 1000000; decide), hp7.same (same_of n4), fun v5 H8 hv5 hp8 bt8 => ?_⟩⟩
      have bt78 := (But.of (same_of (o := .lst [V.int lv, V.int lv, V.int lv, V.int 2, V.int 3, v4]) n4)).trans bt8
      have g5 : Gd K p H8 v5 := by
        simp only [List.mem_cons, List.not_mem_nil, or_false] at hv5
        rcases hv5 with rfl | rfl | rfl | rfl | rfl | rfl
        · exact glv _
        · exact glv _
        · exact glv _
        · exact gint 2 _ (by decide) (by decide)
        · exact gint 3 _ (by decide) (by decide)
        · exact g4.but bt78
      dsimp only [gName, List.set]
      -- lamps
      have hav8 := hav.but ((But.of s5).trans (bt57.trans bt78))
      refine ⟨_, rfl, _, rfl, _, rfl, _, rfl, _, rfl, _, rfl, _, rfl, p, rfl, hp8, fun v6 d6 H9 hd6 hm6 hp9 bt9 => ⟨(by show 6 ≤ sizeLine; decide), fun l5 n5 => ⟨p, l5, _, rfl, hp9.ne n5, upd_same, (by show 0 < 6; decide), (by show 6 < 1000000; decide), hp9.same (same_of n5), fun v7 HA hv7 hpA btA => ?_⟩⟩⟩
      have bt9A := (But.of (same_of (o := .lst [v2, v2, v2, v2, v2, v6]) n5)).trans btA
      have av7 : Av K p HA v7 := by
        simp only [List.mem_cons, List.not_mem_nil, or_false] at hv7
        rcases hv7 with rfl | rfl | rfl | rfl | rfl | rfl
        · exact hav8.but (bt9.trans bt9A)
        · exact hav8.but (bt9.trans bt9A)
        · exact hav8.but (bt9.trans bt9A)
        · exact hav8.but (bt9.trans bt9A)
        · exact hav8.but (bt9.trans bt9A)
        · exact ⟨tOf d6, an_same bt9A.del (an_dq hd6), fits_mono (by omega) (by omega) 2 6 _ (by omega) (things_fits hm6)⟩
      dsimp only [gName, List.set]
      have bt8A := bt9.trans bt9A
      -- what comes back
      refine ⟨_, rfl, _, rfl, _, rfl, _, rfl, _, rfl, _, rfl, _, rfl, p, rfl, hpA, fun v8 d8 HB hd8 hm8 hpB btB => ⟨(by show 4 ≤ sizeLine; decide), fun l6 n6 => ⟨p, l6, _, rfl, hpB.ne n6, upd_same, (by show 0 < 4; decide), (by show 4 < 1000000; decide), hpB.same (same_of n6), fun v9 HC hv9 hpC btC => ?_⟩⟩⟩
      have btBC := (But.of (same_of (o := .lst [V.int fin, V.int fin, V.int fin, v8]) n6)).trans btC
      have g9 : Gd K p HC v9 := by
        simp only [List.mem_cons, List.not_mem_nil, or_false] at hv9
        rcases hv9 with rfl | rfl | rfl | rfl
        · exact gen _
        · exact gen _
        · exact gen _
        · exact ⟨d8, dq_same btBC.del hd8, things_okE hm8⟩
      refine ⟨(by show 3 ≤ sizeLine; decide), fun r nr => ?_⟩
      have s9 := same_of (o := .tup [v5, v7, v9]) nr
      have btAC := btB.trans (btBC.trans (But.of s9))
      exact q r v5 v7 v9 _ (SqT.of upd_same) (g5.but (bt8A.trans btAC)) (av7.but btAC) (g9.but (But.of s9)) (hpC.same s9) (bt07.trans (bt78.trans (bt8A.trans btAC)))
end
end Lamp
set_option Elab.async false
set_option linter.all false
set_option maxRecDepth 100000
set_option maxHeartbeats 1000000
namespace Lamp
open PySem PySem.Spec PyProof.Rows L2 LamX
/-! what comes back, as data -/
theorem okE_of {d : PyData} (h : okE d = true) : okD d = true ∧ d.shown.length ≤ 200 ∧ ∀ c ∈ d.shown.cps.toList, c < 128 := by
  unfold okE at h
  rw [Bool.and_eq_true, Bool.and_eq_true, Bool.and_eq_true, decide_eq_true_eq, List.all_eq_true] at h
  exact ⟨h.1, h.2.2.1, fun c hc => of_decide_eq_true (h.2.2.2 c hc)⟩
theorem okE_fit {d : PyData} (h : okE d = true) : Fits 10 (big + 500) 2 (tOf d) := by
  unfold okE at h
  rw [Bool.and_eq_true, Bool.and_eq_true] at h
  exact fitB_ok _ _ h.2.1
theorem okE_rD {r : Option Nat} (h : ∀ i, r = some i → i ≤ 1000) : okE (rD r) = true := by
  cases r with
  | none => decide +kernel
  | some i =>
    have := h i rfl
    exact ok_int (by have hb : big = 1000000000000000000000000000000000000000 := by decide
                     rw [hb]; omega) (by have hb : big = 1000000000000000000000000000000000000000 := by decide
                                         rw [hb]; omega)
/-- a picture's pairs -/
def pairD : T → PyData
  | .tup [.int a, .int b] => .tuple [.int a, .int b]
  | _ => .none
/-- pairs of a picture that is right, not too great -/
def PicT (ts : List T) : Prop := ts.length ≤ 400 ∧ ∀ t ∈ ts, ∃ a b : Int, t = .tup [.int a, .int b] ∧ a.natAbs < 10 ^ 40 ∧ b.natAbs < 10 ^ 40
theorem dp_pairs {K : PySem.W.Frag} {H : Hp} : ∀ {xs : List V} {ts : List T}, AnAll K H xs ts → (∀ t ∈ ts, ∃ a b : Int, t = .tup [.int a, .int b]) → DpAll K H xs (ts.map pairD)
  | _, _, .nil, _ => .nil
  | _, _, .cons h t, hh => by
    obtain ⟨a, b, rfl⟩ := hh _ (List.mem_cons_self ..)
    refine .cons ?_ (dp_pairs t fun u hu => hh u (List.mem_cons_of_mem _ hu))
    cases h with
    | tup hs ha =>
      cases ha with
      | cons h1 h2 =>
        cases h2 with
        | cons h3 h4 =>
          cases h4
          cases h1
          cases h3
          exact .tup hs (.cons (.int _) (.cons (.int _) .nil))
theorem wt_i {i : Int} (h : i.natAbs < 10 ^ 40) : PyData.weight (.int i) ≤ 134 := by
  unfold PyData.weight
  split
  · omega
  · have : i.natAbs.log2 < 133 := PySem.Flt.log2_lt_of (by decide) (Nat.lt_of_lt_of_le h (by decide))
    omega
theorem fits_log {i : Int} (h : i.natAbs < 10 ^ 40) : i.natAbs.log2 < 1920 := Nat.lt_trans (PySem.Flt.log2_lt_of (k := 133) (by decide) (Nat.lt_of_lt_of_le h (by decide))) (by decide)
theorem pairs_facts : ∀ {ts : List T}, (∀ t ∈ ts, ∃ a b : Int, t = .tup [.int a, .int b] ∧ a.natAbs < 10 ^ 40 ∧ b.natAbs < 10 ^ 40) → PyData.leavesShortAll 41 (ts.map pairD) = true ∧ PyData.weightAll (ts.map pairD) ≤ 271 * ts.length ∧ PyData.showableAll (ts.map pairD) = true ∧ PyData.depthAll (ts.map pairD) ≤ 1
  | [], _ => ⟨rfl, Nat.zero_le _, rfl, by decide⟩
  | t :: r, h => by
    obtain ⟨h1, h2, h3, h4⟩ := pairs_facts (ts := r) fun p hp => h p (List.mem_cons_of_mem _ hp)
    obtain ⟨a, b, rfl, a1, a2⟩ := h t (List.mem_cons_self ..)
    have w1 := wt_i a1
    have w2 := wt_i a2
    refine ⟨?_, ?_, ?_, ?_⟩
    · show ((decide ((nS a).length ≤ 41) && (decide ((nS b).length ≤ 41) && true)) && PyData.leavesShortAll 41 (r.map pairD)) = true
      rw [h1, Bool.and_true, decide_eq_true (nS_len a1), decide_eq_true (nS_len a2)]
      rfl
    · show (PyData.weight (.int a) + 1 + (PyData.weight (.int b) + 1 + 0)) + 1 + PyData.weightAll (r.map pairD) ≤ 271 * (r.length + 1)
      omega
    · show ((decide (a.natAbs.log2 < 1920) && (decide (b.natAbs.log2 < 1920) && true)) && PyData.showableAll (r.map pairD)) = true
      rw [h3, Bool.and_true, decide_eq_true (fits_log a1), decide_eq_true (fits_log a2)]
      rfl
    · show max (max 0 (max 0 0) + 1) (PyData.depthAll (r.map pairD)) ≤ 1
      omega
/-- an error told -/
def errD (n s : Str) : PyData := .list [.str n, .str s]
/-- a round told -/
def backD (p e : Int) (ts : List T) : PyData := .list [.str "back", .list [.int p, .tuple (ts.map pairD), .int e]]
def twice (d : PyData) : PyData := .list [d, d]
theorem lit_of {x : Str} (h : ∀ c ∈ x.cps.toList, c < 128) : (x.cps.toList.all fun c => decide (c < 16 ^ 8)) = true := by
  rw [List.all_eq_true]
  intro c hc
  have : c < 128 := h c hc
  exact decide_eq_true (by omega)
theorem err_ok {n s : Str} (hn : n.length ≤ 20) (an : ∀ c ∈ n.cps.toList, c < 128) (hs : s.length ≤ 200) (as : ∀ c ∈ s.cps.toList, c < 128) : (twice (errD n s)).showable = true ∧ (twice (errD n s)).depth ≤ 60 ∧ (twice (errD n s)).shown.length ≤ sizeLine := by
  refine ⟨rfl, by show max (max 0 (max 0 0) + 1) (max (max 0 (max 0 0) + 1) 0) + 1 ≤ 60; omega, ?_⟩
  have hl : PyData.leavesShort 41 (twice (errD n s)) = true := by
    show (((n.cps.toList.all fun c => decide (c < 16 ^ 8)) && ((s.cps.toList.all fun c => decide (c < 16 ^ 8)) && true)) && (((n.cps.toList.all fun c => decide (c < 16 ^ 8)) && ((s.cps.toList.all fun c => decide (c < 16 ^ 8)) && true)) && true)) = true
    rw [lit_of an, lit_of as]
    rfl
  have z := PyData.shown_le 41 (by decide) _ hl
  have e : (twice (errD n s)).weight = (n.length + 1 + (s.length + 1 + 0)) + 1 + ((n.length + 1 + (s.length + 1 + 0)) + 1 + 0) := rfl
  have hl : (1000000 : Nat) ≤ sizeLine := by decide
  have : (41 + 2) * (twice (errD n s)).weight ≤ 43 * 1000 := Nat.mul_le_mul (Nat.le_refl _) (by omega)
  omega
theorem back_ok {p e : Int} {ts : List T} (hp : p.natAbs < 10 ^ 40) (he : e.natAbs < 10 ^ 40) (ht : PicT ts) : (twice (backD p e ts)).showable = true ∧ (twice (backD p e ts)).depth ≤ 60 ∧ (twice (backD p e ts)).shown.length ≤ sizeLine := by
  obtain ⟨h1, h2, h3, h4⟩ := pairs_facts ht.2
  have few := ht.1
  refine ⟨?_, ?_, ?_⟩
  · show ((true && ((decide (p.natAbs.log2 < 1920) && (PyData.showableAll (ts.map pairD) && (decide (e.natAbs.log2 < 1920) && true))) && true)) && ((true && ((decide (p.natAbs.log2 < 1920) && (PyData.showableAll (ts.map pairD) && (decide (e.natAbs.log2 < 1920) && true))) && true)) && true)) = true
    rw [h3, decide_eq_true (fits_log hp), decide_eq_true (fits_log he)]
    rfl
  · have one : (backD p e ts).depth ≤ 10 := by
      show max 0 (max (max 0 (max (PyData.depthAll (ts.map pairD) + 1) (max 0 0)) + 1) 0) + 1 ≤ 10
      omega
    show max (backD p e ts).depth (max (backD p e ts).depth 0) + 1 ≤ 60
    omega
  · have one : PyData.leavesShort 41 (backD p e ts) = true := by
      show ((("back" : Str).cps.toList.all fun c => decide (c < 16 ^ 8)) && ((decide ((nS p).length ≤ 41) && (PyData.leavesShortAll 41 (ts.map pairD) && (decide ((nS e).length ≤ 41) && true))) && true)) = true
      rw [h1, decide_eq_true (nS_len hp), decide_eq_true (nS_len he)]
      decide
    have hs : PyData.leavesShort 41 (twice (backD p e ts)) = true := by
      show (PyData.leavesShort 41 (backD p e ts) && (PyData.leavesShort 41 (backD p e ts) && true)) = true
      rw [one]
      rfl
    have z := PyData.shown_le 41 (by decide) _ hs
    have w1 := wt_i hp
    have w2 := wt_i he
    have wt : PyData.weight (.tuple (ts.map pairD)) = PyData.weightAll (ts.map pairD) := rfl
    have eb : (backD p e ts).weight = ("back" : Str).length + 1 + ((PyData.weight (.int p) + 1 + (PyData.weight (.tuple (ts.map pairD)) + 1 + (PyData.weight (.int e) + 1 + 0))) + 1 + 0) := rfl
    have lb : ("back" : Str).length = 4 := rfl
    have ee : (twice (backD p e ts)).weight = (backD p e ts).weight + 1 + ((backD p e ts).weight + 1 + 0) := rfl
    have hw : (twice (backD p e ts)).weight ≤ 220000 := by omega
    have : (41 + 2) * (twice (backD p e ts)).weight ≤ 43 * 220000 := Nat.mul_le_mul (Nat.le_refl _) hw
    have hl : (43 * 220000 : Nat) ≤ sizeLine := by decide
    omega
end Lamp
set_option Elab.async false
set_option linter.all false
set_option maxRecDepth 100000
set_option maxHeartbeats 2000000
namespace Lamp
open PySem PySem.Spec PyProof.Rows L2 LamX
/-- what is told at the end -/
def Told (K : PySem.W.Frag) (H : Hp) (lv la en : V) (dl de : PyData) : Due → PyData → Prop
  | .lv, D => D = errD "InvalidLevels" dl.shown
  | .la r, D => D = errD "InvalidLamps" (rD r).shown
  | .nu, D => D = errD "InvalidNumber" de.shown
  | .ok, D => ∃ p e ts, D = backD p e ts ∧ Dp K H lv (.int p) ∧ Dp K H la (.tuple (ts.map pairD)) ∧ Dp K H en (.int e)
theorem Told.ext {K : PySem.W.Frag} {H H' : Hp} {lv la en : V} {dl de D : PyData} (e : ExtN H H') : ∀ {d : Due}, Told K H lv la en dl de d D → Told K H' lv la en dl de d D
  | .lv, h => h
  | .la _, h => h
  | .nu, h => h
  | .ok, ⟨p, x, ts, h1, h2, h3, h4⟩ => ⟨p, x, ts, h1, dp_ext e _ _ h2, dp_ext e _ _ h3, dp_ext e _ _ h4⟩
theorem fit_int {w n : Nat} {b i : Int} (h : Fits w b n (.int i)) : -b ≤ i ∧ i ≤ b := by rw [fits_int] at h; exact h
theorem told_ex {K : PySem.W.Frag} {H : Hp} {lv la en : V} {ta : T} {dl de : PyData} {d : Due} (h : DueOf (tOf dl) ta (tOf de) d) (hl : Dq K H lv dl) (ha : An K H la ta) (hn : Dq K H en de) (hf : Fits 412 (big + 412) 6 ta) (kl : okE dl = true) (ke : okE de = true) :
    ∃ D, Told K H lv la en dl de d D ∧ ((twice D).showable = true ∧ (twice D).depth ≤ 60 ∧ (twice D).shown.length ≤ sizeLine) := by
  have hb : big = 1000000000000000000000000000000000000000 := by decide
  obtain ⟨kl1, kl2, kl3⟩ := okE_of kl
  obtain ⟨ke1, ke2, ke3⟩ := okE_of ke
  match d, h with
  | .lv, h => exact ⟨_, rfl, err_ok (by decide) (by decide) kl2 kl3⟩
  | .nu, h => exact ⟨_, rfl, err_ok (by decide) (by decide) ke2 ke3⟩
  | .la none, h =>
    obtain ⟨_, a, b⟩ := okE_of (okE_rD (r := none) fun i e => by cases e)
    exact ⟨_, rfl, err_ok (by decide) (by decide) a b⟩
  | .la (some i), h =>
    obtain ⟨_, p, ts, _, e2, hj⟩ := h
    have hi : i ≤ 1000 := by
      obtain ⟨_, h, _⟩ := hj
      omega
    obtain ⟨_, a, b⟩ := okE_of (okE_rD (r := some i) fun j e => by cases e; exact hi)
    exact ⟨_, rfl, err_ok (by decide) (by decide) a b⟩
  | .ok, h =>
    obtain ⟨h1, p, ts, e1, rfl, ⟨j1, j2⟩, h4⟩ := h
    have el : dl = .int p := by
      cases dl <;> simp only [tOf] at e1 <;> first | (injection e1 with e1; rw [e1]) | cases e1
    subst el
    obtain ⟨e, ee⟩ : ∃ e, de = .int e := by
      cases de <;> simp only [tOf, whole] at h4 <;> first | exact ⟨_, rfl⟩ | cases h4
    subst ee
    have hpl : p = 2 ∨ p = 3 ∨ p = 5 ∨ p = 7 := of_decide_eq_true h1
    have good : ∀ t ∈ ts, ∃ a b : Int, t = .tup [.int a, .int b] ∧ 0 < b ∧ b < p := fun t ht => by
      obtain ⟨i, hi, rfl⟩ := List.getElem_of_mem ht
      obtain ⟨a, b, g1, g2, _⟩ := good_at (j2 i hi)
      rw [List.getElem?_eq_getElem hi] at g1
      obtain ⟨b', eb, g3, g4⟩ := lampOf_some g2
      have g1 := Option.some.inj g1
      injection eb with eb
      simp only [List.cons.injEq, T.int.injEq, and_true, true_and] at eb
      subst eb
      exact ⟨a, b, g1, g3, g4⟩
    have pic : PicT ts := ⟨j1, fun t ht => by
      obtain ⟨a, b, rfl, b1, b2⟩ := good t ht
      rcases fits_tup hf with e | ⟨m, _, _, all⟩
      · rw [e] at ht; cases ht
      · have f := all _ ht
        rcases fits_tup f with e | ⟨m', _, _, all'⟩
        · cases e
        · obtain ⟨f1, f2⟩ := fit_int (all' (.int a) (List.mem_cons_self ..))
          rw [hb] at f1 f2
          exact ⟨a, b, rfl, by omega, by omega⟩⟩
    have dpl : Dp K H lv (.int p) := by cases hl with | plain h => exact h
    have dpe : Dp K H en (.int e) := by cases hn with | plain h => exact h
    have ebig : e.natAbs < 10 ^ 40 := by
      obtain ⟨f1, f2⟩ := fit_int (okE_fit ke)
      rw [hb] at f1 f2
      omega
    refine ⟨_, ⟨p, e, ts, rfl, dpl, ?_, dpe⟩, back_ok (by omega) ebig pic⟩
    cases ha with
    | tup hs hall => exact .tup hs (dp_pairs hall fun t ht => by obtain ⟨a, b, e, _⟩ := good t ht; exact ⟨a, b, e⟩)
end Lamp
set_option Elab.async false
set_option linter.all false
set_option maxRecDepth 100000
set_option maxHeartbeats 2000000
namespace Lamp
open PySem PySem.Spec PyProof.Rows L2 LamX
abbrev sRight : Stmt := top 40
section
variable {K : PySem.W.Frag}
theorem tabs_but {T : List (Addr × Str)} {H H' : Hp} {p : Addr} (hp : Pail H p) (b : But p H H') (t : Tabs T H) : Tabs T H' := fun x hx => by
  obtain ⟨ps, h1, h2, h3⟩ := t x hx
  obtain ⟨a, b', c, e, _⟩ := hp
  have n1 : x.1 ≠ p := fun z => by rw [z, e] at h1; cases h1
  refine ⟨ps, b _ _ n1 h1, h2, fun pos cv hc => ?_⟩
  obtain ⟨c', e1, e2⟩ := h3 pos cv hc
  have n2 : c' ≠ p := fun z => by rw [z, e] at e2; unfold CodeO at e2; cases e2
  exact ⟨c', e1, b _ _ n2 e2⟩
theorem tabs_upd {T : List (Addr × Str)} {H : Hp} {l : Addr} {xs ys : List V} (h : H l = some (.lst xs)) (t : Tabs T H) : Tabs T (upd H l (.lst ys)) := fun x hx => by
  obtain ⟨ps, h1, h2, h3⟩ := t x hx
  have n1 : x.1 ≠ l := fun z => by rw [z, h] at h1; cases h1
  refine ⟨ps, by rw [upd_ne n1]; exact h1, h2, fun pos cv hc => ?_⟩
  obtain ⟨c', e1, e2⟩ := h3 pos cv hc
  have n2 : c' ≠ l := fun z => by rw [z, h] at e2; unfold CodeO at e2; cases e2
  exact ⟨c', e1, by rw [upd_ne n2]; exact e2⟩
/-- what the lambda comes to, told beside what stands at z -/
theorem lam_run {C xL xA xN cA cB cC f z : Addr} {lv la en : V} {tl ta te : T} {dl de D : PyData} {d : Due} {H : Hp} {o : HO} {Q : VK} (hz : H z = some o) (hd : DueOf tl ta te d) (ht : Told K (delH H z) lv la en dl de d D) (h1 : An K H lv tl) (h2 : An K H la ta) (h3 : An K H en te) (ql : Dq K H lv dl) (kl : okD dl = true) (qe : Dq K H en de) (ke : okD de = true)
    (kr : ∀ r, d = .la r → okD (rD r) = true) (mL : PySem.W.exmAny K (.ref xL) [.ref cA, .ref cB, .ref cC] = some true) (mA : PySem.W.exmAny K (.ref xA) [.ref cA, .ref cB, .ref cC] = some true) (mN : PySem.W.exmAny K (.ref xN) [.ref cA, .ref cB, .ref cC] = some true)
    (k : ∀ g H', Same H H' → Dp K (delH H' z) (.ref g) D → Q (.ref g) H') : rMkX K C xL xA xN lv la en H (raisE K (.ref cA) (.ref cB) (.ref cC) (spSort K xL xA xN) Q) (fun x H2 => spTold C [x] H2 (backE f Q) E0) := by
  refine ⟨tl, ta, te, h1, h2, h3, fun d' hd' => ?_⟩
  have e := hd.one hd'
  subst e
  have ne : ∀ {H' : Hp} {l : Addr}, Same H H' → H' l = none → l ≠ z := fun s nl e => by
    have e1 := s _ _ hz
    rw [← e, nl] at e1
    cases e1
  have two : ∀ {l : Addr} {H' : Hp} {a b : Str}, l ≠ z → H' l = some (.lst [.str a, .str b]) → Dp K (delH H' z) (.ref l) (errD a b) := fun n hl => .lst (SqL.of (by rw [delH_ne n]; exact hl)) (.cons (.str _) (.cons (.str _) .nil))
  cases d with
  | lv =>
    intro e H' s he
    refine ⟨xL, e, rfl, rfl, mL, fun a na => ⟨rfl, "given", "InvalidLevels", lv, dl, .inr (.inl ⟨rfl, rfl, rfl⟩), he, dq_same s ql, kl, fun l H'' s2 nl hl => k l H'' (s.trans s2) ?_⟩⟩
    have ht : D = errD "InvalidLevels" dl.shown := ht
    rw [ht]
    exact two (ne s nl) hl
  | la r =>
    intro e H' s he
    have dr : Dq K H' (rV r) (rD r) := by
      cases r with
      | none => exact .plain .non
      | some i => exact .plain (.int _)
    refine ⟨xA, e, rfl, rfl, mA, fun a na => ⟨rfl, "index", "InvalidLamps", rV r, rD r, .inl ⟨rfl, rfl, rfl⟩, he, dr, kr r rfl, fun l H'' s2 nl hl => k l H'' (s.trans s2) ?_⟩⟩
    have ht : D = errD "InvalidLamps" (rD r).shown := ht
    rw [ht]
    exact two (ne s nl) hl
  | nu =>
    intro e H' s he
    refine ⟨xN, e, rfl, rfl, mN, fun a na => ⟨rfl, "given", "InvalidNumber", en, de, .inr (.inr ⟨rfl, rfl, rfl⟩), he, dq_same s qe, ke, fun l H'' s2 nl hl => k l H'' (s.trans s2) ?_⟩⟩
    have ht : D = errD "InvalidNumber" de.shown := ht
    rw [ht]
    exact two (ne s nl) hl
  | ok =>
    obtain ⟨p, e, ts, rfl, g1, g2, g3⟩ := ht
    intro a H' s na hr
    refine ⟨a, lv, la, en, rfl, hr, fun l H2 s2 nl hl => back_run fun l2 nl2 => ?_⟩
    have s3 := same_of (o := .lst [V.str "back", V.ref l]) nl2
    have s123 := (s.trans s2).trans s3
    have sd : Same (delH H z) (delH (upd H2 l2 (.lst [V.str "back", V.ref l])) z) := (But.of s123).del
    exact k l2 _ s123 (.lst (SqL.of (by rw [delH_ne (ne (s.trans s2) nl2), upd_same])) (.cons (.str _) (.cons (.lst (SqL.of (by rw [delH_ne (ne s nl)]; exact s3 _ _ hl)) (.cons (dp_same sd _ _ g1) (.cons (dp_same sd _ _ g2) (.cons (dp_same sd _ _ g3) .nil)))) .nil)))
end
def qR : Str := (envOfC "_law_right" (defScope sRight) 0 0 .none).qual ++ "<lambda>"
def spRight (K : PySem.W.Frag) (T : List (Addr × Str)) : Sp := fun vs H Q _ => ∃ (p : Addr), vs = [.ref p] ∧ Pail H p ∧ Tabs T H ∧ ∀ H', ButN p H H' → Tabs T H' → Q (.bl true) H'
section
variable {P : Program} {w : World} {K : PySem.W.Frag} {mg : Str → Option Value} {base : Heap}
/-- the rule for a def whose code object is asked -/
theorem okGC {x qual : Str} {st : Stmt} {f : Addr} {fd : FuncData} {N ps : List Str} {k : Nat} {sp : Sp} (F : Fun K x qual st f fd) (S : FnScope N ps (defScope st)) (len : ∀ vs H Q E, sp vs H Q E → vs.length = ps.length)
    (hbody : ∀ (cdv : Value) (A : Around) (outer : List Env) (s : Shared) (H : Hp) (vs : List V) (Q : VK) (E : XK), fd.code = cdv → A.guards = some [] → Room k (A.deeper (envOfC qual (defScope st) s.heap.objs.size f cdv)) → sp vs H Q E →
      ∃ t, PSs (cxOf CX0 P w K mg base N qual (defScope st) f cdv A outer s H E).nox (defBody st) t ∧ t { nx := fun _ H' => Q .non H', rt := Q } (start N vs) H) : FnG P w K mg base (k + 1) f fd ps sp := by
  obtain ⟨oc, od, kV, doc, pm, an, cdv, ct, osl, efd, hlk, hcode⟩ := F.ex
  subst efd
  refine ⟨len, fun A out s H ar us vs Q E hgd hroom hst hbind hvals hs => ?_⟩
  have hcount := len _ _ _ _ hs
  have inK : K.In s.heap := hst.mod.kin.keeps fun b o e => (hst.bs b o e).1
  have noLim : s.heap.NoLimit := hst.mod.nolimit.keeps fun b o e => (hst.bs b o e).1
  refine codeAny_call_function hroom.depth (inK _ _ hlk) rfl S.co S.gen rfl (PySem.W.codeRec_of inK hcode) (hbind _ _ _ _ ?_)
  refine wpAny_newFunctionEnv_cells S.kind (fun y hy => ?_) fun env eenv s1 xin => ?_
  · obtain ⟨nm, val⟩ := y
    cases S.par nm (List.of_mem_zip hy).1 with
    | inl isLocal => exact .inl isLocal
    | inr isCell => exact .inr ⟨isCell, PySem.W.cellsFrom_some _ _ _ (.inl isCell)⟩
  subst eenv
  refine ⟨noLim.keeps xin.toInCall.keep, codeAny_func ?_⟩
  obtain ⟨t, ht0, hq⟩ := hbody cdv A out s H vs Q E rfl hgd (hroom.deeper _) hs
  have ht := ht0.nox
  have inv0 : Inv (cxOf CX0 P w K mg base N qual (defScope st) f cdv A out s H E) [] (start N vs) H s1 := inv_start S hroom.hd hst hcount hvals xin
  have fin : ∀ {σ' : L2.St} {H' : Hp} {v : V} {u : Value} {s' : Shared}, Inv (cxOf CX0 P w K mg base N qual (defScope st) f cdv A out s H E) [] σ' H' s' → RelV v u → Q v H' → CE out P w H s Q u s' := fun J rv q => ⟨_, _, J.os, J.bare, J.base, J.hok, rv, q⟩
  refine wpAny_mono (ht.run [] s1 (start N vs) H _ inv0 hq) (fun flow s' told => ?_) fun e s' told => told
  match flow, told with
  | .ret u, ⟨v, σ', H', J, rv, q⟩ => exact fin J rv q
  | .next, ⟨σ', H', J, q⟩ => exact fin (v := V.non) (u := Value.none) J rfl q
  | .brk, ⟨_, _, _, q⟩ => exact False.elim q
  | .cont, ⟨_, _, _, q⟩ => exact False.elim q
end
end Lamp
set_option Elab.async false
set_option linter.all false
set_option maxRecDepth 100000
set_option maxHeartbeats 400000
namespace Lamp
open PySem PySem.Spec PyProof.Rows L2 LamX
theorem str_ok {x : Str} (h : ∀ c ∈ x.cps.toList, c < 128) : PyData.strOk x = true := by
  unfold PyData.strOk
  rw [Array.all_eq_true]
  intro i hi
  have := h x.cps[i] (by simp)
  exact decide_eq_true (by omega)
theorem err_shaped {n s : Str} (hn : ∀ c ∈ n.cps.toList, c < 128) (hs : ∀ c ∈ s.cps.toList, c < 128) : SeqAt.shaped (errD n s) = true := by
  show ((PyData.strOk n && (PyData.strOk s && true)) && decide (max 0 (max 0 0) + 1 ≤ 64)) = true
  rw [str_ok hn, str_ok hs]
  rfl
theorem passes_lam2 {X : Cx} {E : XK} {A : Around} {outer : List Env} {s : Shared} {H : Hp} {scope : Scope} {f c' : Addr} : Passes (L2.CX (lamCx X A outer s H E scope f c').prog (lamCx X A outer s H E scope f c').w) (lamCx X A outer s H E scope f c') E := passes_call (X := lamCx X A outer s H E scope f c') (takes_of rfl rfl rfl rfl) fun _ _ _ _ h => h
/-- the bodies of the lambdas, wherever they stand -/
theorem pe_body1 {Y : Cx} {C xL xA xN : Addr} {E : XK} {p1 p2 p3 p4 p5 p6 p7 : Pos} (Td : Dr Y.prog Y.w Y.K Y.mg Y.base (spTold C) "_law_told" ["_law_mine"] 3) (M : MkX Y.prog Y.w Y.K Y.mg Y.base C xL xA xN) (hr : Room 5 Y.A) (g1 : Gl Y "_law_told") (g2 : Gl Y "Round") (mR : Y.mg "Round" = some (.ref C)) (hx : Passes (L2.CX Y.prog Y.w) Y E)
    (n2 : Y.N[2]? = some ("_law_p" : Str)) (n3 : Y.N[3]? = some ("_law_some_here" : Str)) (n4 : Y.N[4]? = some ("_law_last_here" : Str)) (v2 : Vis Y.env.scope "_law_p") (v3 : Vis Y.env.scope "_law_some_here") (v4 : Vis Y.env.scope "_law_last_here") :
    PE Y (.Call (.Name "_law_told" p1) [.Call (.Name "Round" p2) [.Name "_law_p" p3, .Name "_law_some_here" p4, .Name "_law_last_here" p5] [] p6] [] p7) (tCallG (spTold C) (tCons (tMkX Y.K C xL xA xN E (tCons (tVar 2) (tCons (tVar 3) (tCons (tVar 4) tNil)))) tNil)) :=
  pe_dr Td (by decide) hr g1 (pa_cons (pe_mkX M hr g2 mR hx (pa_cons (pv 2 n2 v2) (pa_cons (pv 3 n3 v3) (pa_cons (pv 4 n4 v4) pa_nil)))) pa_nil)
theorem pe_body2 {Y : Cx} {C xL xA xN : Addr} {E : XK} {p1 p2 p3 p4 p5 p6 p7 q1 q2 q3 : Pos} (Td : Dr Y.prog Y.w Y.K Y.mg Y.base (spTold C) "_law_told" ["_law_mine"] 3) (M : MkX Y.prog Y.w Y.K Y.mg Y.base C xL xA xN) (hr : Room 5 Y.A) (g1 : Gl Y "_law_told") (g2 : Gl Y "Round") (mR : Y.mg "Round" = some (.ref C)) (hx : Passes (L2.CX Y.prog Y.w) Y E)
    (n2 : Y.N[2]? = some ("_law_p" : Str)) (n3 : Y.N[3]? = some ("_law_some_here" : Str)) (n4 : Y.N[4]? = some ("_law_last_here" : Str)) (v2 : Vis Y.env.scope "_law_p") (v3 : Vis Y.env.scope "_law_some_here") (v4 : Vis Y.env.scope "_law_last_here") :
    PE Y (.Call (.Name "_law_told" p1) [.Call (.Name "Round" p2) [] [⟨some "end", .Name "_law_last_here" p3, q1⟩, ⟨some "lamps", .Name "_law_some_here" p4, q2⟩, ⟨some "levels", .Name "_law_p" p5, q3⟩] p6] [] p7) (tCallG (spTold C) (tCons (tMkXK Y.K C xL xA xN E (tCons (tVar 4) (tCons (tVar 3) (tCons (tVar 2) tNil)))) tNil)) :=
  pe_dr Td (by decide) hr g1 (pa_cons (pe_mkXK M hr g2 mR hx (pk_cons (pv 4 n4 v4) (pk_cons (pv 3 n3 v3) (pk_cons (pv 2 n2 v2) pk_nil)))) pa_nil)
end Lamp
set_option Elab.async false
set_option linter.all false
set_option maxRecDepth 100000
set_option maxHeartbeats 400000
namespace Lamp
open PySem PySem.Spec PyProof.Rows L2 LamX
section
variable {P : Program} {w : World} {K : PySem.W.Frag} {mg : Str → Option Value} {base : Heap} {C xL xA xN cA cB cC : Addr}
theorem scRight : FnScope ["_law_pail", "_law_turn", "_law_p", "_law_some_here", "_law_last_here", "_law_due_here", "_law_got"] ["_law_pail"] (defScope sRight) := ⟨rfl, rfl, rfl, by decide +kernel, rfl, by decide +kernel, by decide +kernel⟩
/-- the classes that may be raised are handled -/
structure Exm (K : PySem.W.Frag) (xL xA xN cA cB cC : Addr) : Prop where
  mL : PySem.W.exmAny K (.ref xL) [.ref cA, .ref cB, .ref cC] = some true
  mA : PySem.W.exmAny K (.ref xA) [.ref cA, .ref cB, .ref cC] = some true
  mN : PySem.W.exmAny K (.ref xN) [.ref cA, .ref cB, .ref cC] = some true
theorem ok_right {f fD c Pt : Addr} {fd fdD : FuncData} {T : List (Addr × Str)} (F : Fun K "_law_right" "_law_right" sRight f fd) (hcd : fd.code = .ref c) (TB : TabB base mg c Pt) (hmT : (Pt, qR) ∈ T) (hu : ∀ p ∈ T, p.1 = Pt → p.2 = qR)
    (So : Dr P w K mg base (spSome K) "_law_some" ["_law_pail"] 9) (GD : FnG P w K mg base 3 fD fdD ["_law_p", "_law_some_here", "_law_last"] (spDue K)) (bD : Binds K fdD ["_law_p", "_law_some_here", "_law_last"] []) (mD : mg "_law_due" = some (.ref fD)) (kD : PySem.W.keepIn K (.ref fD) = true)
    (Aw : AnsR P w K mg base cA cB cC (spSort K xL xA xN) 2) (Td : Dr P w K mg base (spTold C) "_law_told" ["_law_mine"] 3) (M : MkX P w K mg base C xL xA xN) (mR : mg "Round" = some (.ref C)) (X : Exm K xL xA xN cA cB cC)
    (mr : mg "range" = none) (mp : mg "repr" = none) : FnG P w K mg base 10 f fd ["_law_pail"] (spRight K T) := by
  refine okGC F scRight (fun vs H Q E h => ?_) (fun cdv A outer s H vs Q E hcv hgd hr h => ?_)
  · obtain ⟨p, rfl, _⟩ := h
    rfl
  · obtain ⟨p, rfl, hp, hT, q⟩ := h
    have hu64 := hr.units
    have hr7 : Room 7 _ := hr.mono (by decide)
    have hr3 : Room 3 _ := hr.mono (by decide)
    have ec : cdv = .ref c := hcv.symm.trans hcd
    subst ec
    refine ⟨_, pss_cons (ps_for PassesOwn.never rfl (pi_range1 rfl mr (pa_cons pe_int pa_nil)) (pg_name (i := 1) scRight.nd rfl (.inl rfl))
        (pss_cons (ps_asg (pe_dr So (by decide) hr rfl (pa_cons (pv 0) pa_nil)) (pg_tup rfl (pgs_cons (pg_name (i := 2) scRight.nd rfl (.inr rfl)) (pgs_cons (pg_name (i := 3) scRight.nd rfl (.inr rfl)) (pgs_cons (pg_name (i := 4) scRight.nd rfl (.inr rfl)) pgs_nil)))))
        (pss_cons (ps_set (i := 5) scRight.nd rfl (.inl rfl) (pe_callG GD hgd hr3 rfl mD kD bD (pa_cons (pv 2) (pa_cons (pv 3) (pa_cons (pv 4) pa_nil)))))
        (pss_cons (ps_set (i := 5) scRight.nd rfl (.inl rfl) (pe_ifExp (pt_cmpR (op_neD hu64) (pv 5) (pe_lst pa_nil) (nomark _)) (pv 5) (pe_lst (pa_cons pe_str (pa_cons (pe_lst (pa_cons (pv 2) (pa_cons (pv 3) (pa_cons (pv 4) pa_nil)))) pa_nil)))))
        (pss_cons (ps_set (i := 6) scRight.nd rfl (.inl rfl) (pe_lst (pa_cons (pe_ans (t := fun E => tCallG (spTold C) (tCons (tMkX K C xL xA xN E (tCons (tVar 2) (tCons (tVar 3) (tCons (tVar 4) tNil)))) tNil)) (k := 5) Aw (by decide) hgd hr7 rfl TB rfl hmT hu (lamS_by (by show lamSB (defScope sRight) _ = true; decide +kernel)) rfl (fun _ _ _ _ _ => rfl)
            (fun A' outer' s' H' E' f' c' hr' => by
              refine pe_body1 Td M ?_ ?_ ?_ mR ?_ ?_ ?_ ?_ ?_ ?_ ?_
              · exact hr'
              · rfl
              · rfl
              · exact passes_lam2
              · rfl
              · rfl
              · rfl
              · exact .inr (.inr rfl)
              · exact .inr (.inr rfl)
              · exact .inr (.inr rfl))) pa_nil)))
        (pss_cons (ps_expr (pe_bm PySem.F.plainAttrs_list PySem.F.slot_list_append PySem.F.type_list_append mt_append (pv 6) (pa_cons (pe_ans (t := fun E => tCallG (spTold C) (tCons (tMkXK K C xL xA xN E (tCons (tVar 4) (tCons (tVar 3) (tCons (tVar 2) tNil)))) tNil)) (k := 5) Aw (by decide) hgd hr7 rfl TB rfl hmT hu (lamS_by (by show lamSB (defScope sRight) _ = true; decide +kernel)) rfl (fun _ _ _ _ _ => rfl)
            (fun A' outer' s' H' E' f' c' hr' => by
              refine pe_body2 Td M ?_ ?_ ?_ mR ?_ ?_ ?_ ?_ ?_ ?_ ?_
              · exact hr'
              · rfl
              · rfl
              · exact passes_lam2
              · rfl
              · rfl
              · rfl
              · exact .inr (.inr rfl)
              · exact .inr (.inr rfl)
              · exact .inr (.inr rfl))) pa_nil)))
        (pss_one (ps_if (pt_cmpR op_ne (pe_callB (call_reprD hgd hu64) (by rfl) mp (by decide +kernel) (pa_cons (pv 6) pa_nil)) (pe_callB (call_reprD hgd hu64) (by rfl) mp (by decide +kernel) (pa_cons (pe_lst (pa_cons (pv 5) (pa_cons (pv 5) pa_nil))) pa_nil)) (nomark _)) pss_never pss_nil))))))))
      (pss_one (ps_ret pe_bl)), ?_⟩
    refine sq_forRn (n := 10) (by decide) (fun i σ' H' => ∃ x1 x2 x3 x4 x5 x6, σ' = [some (.ref p), x1, x2, x3, x4, x5, x6] ∧ ButN p H H' ∧ Pail H' p ∧ Tabs T H') ⟨_, _, _, _, _, _, rfl, ButN.of (But.refl p H), hp, hT⟩ ?_ ?_ val_c
    · rintro i σ' H0 hi ⟨x1, x2, x3, x4, x5, x6, rfl, bt0, hp0, hT0⟩
      refine ⟨_, rfl, p, rfl, hp0, fun r lv la en H1 hr1 gl av ge hp1 bt1 => ⟨r, _, rfl, hr1, rfl, _, _, rfl, _, _, rfl, _, _, rfl, rfl, ?_⟩⟩
      dsimp only [gName, List.set]
      obtain ⟨dl, ql, kl⟩ := gl
      obtain ⟨de, qe, ke⟩ := ge
      obtain ⟨ta, ha, fa⟩ := av
      have ql1 : Dq K H1 lv dl := dq_same del_sub ql
      have qe1 : Dq K H1 en de := dq_same del_sub qe
      have ha1 : An K H1 la ta := an_same del_sub ha
      have hT1 := tabs_but hp0 bt1 hT0
      have few : ∀ ts, ta = .tup ts → ts.length ≤ 1000 := fun ts e => by
        subst e
        rcases fits_tup fa with e | ⟨m, _, l, _⟩
        · rw [e]; exact Nat.zero_le _
        · omega
      refine ⟨_, rfl, _, rfl, _, rfl, lv, la, en, tOf dl, ta, tOf de, dl, de, rfl, an_dq ql1, ha1, an_dq qe1, ql1, (okE_of kl).1, qe1, (okE_of ke).1, few, fun d l H2 hd s2 nl hl => ?_⟩
      dsimp only [gName, List.set]
      obtain ⟨D, td0, res⟩ := told_ex hd ql ha qe fa kl ke
      have td := td0.ext (ext_same del_sub)
      have kr0 : ∀ i, d = .la (some i) → i ≤ 1000 := fun i e => by
        subst e
        obtain ⟨_, pp, ts, _, e2, hj⟩ := hd
        have f := few ts e2
        obtain ⟨h, _⟩ := hj
        omega
      have kr : ∀ r, d = .la r → okD (rD r) = true := fun r e => (okE_of (okE_rD fun i e2 => kr0 i (by rw [e, e2]))).1
      -- what is due
      refine sq_setR (fun v H' => ∃ lD, v = .ref lD ∧ Same H2 H' ∧ Dp K H' (.ref lD) D) (fun Q' q' => ?_) ?_
      · refine ⟨_, rfl, (by show 0 ≤ sizeLine; decide), fun l3 n3 => ?_⟩
        have s3 := same_of (o := .lst []) n3
        have err : ∀ n s : Str, (∀ c ∈ n.cps.toList, c < 128) → (∀ c ∈ s.cps.toList, c < 128) → H2 l = some (.lst [.str n, .str s]) → D = errD n s → rNeD K (.ref l) (.ref l3) (upd H2 l3 (.lst [])) fun z H3 => ∃ k, z = .bl k ∧ (if k = true then tVar 5 [some (.ref p), some (.int (i : Int)), some lv, some la, some en, some (.ref l), x6] H3 Q' else
            tLst (tCons (tC (.str "back")) (tCons (tLst (tCons (tVar 2) (tCons (tVar 3) (tCons (tVar 4) tNil)))) tNil)) [some (.ref p), some (.int (i : Int)), some lv, some la, some en, some (.ref l), x6] H3 Q') := fun n s hn hs h e => by
          have dd : Dp K (upd H2 l3 (.lst [])) (.ref l) (errD n s) := .lst (SqL.of (s3 _ _ h)) (.cons (.str _) (.cons (.str _) .nil))
          refine ⟨errD n s, .list [], dd, .lst (SqL.of upd_same) .nil, err_shaped hn hs, by decide, true, rfl, ?_⟩
          refine iteT ⟨_, rfl, q' _ _ ⟨l, rfl, s3, ?_⟩⟩
          rw [e]
          exact dd
        cases d with
        | lv => exact err _ _ (by decide) (okE_of kl).2.2 hl td
        | la r => exact err _ _ (by decide) (okE_of (okE_rD fun i e => kr0 i (by rw [e]))).2.2 hl td
        | nu => exact err _ _ (by decide) (okE_of ke).2.2 hl td
        | ok =>
          obtain ⟨pp, ee, ts, rfl, g1, g2, g3⟩ := td
          refine ⟨.list [], .list [], .lst (SqL.of (s3 _ _ hl)) .nil, .lst (SqL.of upd_same) .nil, by decide, by decide, false, rfl, ?_⟩
          refine iteF ⟨_, rfl, _, rfl, _, rfl, (by show 3 ≤ sizeLine; decide), fun l4 n4 => ⟨(by show 2 ≤ sizeLine; decide), fun l5 n5 => q' _ _ ⟨l5, rfl, ?_, ?_⟩⟩⟩
          · exact (s3.trans (same_of n4)).trans (same_of n5)
          · have s4 := same_of (o := .lst [lv, la, en]) n4
            have s5 := same_of (o := .lst [V.str "back", V.ref l4]) n5
            have sx := (((s2.trans s3).trans s4).trans s5)
            exact .lst (SqL.of upd_same) (.cons (.str _) (.cons (.lst (SqL.of (s5 _ _ upd_same)) (.cons (dp_same sx _ _ g1) (.cons (dp_same sx _ _ g2) (.cons (dp_same sx _ _ g3) .nil)))) .nil))
      rintro v H3 ⟨lD, rfl, s23, dD⟩
      dsimp only [List.set]
      have s13 := s2.trans s23
      have hT3 : Tabs T H3 := hT1.ext s13
      -- made by position
      refine ⟨hT3, fun H4 e4 hT4 f1 => ?_⟩
      have e14 : ExtN H1 H4 := (ext_same s13).trans e4
      have hp4 := hp1.ext e14
      obtain ⟨pa, pb, pc, hpe, _⟩ := id hp4
      refine ⟨_, rfl, _, rfl, _, rfl, lv, la, en, rfl, lam_run (z := p) hpe hd (td0.ext (ButN.ext e14)) (an_ext e14 _ _ (an_dq ql1)) (an_ext e14 _ _ ha1) (an_ext e14 _ _ (an_dq qe1)) (dq_ext e14 ql1) (okE_of kl).1 (dq_ext e14 qe1) (okE_of ke).1 kr X.mL X.mA X.mN fun g1 H5 s5 dg1 => ⟨(by show 1 ≤ sizeLine; decide), fun l6 n6 => ?_⟩⟩
      dsimp only [gName, List.set]
      have e15 : ExtN H1 H5 := e14.trans (ext_same s5)
      have hp5 := hp4.same s5
      have l6p : l6 ≠ p := hp5.ne n6
      have s6 := same_of (o := .lst [V.ref g1]) n6
      have at6 : (upd H5 l6 (.lst [V.ref g1])) l6 = some (.lst [V.ref g1]) := upd_same
      have hT6 : Tabs T (upd H5 l6 (.lst [V.ref g1])) := (hT4.ext s5).ext s6
      revert at6 s6 hT6
      generalize (upd H5 l6 (.lst [V.ref g1])) = H6
      intro s6 at6 hT6
      -- made by name
      refine ⟨_, rfl, .inl ⟨rfl, _, SqL.of at6⟩, hT6, fun H7 e7 hT7 f2 => ?_⟩
      have at7 : H7 l6 = some (.lst [V.ref g1]) := e7 _ _ at6 (fun _ z => by cases z)
      have e17 : ExtN H1 H7 := (e15.trans (ext_same s6)).trans e7
      have d57 : ExtN H5 (delH H7 l6) := fun b o h n => by
        have nb : b ≠ l6 := ne_of_none h n6
        rw [delH_ne nb]
        exact e7 b o (s6 b o h) n
      refine ⟨_, rfl, _, rfl, _, rfl, lv, la, en, rfl, lam_run (z := l6) at7 hd (td.ext (e15.trans d57)) (an_ext e17 _ _ (an_dq ql1)) (an_ext e17 _ _ ha1) (an_ext e17 _ _ (an_dq qe1)) (dq_ext e17 ql1) (okE_of kl).1 (dq_ext e17 qe1) (okE_of ke).1 kr X.mL X.mA X.mN fun g2 H8 s8 dg2 => ?_⟩
      have at8 := s8 _ _ at7
      refine ⟨l6, [.ref g1], _, rfl, rfl, at8, (by show 1 < sizeLine; decide), ?_⟩
      have e59 : ExtN H5 (upd H8 l6 (.lst ([V.ref g1] ++ [V.ref g2]))) := fun b o h n => by
        have nb : b ≠ l6 := ne_of_none h n6
        rw [upd_ne nb]
        exact s8 b o (e7 b o (s6 b o h) n)
      have hT9 : Tabs T (upd H8 l6 (.lst ([V.ref g1] ++ [V.ref g2]))) := tabs_upd at8 (hT7.ext s8)
      have at9 : (upd H8 l6 (.lst ([V.ref g1] ++ [V.ref g2]))) l6 = some (.lst [V.ref g1, V.ref g2]) := upd_same
      have dg2' : Dp K (upd H8 l6 (.lst ([V.ref g1] ++ [V.ref g2]))) (.ref g2) D := dp_ext (fun b o h n => by
        by_cases nb : b = l6
        · rw [nb, delH_same] at h; cases h
        · rw [delH_ne nb] at h
          rw [upd_ne nb]
          exact h) _ _ dg2
      revert e59 hT9 at9 dg2'
      generalize (upd H8 l6 (.lst ([V.ref g1] ++ [V.ref g2]))) = H9
      intro e59 hT9 at9 dg2'
      have dg1' : Dp K H9 (.ref g1) D := dp_ext e59 _ _ (dp_same del_sub _ _ dg1)
      have dD9 : Dp K H9 (.ref lD) D := dp_ext ((e4.trans (ext_same s5)).trans e59) _ _ dD
      -- compared
      refine ⟨_, rfl, _, twice D, rfl, .plain (.lst (SqL.of at9) (.cons dg1' (.cons dg2' .nil))), res.1, res.2.1, res.2.2, ?_⟩
      refine ⟨_, rfl, _, rfl, (by show 2 ≤ sizeLine; decide), fun l9 n9 => ?_⟩
      have s9 := same_of (o := .lst [V.ref lD, V.ref lD]) n9
      refine ⟨_, twice D, rfl, .plain (.lst (SqL.of upd_same) (.cons (dp_same s9 _ _ dD9) (.cons (dp_same s9 _ _ dD9) .nil))), res.1, res.2.1, res.2.2, ?_⟩
      refine ⟨rfl, false, ?_, ?_⟩
      · show V.bl (!decide (V.str (twice D).shown = V.str (twice D).shown)) = V.bl false
        rw [decide_eq_true rfl]
        rfl
      · refine iteF ?_
        have e19 : ExtN H1 _ := (e15.trans e59).trans (ext_same s9)
        exact ⟨_, _, _, _, _, _, rfl, bt0.trans ((ButN.of bt1).trans (ButN.ext e19)), hp1.ext e19, hT9.ext s9⟩
    · rintro σ' H0 ⟨x1, x2, x3, x4, x5, x6, rfl, bt0, hp0, hT0⟩
      exact st_ret val_c (q _ bt0 hT0)
end
end Lamp
set_option Elab.async false
set_option linter.all false
set_option maxRecDepth 100000
set_option maxHeartbeats 2000000
namespace Lamp
open PySem PySem.Spec PyProof.Rows L2 LamX
abbrev sLaw : Stmt := top 42
/-! data made -/
section
variable (K : PySem.W.Frag)
def EvA (te : TE) (d : PyData) : Prop := ∀ (σ : L2.St) (H : Hp) (Q : VK), (∀ v H', Same H H' → Dp K H' v d → Q v H') → te σ H Q
def EvAs (ta : TA) (ds : List PyData) : Prop := ∀ (σ : L2.St) (H : Hp) (Q : List V → Hp → Prop), (∀ vs H', Same H H' → DpAll K H' vs ds → Q vs H') → ta σ H Q
end
section
variable {K : PySem.W.Frag} {te : TE} {ta : TA} {d : PyData} {ds ds0 : List PyData} {σ : L2.St} {H : Hp} {D : Ends} {t2 : TS} {i : Nat} {l0 : Addr} {vs0 : List V}
theorem eva_non : EvA K (tC .non) .none := fun σ H Q q => q _ H (Same.refl H) .non
theorem eva_bl {b : Bool} : EvA K (tC (.bl b)) (.bool b) := fun σ H Q q => q _ H (Same.refl H) (.bl b)
theorem eva_int {i : Int} : EvA K (tC (.int i)) (.int i) := fun σ H Q q => q _ H (Same.refl H) (.int i)
theorem eva_str {x : Str} : EvA K (tC (.str x)) (.str x) := fun σ H Q q => q _ H (Same.refl H) (.str x)
theorem eva_neg {i : Int} (h : EvA K te (.int i)) : EvA K (tUn (rU fun i => .int (-i)) te) (.int (-i)) := fun σ H Q q => h σ H _ fun v H' s hd => by
  cases hd
  exact ⟨i, rfl, q _ H' s (.int _)⟩
theorem evas_nil : EvAs K tNil [] := fun σ H Q q => q _ H (Same.refl H) .nil
theorem evas_cons (h1 : EvA K te d) (h2 : EvAs K ta ds) : EvAs K (tCons te ta) (d :: ds) := fun σ H Q q => h1 σ H _ fun v H1 s1 d1 => h2 σ H1 _ fun vs H2 s2 d2 => q _ H2 (s1.trans s2) (.cons (dp_same s2 d v d1) d2)
theorem eva_tup (h : EvAs K ta ds) (hl : ds.length ≤ 100) : EvA K (tTup ta) (.tuple ds) := fun σ H Q q => h σ H _ fun vs H1 s1 d1 => by
  have hlen := dpAll_len d1
  refine ⟨Nat.le_of_lt (small1000 (by omega)), fun r hr => ?_⟩
  have s2 : Same H1 (upd H1 r (.tup vs)) := same_of hr
  exact q _ _ (s1.trans s2) (.tup (SqT.of upd_same) (dpAll_same s2 ds vs d1))
theorem eva_lst (h : EvAs K ta ds) (hl : ds.length ≤ 100) : EvA K (tLst ta) (.list ds) := fun σ H Q q => h σ H _ fun vs H1 s1 d1 => by
  have hlen := dpAll_len d1
  refine ⟨Nat.le_of_lt (small1000 (by omega)), fun r hr => ?_⟩
  have s2 : Same H1 (upd H1 r (.lst vs)) := same_of hr
  exact q _ _ (s1.trans s2) (.lst (SqL.of upd_same) (dpAll_same s2 ds vs d1))
theorem dpAll_app : ∀ {xs ys : List V} {ds es : List PyData}, DpAll K H xs ds → DpAll K H ys es → DpAll K H (xs ++ ys) (ds ++ es)
  | _, _, _, _, .nil, s => s
  | _, _, _, _, .cons r t, s => .cons r (dpAll_app t s)
theorem dpAll_get : ∀ {ds : List PyData} {vs : List V} {i : Nat} {d : PyData}, DpAll K H vs ds → ds[i]? = some d → ∃ v, vs[i]? = some v ∧ Dp K H v d
  | _, _, _, _, .nil, e => by simp at e
  | _, _, 0, _, .cons h _, e => by simp only [List.getElem?_cons_zero] at e ⊢; cases e; exact ⟨_, rfl, h⟩
  | _, _, i + 1, _, .cons _ t, e => by simp only [List.getElem?_cons_succ] at e ⊢; exact dpAll_get t e
theorem sq_lstA (h : EvAs K ta ds) (hl : ds.length ≤ 100) (k : ∀ l vs H', H' l = some (.lst vs) → Same H H' → DpAll K H' vs ds → t2 D (σ.set i (some (.ref l))) H') : tSeq (tAsg (tLst ta) (gName i)) t2 D σ H := h σ H _ fun vs H1 s1 d1 => by
  have hlen := dpAll_len d1
  refine ⟨Nat.le_of_lt (small1000 (by omega)), fun r hr => ?_⟩
  have s2 : Same H1 (upd H1 r (.lst vs)) := same_of hr
  exact k r vs _ upd_same (s1.trans s2) (dpAll_same s2 ds vs d1)
theorem sq_catA (hx : σ[i]? = some (some (.ref l0))) (h0 : H l0 = some (.lst vs0)) (d0 : DpAll K H vs0 ds0) (h : EvAs K ta ds) (hl : ds.length ≤ 100) (hl0 : ds0.length ≤ 100)
    (k : ∀ l vs H', H' l = some (.lst vs) → Same H H' → DpAll K H' vs (ds0 ++ ds) → t2 D (σ.set i (some (.ref l))) H') : tSeq (tAsg (tOp rCat (tVar i) (tLst ta)) (gName i)) t2 D σ H := by
  refine ⟨_, hx, h σ H _ fun vs H1 s1 d1 => ?_⟩
  have hlen := dpAll_len d1
  have hlen0 := dpAll_len d0
  refine ⟨Nat.le_of_lt (small1000 (by omega)), fun r hr => ?_⟩
  have s2 : Same H1 (upd H1 r (.lst vs)) := same_of hr
  refine ⟨l0, r, vs0, vs, rfl, rfl, s2 _ _ (s1 _ _ h0), upd_same, Nat.le_of_lt (small1000 (by omega)), fun r2 hr2 => ?_⟩
  have s3 : Same (upd H1 r (.lst vs)) (upd (upd H1 r (.lst vs)) r2 (.lst (vs0 ++ vs))) := same_of hr2
  exact k r2 _ _ upd_same ((s1.trans s2).trans s3) (dpAll_app (dpAll_same ((s1.trans s2).trans s3) _ _ d0) (dpAll_same (s2.trans s3) _ _ d1))
end
/-! the ones by hand -/
def wrongD1 : List PyData := [.list [], .none, .str "dark", .tuple [.tuple [.int 0, .int 0]], .tuple [.tuple [.int 0, .int 3]], .tuple [.tuple [.int 0, .int (-1)]], .tuple [.tuple [.int 0, .bool true]], .tuple [.tuple [.bool true, .int 1]], .tuple [.tuple [.int 0]], .tuple [.tuple [.int 0, .int 1, .int 1]]]
def wrongD2 : List PyData := [.tuple [.tuple [.int 0, .int 1], .tuple [.int 0, .int 1]], .tuple [.tuple [.int 1, .int 1], .tuple [.int 0, .int 1]], .tuple [.list [.int 0, .int 1]], .tuple [.none], .tuple [.tuple [.int 0, .int 1], .tuple [.int 1, .int 2], .tuple [.int 2, .int 3]]]
def wrongR : List (Option Nat) := [none, none, none, some 0, some 0, some 0, some 0, some 0, some 0, some 0, some 1, some 1, some 0, some 0, some 2]
def wrongA : List Str := ["None", "None", "None", "0", "0", "0", "0", "0", "0", "0", "1", "1", "0", "0", "2"]
theorem wrong_at : wrongA = wrongR.map fun r => (rD r).shown := by decide +kernel
def dueB (t : T) : Option Nat → Bool
  | none => !isT t
  | some i => match t with
    | .tup ts => decide (i < ts.length) && (decide (i ≤ 400) && ((List.range i).all (fun j => !badAt 3 ts j) && badAt 3 ts i))
    | _ => false
theorem dueB_ok {t : T} {r : Option Nat} (h : dueB t r = true) : DueOf (.int 3) t (.int 0) (.la r) := by
  cases r with
  | none =>
    refine ⟨rfl, ?_⟩
    unfold dueB at h
    cases e : isT t with
    | false => rfl
    | true => rw [e] at h; cases h
  | some i =>
    cases t with
    | tup ts =>
      unfold dueB at h
      simp only [Bool.and_eq_true, decide_eq_true_eq, List.all_eq_true, Bool.not_eq_true', List.mem_range] at h
      obtain ⟨h1, h2, h3, h4⟩ := h
      exact ⟨rfl, 3, ts, rfl, rfl, h1, h2, h3, .inr h4⟩
    | _ => cases h
theorem wrong_all : ((wrongD1 ++ wrongD2).zip wrongR).all (fun x => dueB (tOf x.1) x.2) = true := by decide +kernel
theorem wrong_due {k : Nat} (h : k < 15) : ∃ d r, (wrongD1 ++ wrongD2)[k]? = some d ∧ wrongR[k]? = some r ∧ DueOf (.int 3) (tOf d) (.int 0) (.la r) ∧ (∀ i, r = some i → i ≤ 1000) := by
  have h1 : k < (wrongD1 ++ wrongD2).length := h
  have h2 : k < wrongR.length := h
  refine ⟨(wrongD1 ++ wrongD2)[k], wrongR[k], List.getElem?_eq_getElem h1, List.getElem?_eq_getElem h2, ?_, fun i e => ?_⟩
  · have all := wrong_all
    rw [List.all_eq_true] at all
    have hz : k < ((wrongD1 ++ wrongD2).zip wrongR).length := h
    have := all _ (List.getElem_mem hz)
    rw [List.getElem_zip] at this
    exact dueB_ok this
  · have : wrongR.all (fun r => match r with | some i => decide (i ≤ 1000) | none => true) = true := by decide +kernel
    rw [List.all_eq_true] at this
    have z := this _ (List.getElem_mem h2)
    rw [e] at z
    exact of_decide_eq_true z
theorem ones_due (qs : List Int) (h : qs = (List.range 401).map fun (i : Nat) => (i : Int)) : DueOf (.int 2) (onesT qs) (.int 0) (.la (some 400)) ∧ DueOf (.int 2) (.tup ((qs.map fun q => T.tup [.int q, .int 1]).take 400)) (.int 0) .ok := by
  have len : (qs.map fun q => T.tup [.int q, .int 1]).length = 401 := by rw [List.length_map, h, List.length_map, List.length_range]
  have get : ∀ j, j < 401 → (qs.map fun q => T.tup [.int q, .int 1])[j]? = some (.tup [.int (j : Int), .int 1]) := fun j hj => by
    rw [h, List.getElem?_map, List.getElem?_map, List.getElem?_range hj]
    rfl
  have lamp : ∀ j : Nat, lampOf 2 (.tup [.int (j : Int), .int 1]) = some (j : Int) := fun j => by
    show (if (0 : Int) < 1 ∧ (1 : Int) < 2 then some (j : Int) else none) = _
    rw [if_pos (by decide)]
  have good : ∀ j, j < 401 → badAt 2 (qs.map fun q => T.tup [.int q, .int 1]) j = false := fun j hj => by
    have e1 : (qs.map fun q => T.tup [.int q, .int 1])[j]?.bind (lampOf 2) = some (j : Int) := by rw [get j hj]; exact lamp j
    have e2 : 0 < j → (qs.map fun q => T.tup [.int q, .int 1])[j - 1]?.bind (lampOf 2) = some ((j - 1 : Nat) : Int) := fun _ => by rw [get (j - 1) (by omega)]; exact lamp (j - 1)
    rw [bad_by e1 e2]
    by_cases hj0 : 0 < j
    · rw [decide_eq_true hj0, decide_eq_false (by omega)]
      rfl
    · rw [decide_eq_false hj0]
      rfl
  refine ⟨⟨rfl, 2, _, rfl, rfl, by rw [len]; decide, Nat.le_refl _, fun j hj => good j (by omega), .inl rfl⟩, ⟨rfl, 2, _, rfl, rfl, ⟨?_, fun j hj => ?_⟩, rfl⟩⟩
  · rw [List.length_take, len]
    decide
  · rw [List.length_take, len] at hj
    rw [badAt_take (by omega)]
    exact good j (by omega)
end Lamp
set_option Elab.async false
set_option linter.all false
set_option maxRecDepth 100000
set_option maxHeartbeats 2000000
namespace Lamp
open PySem PySem.Spec PyProof.Rows L2 LamX
def qL : Str := (envOfC "law" (defScope sLaw) 0 0 .none).qual ++ "<lambda>"
def spLaw (K : PySem.W.Frag) (T : List (Addr × Str)) : Sp := fun vs H Q _ => ∃ (a : Addr) (ns : List Int), vs = [.ref a] ∧ SqL K H a (ns.map V.int) ∧ ns.length ≤ 63 ∧ (∀ z ∈ ns, Builtin.Int.intBits z ≤ 1048576) ∧ Tabs T H ∧ ∀ H', Q (.bl true) H'
local macro_rules | `(tactic| walk_at "pe") => `(tactic| first
  | exact pe_non
  | exact pe_bl
  | exact pe_int
  | exact pe_str
  | (refine' pe_un un_neg ?ha; (case ha => walk_at "pe"))
  | (refine' pe_tup ?ha; (case ha => walk_at "pa"))
  | (refine' pe_lst ?ha; (case ha => walk_at "pa")))
local macro_rules | `(tactic| walk_at "pa") => `(tactic| first
  | exact pa_nil
  | (refine' pa_cons ?ha ?hb; (case ha => walk_at "pe"); (case hb => walk_at "pa")))
local macro_rules | `(tactic| walk_at "eva") => `(tactic| first
  | exact eva_non
  | exact eva_bl
  | exact eva_int
  | exact eva_str
  | (refine' eva_neg ?ha; (case ha => walk_at "eva"))
  | (refine' eva_tup ?ha ?hb; (case ha => walk_at "evas"); (case hb => decide))
  | (refine' eva_lst ?ha ?hb; (case ha => walk_at "evas"); (case hb => decide)))
local macro_rules | `(tactic| walk_at "evas") => `(tactic| first
  | exact evas_nil
  | (refine' evas_cons ?ha ?hb; (case ha => walk_at "eva"); (case hb => walk_at "evas")))
theorem passes0E {X : Cx} : Passes (L2.CX X.prog X.w) X E0 := fun _ _ _ _ _ _ _ ⟨_, _, _, _, _, _, _, _, _, _, _, _, e⟩ => (show False from e).elim
/-- the bodies of the law's lambdas -/
theorem pe_bodyA {Y : Cx} {C xL xA xN : Addr} {E : XK} {p1 p2 p3 p4 p5 p6 p7 : Pos} {j1 j2 : Nat} (M : MkX Y.prog Y.w Y.K Y.mg Y.base C xL xA xN) (hr : Room 5 Y.A) (g2 : Gl Y "Round") (mR : Y.mg "Round" = some (.ref C)) (hx : Passes (L2.CX Y.prog Y.w) Y E)
    (n2 : Y.N[1]? = some ("_law_wrong" : Str)) (n3 : Y.N[3]? = some ("_law_k" : Str)) (v2 : Vis Y.env.scope "_law_wrong") (v3 : Vis Y.env.scope "_law_k") :
    PE Y (.Call (.Name "Round" p1) [.Constant (.int 3) j1 p2, .Subscript (.Name "_law_wrong" p3) (.Name "_law_k" p4) p5, .Constant (.int 0) j2 p6] [] p7) (tMkX Y.K C xL xA xN E (tCons (tC (.int 3)) (tCons (tOp (rIxL Y.K) (tVar 1) (tVar 3)) (tCons (tC (.int 0)) tNil)))) :=
  pe_mkX M hr g2 mR hx (pa_cons pe_int (pa_cons (pe_ix ix_list (pv 1 n2 v2) (pv 3 n3 v3) (fun _ _ => rfl)) (pa_cons pe_int pa_nil)))
theorem pe_bodyB {Y : Cx} {C xL xA xN : Addr} {E : XK} {p1 p2 p3 p6 p7 : Pos} {j1 j2 : Nat} (M : MkX Y.prog Y.w Y.K Y.mg Y.base C xL xA xN) (hr : Room 5 Y.A) (g2 : Gl Y "Round") (mR : Y.mg "Round" = some (.ref C)) (hx : Passes (L2.CX Y.prog Y.w) Y E)
    (n2 : Y.N[4]? = some ("_law_many" : Str)) (v2 : Vis Y.env.scope "_law_many") :
    PE Y (.Call (.Name "Round" p1) [.Constant (.int 2) j1 p2, .Name "_law_many" p3, .Constant (.int 0) j2 p6] [] p7) (tMkX Y.K C xL xA xN E (tCons (tC (.int 2)) (tCons (tVar 4) (tCons (tC (.int 0)) tNil)))) :=
  pe_mkX M hr g2 mR hx (pa_cons pe_int (pa_cons (pv 4 n2 v2) (pa_cons pe_int pa_nil)))
theorem cb1 {r : List V → Hp → VK → Prop} {te : TE} {σ : L2.St} {H : Hp} {Q : VK} (h : te σ H fun x H1 => r [x] H1 Q) : tCB r (tCons te tNil) σ H Q := h
theorem err_eqv (a b : Str) : PyData.eqv (errD a b) (errD a b) = true := by
  show ((a == a) && ((b == b) && true)) = true
  rw [beq_self_eq_true, beq_self_eq_true]
  rfl
theorem lam_bad {K : PySem.W.Frag} {C xL xA xN cA cB cC : Addr} {lv la en : V} {tl ta te : T} {r : Option Nat} {H : Hp} {Q QQ : VK} (hd : DueOf tl ta te (.la r)) (h1 : An K H lv tl) (h2 : An K H la ta) (h3 : An K H en te) (kr : okD (rD r) = true) (mA : PySem.W.exmAny K (.ref xA) [.ref cA, .ref cB, .ref cC] = some true)
    (k : ∀ l H', Same H H' → H' l = some (.lst [.str "InvalidLamps", .str (rD r).shown]) → Q (.ref l) H') : rMkX K C xL xA xN lv la en H (raisE K (.ref cA) (.ref cB) (.ref cC) (spSort K xL xA xN) Q) QQ := by
  refine ⟨tl, ta, te, h1, h2, h3, fun d' hd' => ?_⟩
  have e := hd.one hd'
  subst e
  intro e H' s he
  have dr : Dq K H' (rV r) (rD r) := by
    cases r with
    | none => exact .plain .non
    | some i => exact .plain (.int _)
  exact ⟨xA, e, rfl, rfl, mA, fun a na => ⟨rfl, "index", "InvalidLamps", rV r, rD r, .inl ⟨rfl, rfl, rfl⟩, he, dr, kr, fun l H'' s2 nl hl => k l H'' (s.trans s2) hl⟩⟩
section
variable {P : Program} {w : World} {K : PySem.W.Frag} {mg : Str → Option Value} {base : Heap} {C xL xA xN cA cB cC : Addr}
theorem scLaw : FnScope ["_law_script", "_law_wrong", "_law_at", "_law_k", "_law_many", "_law_turn"] ["_law_script"] (defScope sLaw) := ⟨rfl, rfl, rfl, by decide +kernel, rfl, by decide +kernel, by decide +kernel⟩
theorem ok_law {f fR c Pt : Addr} {fd fdR : FuncData} {T : List (Addr × Str)} (F : Fun K "law" "law" sLaw f fd) (hcd : fd.code = .ref c) (TB : TabB base mg c Pt) (hmT : (Pt, qL) ∈ T) (hu : ∀ p ∈ T, p.1 = Pt → p.2 = qL)
    (GR : FnG P w K mg base 10 fR fdR ["_law_pail"] (spRight K T)) (bR : Binds K fdR ["_law_pail"] []) (mRt : mg "_law_right" = some (.ref fR)) (kR : PySem.W.keepIn K (.ref fR) = true)
    (Aw : AnsR P w K mg base cA cB cC (spSort K xL xA xN) 2) (M : MkX P w K mg base C xL xA xN) (mR : mg "Round" = some (.ref C)) (X : Exm K xL xA xN cA cB cC) (Ln : OwnM P w K mg base C "__len__" (spLn K C) 1)
    (Bg : Dr P w K mg base (spBegun K) "_law_begun" ["_law_script", "_law_turn"] 1)
    (mr : mg "range" = none) (ml : mg "len" = none) (mt : mg "tuple" = none) (mall : mg "all" = none) (mmax : mg "max" = none) (mmin : mg "min" = none) :
    FnG P w K mg base 11 f fd ["_law_script"] (spLaw K T) := by
  refine okGC F scLaw (fun vs H Q E h => ?_) (fun cdv Ar outer s H vs Q E hcv hgd hr h => ?_)
  · obtain ⟨a, ns, rfl, _⟩ := h
    rfl
  · obtain ⟨a, ns, rfl, hS1, hlen, hbits, hT, q⟩ := h
    have hu64 := hr.units
    have hr7 : Room 7 _ := hr.mono (by decide)
    have hr5 : Room 5 _ := hr.mono (by decide)
    have hr2 : Room 2 _ := hr.mono (by decide)
    have ec : cdv = .ref c := hcv.symm.trans hcd
    subst ec
    refine ⟨_, pss_cons (ps_set (i := 1) scLaw.nd rfl (.inr rfl) (pe_lst (by walk_at "pa")))
      (pss_cons (ps_set (i := 1) scLaw.nd rfl (.inr rfl) (pe_op op_cat (pv 1) (pe_lst (by walk_at "pa"))))
      (pss_cons (ps_set (i := 2) scLaw.nd rfl (.inl rfl) (pe_lst (by walk_at "pa")))
      (pss_cons (ps_for PassesOwn.never rfl (pi_range1 rfl mr (pa_cons (pe_callB call_len_seq (by rfl) ml PySem.boot_len (pa_cons (pv 1) pa_nil)) pa_nil)) (pg_name (i := 3) scLaw.nd rfl (.inr rfl))
        (pss_one (ps_if (pt_cmpR (op_neD hu64) (pe_ans (t := fun E => tMkX K C xL xA xN E (tCons (tC (.int 3)) (tCons (tOp (rIxL K) (tVar 1) (tVar 3)) (tCons (tC (.int 0)) tNil)))) (k := 5) Aw (by decide) hgd hr7 rfl TB rfl hmT hu (lamS_by (by show lamSB (defScope sLaw) _ = true; decide +kernel)) rfl (fun _ _ _ _ _ => rfl)
            (fun A' outer' s' H' E' f' c' hr' => by
              refine pe_bodyA M ?_ ?_ mR ?_ ?_ ?_ ?_ ?_
              · exact hr'
              · rfl
              · exact passes_lam2
              · rfl
              · rfl
              · exact .inr (.inr rfl)
              · exact .inr (.inr rfl)))
          (pe_lst (pa_cons pe_str (pa_cons (pe_ix ix_list (pv 2) (pv 3) (fun _ _ => rfl)) pa_nil))) (nomark _)) pss_never pss_nil)))
      (pss_cons (ps_set (i := 4) scLaw.nd rfl (.inr rfl) (pe_callTy call_tuple_of (by rfl) mt (by decide +kernel) (pa_cons (pe_lc (own := [("_law_k", 3)]) (g := gName 3) (tt := tYes) rfl scLaw.nd
          (pi_range1 rfl mr (pa_cons pe_int pa_nil))
          (blkOk_by (own := [("_law_k", 3)]) (N := ["_law_script", "_law_wrong", "_law_at", "_law_k", "_law_many", "_law_turn"]) (sc := defScope sLaw) (by decide +kernel)) (fun _ _ _ _ _ => pg_name (i := 3) scLaw.nd rfl (Or.inl rfl)) (fun _ _ _ _ _ => pts_nil)
          (fun _ _ _ _ _ => pe_tup (pa_cons (pv 3) (pa_cons pe_int pa_nil)))) pa_nil)))
      (pss_cons (ps_if (PW.pt (pw_or (pt_cmpR (op_neD hu64) (pe_ans (t := fun E => tMkX K C xL xA xN E (tCons (tC (.int 2)) (tCons (tVar 4) (tCons (tC (.int 0)) tNil)))) (k := 5) Aw (by decide) hgd hr7 rfl TB rfl hmT hu (lamS_by (by show lamSB (defScope sLaw) _ = true; decide +kernel)) rfl (fun _ _ _ _ _ => rfl)
            (fun A' outer' s' H' E' f' c' hr' => by
              refine pe_bodyB M ?_ ?_ mR ?_ ?_ ?_
              · exact hr'
              · rfl
              · exact passes_lam2
              · rfl
              · exact .inr (.inr rfl)))
          (pe_lst (pa_cons pe_str (pa_cons pe_str pa_nil))) (nomark _))
          (pw_or1 (pt_cmpR op_ne (pe_callB (call_lenO Ln hr2) (by rfl) ml PySem.boot_len (pa_cons (pe_mkX M hr5 rfl mR passes0E (pa_cons pe_int (pa_cons (pe_slice (r := rSlA K) sl_tupA (pv 4) po_none (po_some pe_int)) (pa_cons pe_int pa_nil)))) pa_nil)) pe_int (nomark _))))) pss_never pss_nil)
      (pss_one (ps_ret (pe_callB (cr_all rfl) (by rfl) mall (by decide +kernel) (pa_cons (pe_lc (own := [("_law_turn", 5)]) (g := gName 5) (tt := tYes) rfl scLaw.nd
          (pi_range1 rfl mr (pa_cons (pe_callB (call_max2 rfl) (by rfl) mmax (by decide +kernel) (pa_cons pe_int (pa_cons (pe_callB (call_min2 rfl) (by rfl) mmin (by decide +kernel) (pa_cons (pe_callB call_len_seq (by rfl) ml PySem.boot_len (pa_cons (pv 0) pa_nil)) (pa_cons pe_int pa_nil))) pa_nil))) pa_nil))
          (blkOk_by (own := [("_law_turn", 5)]) (N := ["_law_script", "_law_wrong", "_law_at", "_law_k", "_law_many", "_law_turn"]) (sc := defScope sLaw) (by decide +kernel)) (fun _ _ _ _ _ => pg_name (i := 5) scLaw.nd rfl (Or.inl rfl)) (fun _ _ _ _ _ => pts_nil)
          (fun _ _ _ _ _ => pe_callG GR hgd hr rfl mRt kR bR (pa_cons (pe_dr Bg (by decide) hr rfl (pa_cons (pv 0) (pa_cons (pv 5) pa_nil))) pa_nil))) pa_nil))))))))), ?_⟩
    refine sq_lstA (K := K) (ds := wrongD1) (by walk_at "evas") (by decide) fun l0 vs0 H1 h1 s1 d1 => ?_
    refine sq_catA (K := K) (ds := wrongD2) (l0 := l0) rfl h1 d1 (by walk_at "evas") (by decide) (by decide) fun l1 vs1 H2 h2 s2 d2 => ?_
    refine sq_lstA (K := K) (ds := wrongA.map PyData.str) (by walk_at "evas") (by decide) fun l2 vs2 H3 h3 s3 d3 => ?_
    dsimp only [List.set, L2.start, List.map, List.length, List.replicate, List.append]
    have s03 := (s1.trans s2).trans s3
    have hT3 : Tabs T H3 := hT.ext s03
    have h23 := s3 _ _ h2
    have d23 := dpAll_same s3 _ _ d2
    have len1 : vs1.length = 15 := by rw [dpAll_len d2]; rfl
    refine sq_forRn (n := 15) (by decide) (fun k σ' H' => ∃ x3, σ' = [some (.ref a), some (.ref l1), some (.ref l2), x3, none, none] ∧ ExtN H3 H' ∧ Tabs T H') ⟨_, rfl, ExtN.refl _, hT3⟩ ?_ ?_ (fun Q q => ⟨_, rfl, l1, _, rfl, .inl (SqL.of h23), by rw [len1]; exact q⟩)
    · rintro k σ' H4 hk ⟨x3, rfl, e34, hT4⟩
      dsimp only [List.set]
      obtain ⟨dk, rk, ed, er, due, le⟩ := wrong_due hk
      obtain ⟨v, ev, dv⟩ := dpAll_get d23 ed
      have ea : (wrongA.map PyData.str)[k]? = some (.str (rD rk).shown) := by
        rw [wrong_at, List.map_map, List.getElem?_map, er]
        rfl
      obtain ⟨u, eu, du⟩ := dpAll_get d3 ea
      cases du
      have sh := okE_of (okE_rD le)
      refine ⟨hT4, fun H5 e45 hT5 f1 => ?_⟩
      have e35 := e34.trans e45
      have h25 : H5 l1 = some (.lst vs1) := e35 _ _ h23 (fun _ z => by cases z)
      refine ⟨_, rfl, _, rfl, l1, _, (k : Int), v, rfl, rfl, SqL.of h25, L2.at_of (j := k) rfl ev, .int 3, v, .int 0, rfl, lam_bad due (.int _) (an_ext e35 _ _ (an_dp _ _ dv)) (.int _) sh.1 X.mA fun l H6 s6 hl => ?_⟩
      have e36 := e35.trans (ext_same s6)
      have h36 : H6 l2 = some (.lst vs2) := e36 _ _ h3 (fun _ z => by cases z)
      refine ⟨_, rfl, _, rfl, l2, _, (k : Int), _, rfl, rfl, SqL.of h36, L2.at_of (j := k) rfl eu, (by show 2 ≤ sizeLine; decide), fun l7 n7 => ?_⟩
      have s7 := same_of (o := .lst [V.str "InvalidLamps", V.str (rD rk).shown]) n7
      have shp : SeqAt.shaped (errD "InvalidLamps" (rD rk).shown) = true := err_shaped (by decide) sh.2.2
      refine ⟨errD "InvalidLamps" (rD rk).shown, errD "InvalidLamps" (rD rk).shown, .lst (SqL.of (s7 _ _ hl)) (.cons (.str _) (.cons (.str _) .nil)), .lst (SqL.of upd_same) (.cons (.str _) (.cons (.str _) .nil)), shp, shp, false, by rw [err_eqv]; rfl, ?_⟩
      refine iteF ?_
      exact ⟨_, rfl, e36.trans (ext_same s7), (hT5.ext s6).ext s7⟩
    · rintro σ' H4 ⟨x3, rfl, e34, hT4⟩
      refine sq_setR (fun v H' => ∃ (t : Addr) (as : List Addr), v = .ref t ∧ H' t = some (.tup (as.map V.ref)) ∧ Same H4 H' ∧ Paired (fun a (q : Int) => H' a = some (.tup [.int q, .int 1])) as ((List.range 401).map fun (i : Nat) => (i : Int))) (fun Q' q' => cb1 ?_) ?_
      · refine lc_pairs (S := fun n H' => n = 401 ∧ H' = H4) (fun i => (i : Int)) (fun Q' q' => q' 401 H4 (by decide) ⟨rfl, rfl⟩) (fun n H5 i H' hS hi s5 => val_var rfl) (fun n H5 D as H' hn hS s5 nD hD hpa => ?_)
        obtain ⟨rfl, rfl⟩ := hS
        refine ⟨D, _, rfl, .inl ⟨SqL.of hD, fun t nt => ?_⟩⟩
        have s6 := same_of (o := .tup (as.map V.ref)) nt
        exact q' _ _ ⟨t, as, rfl, upd_same, s5.trans s6, L2.Paired.mapP hpa fun a qq hz => s6 _ _ hz⟩
      rintro v H5 ⟨t, as, rfl, ht, s45, hpa⟩
      dsimp only [List.set]
      have hT5 := hT4.ext s45
      obtain ⟨due1, due2⟩ := ones_due _ rfl
      have sh := okE_of (okE_rD (r := some 400) fun i e => by cases e; decide)
      -- one too many
      refine ⟨hT5, fun H6 e56 hT6 f2 => ?_⟩
      have ht6 : H6 t = some (.tup (as.map V.ref)) := e56 _ _ ht (fun _ z => by cases z)
      have hpa6 : Paired (fun a (q : Int) => H6 a = some (.tup [.int q, .int 1])) as ((List.range 401).map fun (i : Nat) => (i : Int)) := L2.Paired.mapP hpa fun a qq hz => e56 _ _ hz (fun _ z => by cases z)
      refine ⟨_, rfl, .int 2, .ref t, .int 0, rfl, lam_bad due1 (.int _) (.tup (SqT.of ht6) (an_pairs hpa6)) (.int _) sh.1 X.mA fun l H7 s7 hl => ?_⟩
      refine ⟨(by show 2 ≤ sizeLine; decide), fun l8 n8 => ?_⟩
      have s8 := same_of (o := .lst [V.str "InvalidLamps", V.str "400"]) n8
      have shp : SeqAt.shaped (errD "InvalidLamps" "400") = true := by decide +kernel
      have e400 : (rD (some 400)).shown = "400" := by decide +kernel
      rw [e400] at hl
      refine ⟨errD "InvalidLamps" "400", errD "InvalidLamps" "400", .lst (SqL.of (s8 _ _ hl)) (.cons (.str _) (.cons (.str _) .nil)), .lst (SqL.of upd_same) (.cons (.str _) (.cons (.str _) .nil)), shp, shp, false, by rw [err_eqv]; rfl, ?_⟩
      refine iteF ?_
      have s68 := s7.trans s8
      have ht8 := s68 _ _ ht6
      have hpa8 : Paired (fun a (q : Int) => _ = some (HO.tup [.int q, .int 1])) as ((List.range 401).map fun (i : Nat) => (i : Int)) := L2.Paired.mapP hpa6 fun a qq hz => s68 _ _ hz
      -- just enough
      refine ⟨_, rfl, 400, rfl, sl_anyT (SqT.of ht8) fun b H9 s9 hb => ?_⟩
      have hb : SqT K H9 b (cutV (as.map V.ref) none (some ((400 : Nat) : Int))) := hb
      rw [cut_to] at hb
      have al9 := anAll_same s9 (an_pairs (K := K) hpa8)
      refine ⟨.int 2, .ref b, .int 0, rfl, .int 2, _, .int 0, .int _, .tup hb (anAll_take 400 al9), .int _, fun d' hd' => ?_⟩
      have e := due2.one hd'
      subst e
      intro z HA sA nz hz
      have lenas : as.length = 401 := by rw [Paired.length hpa, List.length_map, List.length_range]
      have lent : (((as.map V.ref).take 400).length : Nat) = 400 := by rw [List.length_take, List.length_map, lenas]; rfl
      have hz' := hz
      obtain ⟨dx, hzz⟩ := hz
      refine ⟨z, dx, _, rfl, hzz, z, b, .int 2, .int 0, _, rfl, hz', same_seqT sA hb, ⟨_, rfl, by omega, ?_⟩, ?_⟩
      · rw [lent]; decide
      refine ⟨rfl, false, ?_, ?_⟩
      · rw [lent]
        decide
      refine iteF ?_
      have e0A : ExtN H HA := (((ext_same s03).trans e34).trans (ext_same s45)).trans (e56.trans ((ext_same s68).trans (ext_same (s9.trans sA))))
      have hTA : Tabs T HA := ((hT6.ext s68).ext s9).ext sA
      have hSA := sqL_ext e0A hS1
      -- the turns
      refine ⟨.ref a, rfl, a, _, rfl, .inl hSA, ?_⟩
      refine ⟨_, _, rfl, _, _, rfl, ?_⟩
      have hlenV : ((ns.map V.int).length : Nat) = ns.length := List.length_map _
      rw [hlenV]
      generalize hm : (if (if (6 : Int) < ((ns.length : Nat) : Int) then (6 : Int) else ((ns.length : Nat) : Int)) > 2 then (if (6 : Int) < ((ns.length : Nat) : Int) then (6 : Int) else ((ns.length : Nat) : Int)) else 2) = m
      have hm2 : 2 ≤ m ∧ m ≤ 6 := by
        rw [← hm]
        split
        · split <;> omega
        · omega
      obtain ⟨n, en⟩ : ∃ n : Nat, m = (n : Int) := ⟨m.toNat, by omega⟩
      subst en
      refine ⟨(n : Int), rfl, by omega, by omega, fun D hD => ?_⟩
      have e0 : ((n : Int)).toNat = n := by omega
      rw [e0]
      refine lc_range (lo := 0) (n := n) (fun i H' => ExtN HA H' ∧ Tabs T H' ∧ H' D = some (.lst ((List.replicate i true).map V.bl))) ⟨ext_same (same_of hD), hTA.ext (same_of hD), upd_same⟩ (fun i H' hi z => ?_) (fun H' z => ?_)
      · obtain ⟨sb, hTb, hlD⟩ := z
        have e1 : (0 : Int) + (i : Int) = (i : Int) := Int.zero_add _
        rw [e1]
        refine ⟨rfl, ?_⟩
        refine ⟨_, rfl, _, rfl, a, ns, (i : Int), rfl, sqL_ext sb hSA, hlen, hbits, by omega, by omega, fun H2 p s2 np hp => ⟨p, rfl, hp, hTb.ext s2, fun H3 bt hT3 => ?_⟩⟩
        have pD : D ≠ p := fun e => by rw [e, np] at hlD; cases hlD
        have atD : H3 D = some (.lst ((List.replicate i true).map V.bl)) := by
          have h := bt D (.lst ((List.replicate i true).map V.bl)) (by rw [delH_ne pD]; exact s2 _ _ hlD) (fun _ z => by cases z)
          rw [delH_ne pD] at h
          exact h
        refine ⟨_, atD, ?_, fun b o e n => ?_, tabs_upd atD hT3, ?_⟩
        · rw [List.length_map, List.length_replicate]
          exact small1000 (by omega)
        · have nb : b ≠ D := fun z => by rw [z, hD] at e; cases e
          have hb' := sb b o e n
          have npb : b ≠ p := fun z => by
            rw [z, np] at hb'
            cases hb'
          have h := bt b o (by rw [delH_ne npb]; exact s2 _ _ hb') n
          rw [delH_ne npb] at h
          rw [upd_ne nb]
          exact h
        · rw [upd_same, List.replicate_succ', List.map_append]
          rfl
      · refine ⟨D, List.replicate n true, rfl, SqL.of z.2.2, ?_⟩
        have e : (List.replicate n true).all id = true := by
          rw [List.all_eq_true]
          intro b hb
          exact (List.eq_of_mem_replicate hb)
        rw [e]
        exact q _
end
end Lamp
set_option Elab.async false
set_option linter.all false
set_option maxRecDepth 100000
set_option maxHeartbeats 2000000
namespace Lamp
open PySem PySem.Spec PyProof.Rows L2
/-! what the top has written of exception classes, as one answer -/
def tailOf : Nat → List Value
  | 0 => [.type "ValueError", .type "Exception", .type "BaseException", .type "object"]
  | 1 => [.type "LookupError", .type "Exception", .type "BaseException", .type "object"]
  | _ => [.type "ArithmeticError", .type "Exception", .type "BaseException", .type "object"]
def newOf : Nat → String
  | 0 => "ValueError.__new__"
  | 1 => "LookupError.__new__"
  | _ => "ArithmeticError.__new__"
def ecB (K : PySem.W.Frag) (C : Addr) (b : Nat) : Bool :=
  PySem.W.excInitIn K C (tailOf b) (newOf b) && (PySem.W.excOver K C (tailOf b) && (decide (PySem.W.findIn K (.ref C) "__setattr__" = some (some (.builtin "object.__setattr__"))) && (decide (PySem.W.findIn K (.ref C) "__getattribute__" = some (some (.builtin "BaseException.__getattribute__"))) &&
    (decide (PySem.W.findIn K (.ref C) "__getattr__" = some none) && (decide (PySem.W.subIn K (.ref C) (.type "BaseException") = some true) && (PySem.W.hasDictIn K C && (PySem.W.keepIn K (.ref C) &&
      (decide (PySem.W.findIn K (.ref C) "__class__" = some (some (.builtin "object.__class__"))) && decide (PySem.W.mroIn K C (.type "object") = some true)))))))))
theorem ecB_ok {K : PySem.W.Frag} {C : Addr} : ∀ {b : Nat}, ecB K C b = true → ∃ (B newId initId : String) (tail : List Value), EC K C B newId initId tail ∧ newId = newOf b ∧ tail = tailOf b := fun {b} h => by
  unfold ecB at h
  simp only [Bool.and_eq_true, decide_eq_true_eq] at h
  obtain ⟨h1, h2, h3, h4, h5, h6, h7, h8, h9, h10⟩ := h
  match b, h1, h2 with
  | 0, h1, h2 => exact ⟨_, _, _, _, ⟨PySem.F.excBase_ValueError, PySem.F.store_ValueError, h1, h2, h3, h4, h5, h6, h7, h8, h9, h10⟩, rfl, rfl⟩
  | 1, h1, h2 => exact ⟨_, _, _, _, ⟨PySem.F.excBase_LookupError, PySem.F.store_LookupError, h1, h2, h3, h4, h5, h6, h7, h8, h9, h10⟩, rfl, rfl⟩
  | b + 2, h1, h2 => exact ⟨_, _, _, _, ⟨PySem.F.excBase_ArithmeticError, PySem.F.store_ArithmeticError, h1, h2, h3, h4, h5, h6, h7, h8, h9, h10⟩, rfl, rfl⟩
/-- an exception class with an __init__ at f -/
def initB (K : PySem.W.Frag) (C f : Addr) (nm : Str) : Bool :=
  decide (PySem.W.findIn K (.ref C) nm = some none) && (decide (PySem.W.findIn K (.ref C) "__init__" = some (some (.ref f))) && decide (PySem.W.typeIn K (.ref f) = some (.type "function")))
def metaB (K : PySem.W.Frag) : Bool := decide (PySem.W.specialIn K (.builtin "object.__class__") "__get__" = some (some (.builtin "getset_descriptor.__get__"))) && decide (PySem.W.takesIn K (.builtin "object.__class__") = some true)
theorem metaB_ok {K : PySem.W.Frag} (h : metaB K = true) : ClsG K := by
  unfold metaB at h
  rw [Bool.and_eq_true] at h
  exact ⟨of_decide_eq_true h.1, of_decide_eq_true h.2⟩
theorem xc_mk {P : Program} {w : World} {K : PySem.W.Frag} {mg : Str → Option Value} {C fI : Addr} {x f : Str} {b : Nat} {fd : FuncData} (h1 : ecB K C b = true) (h2 : initB K C fI f = true) (hm : mg x = some (.ref C)) (F1 : ∀ base : Heap, FnOk P w K mg base CX0 1 fI fd ["self", f] (spInit K C f))
    (p1 : ∀ (s : Shared) (v u : Value), K.In s.heap → BindsTo s fd ⟨[v, u], []⟩ [("self", v), (f, u)]) (p2 : ∀ (s : Shared) (v u : Value), K.In s.heap → BindsTo s fd ⟨[v], [(f, u)]⟩ [("self", v), (f, u)]) : XC P w K mg C x f := by
  obtain ⟨B, n, i, t, T, _⟩ := ecB_ok h1
  unfold initB at h2
  simp only [Bool.and_eq_true, decide_eq_true_eq] at h2
  obtain ⟨g1, g2, g3⟩ := h2
  refine ⟨⟨B, n, i, t, T⟩, hm, g1, fI, fd, g2, g3, ?_, F1, p1, p2⟩
  unfold PySem.W.takerIn
  rw [g1]
  rfl
theorem xn_mk {K : PySem.W.Frag} {mg : Str → Option Value} {C : Addr} {x : Str} {b : Nat} (h1 : ecB K C b = true) (h2 : PySem.W.excIn K C (tailOf b) (newOf b) = true) (hm : mg x = some (.ref C)) : XN K mg C x := by
  obtain ⟨B, n, i, t, T, e1, e2⟩ := ecB_ok h1
  subst e1 e2
  exact ⟨⟨B, _, i, _, T, h2⟩, hm⟩
end Lamp
set_option Elab.async false
set_option linter.all false
set_option maxRecDepth 100000
set_option maxHeartbeats 2000000
namespace Lamp
open PySem PySem.Spec PyProof.Rows L2 LamX
section
variable {P : Program} {w : World} {K : PySem.W.Frag} {mg : Str → Option Value} {base : Heap}
theorem bent_all {f : Addr} {fd : FuncData} (F : Fun K "_law_bent" "_law_bent" sBent f fd) (C : Dr P w K mg base spCast "_law_cast" ["_law_pail", "_law_many"] 1) (Th : Dr P w K mg base (spThing K) "_law_thing" ["_law_pail"] 3)
    (bB : Binds K fd ["_law_pail", "_law_value"] []) (mB : mg "_law_bent" = some (.ref f)) (kB : PySem.W.keepIn K (.ref f) = true)
    (mis : mg "isinstance" = none) (mt : mg "tuple" = none) (mi : mg "int" = none) (mb : mg "bool" = none) (ml : mg "len" = none) (mli : mg "list" = none) : ∀ n : Nat, FnOk P w K mg base CX0 (n + 3) f fd ["_law_pail", "_law_value"] (spB K n)
  | 0 => ⟨fun vs H Q E h => (show False from h).elim, fun A out s H ar us vs Q E hr he hb hv h => (show False from h).elim⟩
  | n + 1 => ok_bent (k := n) F C Th (bent_all F C Th bB mB kB mis mt mi mb ml mli n) bB mB kB mis mt mi mb ml mli
end
def kdB (K : PySem.W.Frag) (cA cB cC xA xL xN D : Addr) (b0 b1 b2 : Bool) : Bool :=
  decide (PySem.W.findIn K (.ref D) "index" = some none) && (decide (PySem.W.findIn K (.ref D) "given" = some none) && (decide (PySem.W.kitOne K (.ref D) (.ref cA) = some true) && (decide (PySem.W.kitOne K (.ref D) (.ref cB) = some false) && (decide (PySem.W.kitOne K (.ref D) (.ref cC) = some false) &&
  (decide (PySem.W.kitOne K (.ref D) (.type "ValueError") = some true) && (decide (PySem.W.kitOne K (.ref D) (.type "LookupError") = some false) && (decide (PySem.W.kitOne K (.ref D) (.type "ArithmeticError") = some false) && (decide (PySem.W.kitOne K (.ref D) (.ref xA) = some b0) &&
  (decide (PySem.W.kitOne K (.ref D) (.ref xL) = some b1) && (decide (PySem.W.kitOne K (.ref D) (.ref xN) = some b2) && (decide (PySem.W.exmAny K (.ref D) [.ref cA, .ref cB, .ref cC] = some true) && decide (PySem.W.typeIn K (.ref D) = some (.type "type")))))))))))))
theorem kdB_ok {K : PySem.W.Frag} {mg : Str → Option Value} {cA cB cC xA xL xN D : Addr} {b0 b1 b2 : Bool} (h : kdB K cA cB cC xA xL xN D b0 b1 b2 = true) (he : ecB K D 0 = true) : KdX K mg cA cB cC xA xL xN D b0 b1 b2 ∧ PySem.W.exmAny K (.ref D) [.ref cA, .ref cB, .ref cC] = some true ∧ PySem.W.typeIn K (.ref D) = some (.type "type") := by
  obtain ⟨B, n, i, t, T, _⟩ := ecB_ok he
  unfold kdB at h
  simp only [Bool.and_eq_true, decide_eq_true_eq] at h
  obtain ⟨h1, h2, h3, h4, h5, h6, h7, h8, h9, h10, h11, h12, h13⟩ := h
  exact ⟨⟨⟨B, n, i, t, T⟩, h1, h2, h3, h4, h5, h6, h7, h8, h9, h10, h11⟩, h12, h13⟩
def clsB (K : PySem.W.Frag) (C : Addr) : Bool := PySem.W.plainGet K C Str.empty && (PySem.W.hasDictIn K C && (PySem.W.plainOver K C && (decide (PySem.W.findIn K (.ref C) "__setattr__" = some (some (.builtin "object.__setattr__"))) &&
  (decide (PySem.W.findIn K (.ref C) "_levels" = some none) && (decide (PySem.W.findIn K (.ref C) "_lamps" = some none) && (decide (PySem.W.findIn K (.ref C) "_end" = some none) && (PySem.W.makesIn K C && PySem.W.keepIn K (.ref C))))))))
theorem clsB_ok {K : PySem.W.Frag} {C : Addr} (h : clsB K C = true) : RCls K C ∧ PySem.W.makesIn K C = true ∧ PySem.W.keepIn K (.ref C) = true := by
  unfold clsB at h
  simp only [Bool.and_eq_true, decide_eq_true_eq] at h
  obtain ⟨h1, h2, h3, h4, h5, h6, h7, h8, h9⟩ := h
  exact ⟨⟨⟨h1, h2, h3, h4⟩, h5, h6, h7⟩, h8, h9⟩
abbrev sAns : Stmt := top 28
theorem scAns : FnScope ansN ["_law_call_here"] (defScope sAns) := ⟨rfl, rfl, rfl, by decide +kernel, rfl, by decide +kernel, by decide +kernel⟩
theorem ans_body : ∃ (j1 j2 : Nat) (p1 p2 p3 p4 p5 p6 p7 p8 p9 p10 p11 p12 p13 p14 p15 p16 p17 p18 : Pos), defBody sAns = [.Try [.Assign [.Name "_law_got" p1] (.Call (.Name "_law_call_here" p2) [] [] p3) p4] [.ExceptHandler (some (.Tuple [.Name "WrongValue" p5, .Name "WrongName" p6, .Name "NotPossible" p7] j1 p8)) (some "_law_e") [.Return (some (.Call (.Name "_law_sort" p9) [.Name "_law_e" p10] [] p11)) p12] p13] [] [] p14,
      .Return (some (.List [.Constant (.str "back") j2 p15, .Name "_law_got" p16] p17)) p18] := ⟨_, _, _, _, _, _, _, _, _, _, _, _, _, _, _, _, _, _, _, _, rfl⟩
theorem ansR_mk {P : Program} {w : World} {K : PySem.W.Frag} {mg : Str → Option Value} {base : Heap} {cA cB cC g : Addr} {fd : FuncData} {sp : SpP} {k : Nat} (S : SortR P w K mg base sp k) (mA : mg "WrongValue" = some (.ref cA)) (mB : mg "WrongName" = some (.ref cB)) (mC : mg "NotPossible" = some (.ref cC))
    (F : Fun K "_law_answer" "_law_answer" sAns g fd) (b : Binds K fd ["_law_call_here"] []) (m : mg "_law_answer" = some (.ref g)) (kp : PySem.W.keepIn K (.ref g) = true) : AnsR P w K mg base cA cB cC sp k := by
  obtain ⟨j1, j2, p1, p2, p3, p4, p5, p6, p7, p8, p9, p10, p11, p12, p13, p14, p15, p16, p17, p18, hb⟩ := ans_body
  exact ⟨S, mA, mB, mC, g, sAns, fd, j1, j2, p1, p2, p3, p4, p5, p6, p7, p8, p9, p10, p11, p12, p13, p14, p15, p16, p17, p18, F, b, m, kp, scAns, ⟨rfl, rfl, rfl⟩, ⟨rfl, rfl, rfl, rfl⟩, hb⟩
/-- the places of two defs' code objects, and of their tables -/
theorem tabs_two {K : PySem.W.Frag} {mg : Str → Option Value} {u v : Value} (hu : codeB K u = true) (hv : codeB K v = true) : u = .ref (codeA u) ∧ v = .ref (codeA v) := ⟨(codeB_ok hu).1, (codeB_ok hv).1⟩
end Lamp
set_option Elab.async false
set_option linter.all false
set_option maxRecDepth 100000
set_option maxHeartbeats 2000000
namespace Lamp
open PySem PySem.Spec PyProof.Rows L2 ClX LamX
def noneB (K : PySem.W.Frag) : Bool := (["int", "divmod", "len", "abs", "range", "tuple", "sorted", "list", "isinstance", "bool", "enumerate", "repr", "all", "max", "min", "ValueError", "LookupError", "ArithmeticError"] : List Str).all fun n => decide (PySem.W.nsIn K mainGlobals n = some none)
theorem none_of {K : PySem.W.Frag} (h : noneB K = true) {n : Str} (hn : n ∈ (["int", "divmod", "len", "abs", "range", "tuple", "sorted", "list", "isinstance", "bool", "enumerate", "repr", "all", "max", "min", "ValueError", "LookupError", "ArithmeticError"] : List Str)) : PySem.W.nsIn K mainGlobals n = some none := by
  unfold noneB at h
  rw [List.all_eq_true] at h
  exact of_decide_eq_true (h n hn)
abbrev sXL : Stmt := inClass (top 3) 0
abbrev sXN : Stmt := inClass (top 4) 0
abbrev sXA : Stmt := inClass (top 5) 0
theorem scXL : FnScope ["self", "given"] ["self", "given"] (defScope sXL) := ⟨rfl, rfl, rfl, by decide +kernel, rfl, by decide +kernel, by decide +kernel⟩
theorem scXN : FnScope ["self", "given"] ["self", "given"] (defScope sXN) := ⟨rfl, rfl, rfl, by decide +kernel, rfl, by decide +kernel, by decide +kernel⟩
theorem scXA : FnScope ["self", "index"] ["self", "index"] (defScope sXA) := ⟨rfl, rfl, rfl, by decide +kernel, rfl, by decide +kernel, by decide +kernel⟩
theorem all_mk {P : Program} {w : World} {K : PySem.W.Frag} {mg : Str → Option Value} {fa : Addr} {hh : Heap} (X : K.In hh) (G : hh.Ns mainGlobals mg) (hfa : mg "law" = some (.ref fa)) {C aL xL xA xN cA cB cC : Addr} {odL : Option Addr} {tL0 tL1 tL2 tL3 tM : Tok} {nL0 : Nat} {slL : Array (Option Value)} {fII : Addr} {oc_fII kV_fII dc_fII pm_fII cd_fII ct_fII : Value} {od_fII an_fII : Option Addr} {sl_fII : Array (Option Value)} {fIL : Addr} {oc_fIL kV_fIL dc_fIL pm_fIL cd_fIL ct_fIL : Value} {od_fIL an_fIL : Option Addr} {sl_fIL : Array (Option Value)} {fIM : Addr} {oc_fIM kV_fIM dc_fIM pm_fIM cd_fIM ct_fIM : Value} {od_fIM an_fIM : Option Addr} {sl_fIM : Array (Option Value)} {fWL : Addr} {oc_fWL kV_fWL dc_fWL pm_fWL cd_fWL ct_fWL : Value} {od_fWL an_fWL : Option Addr} {sl_fWL : Array (Option Value)} {fBe : Addr} {oc_fBe kV_fBe dc_fBe pm_fBe cd_fBe ct_fBe : Value} {od_fBe an_fBe : Option Addr} {sl_fBe : Array (Option Value)} {fCa : Addr} {oc_fCa kV_fCa dc_fCa pm_fCa cd_fCa ct_fCa : Value} {od_fCa an_fCa : Option Addr} {sl_fCa : Array (Option Value)} {fAn : Addr} {oc_fAn kV_fAn dc_fAn pm_fAn cd_fAn ct_fAn : Value} {od_fAn an_fAn : Option Addr} {sl_fAn : Array (Option Value)} {fVa : Addr} {oc_fVa kV_fVa dc_fVa pm_fVa cd_fVa ct_fVa : Value} {od_fVa an_fVa : Option Addr} {sl_fVa : Array (Option Value)} {fAs : Addr} {oc_fAs kV_fAs dc_fAs pm_fAs cd_fAs ct_fAs : Value} {od_fAs an_fAs : Option Addr} {sl_fAs : Array (Option Value)} {fWh : Addr} {oc_fWh kV_fWh dc_fWh pm_fWh cd_fWh ct_fWh : Value} {od_fWh an_fWh : Option Addr} {sl_fWh : Array (Option Value)} {fPl : Addr} {oc_fPl kV_fPl dc_fPl pm_fPl cd_fPl ct_fPl : Value} {od_fPl an_fPl : Option Addr} {sl_fPl : Array (Option Value)} {fPc : Addr} {oc_fPc kV_fPc dc_fPc pm_fPc cd_fPc ct_fPc : Value} {od_fPc an_fPc : Option Addr} {sl_fPc : Array (Option Value)} {fPa : Addr} {oc_fPa kV_fPa dc_fPa pm_fPa cd_fPa ct_fPa : Value} {od_fPa an_fPa : Option Addr} {sl_fPa : Array (Option Value)} {fTh : Addr} {oc_fTh kV_fTh dc_fTh pm_fTh cd_fTh ct_fTh : Value} {od_fTh an_fTh : Option Addr} {sl_fTh : Array (Option Value)} {fBn : Addr} {oc_fBn kV_fBn dc_fBn pm_fBn cd_fBn ct_fBn : Value} {od_fBn an_fBn : Option Addr} {sl_fBn : Array (Option Value)} {fLv : Addr} {oc_fLv kV_fLv dc_fLv pm_fLv cd_fLv ct_fLv : Value} {od_fLv an_fLv : Option Addr} {sl_fLv : Array (Option Value)} {fWr : Addr} {oc_fWr kV_fWr dc_fWr pm_fWr cd_fWr ct_fWr : Value} {od_fWr an_fWr : Option Addr} {sl_fWr : Array (Option Value)} {fSo : Addr} {oc_fSo kV_fSo dc_fSo pm_fSo cd_fSo ct_fSo : Value} {od_fSo an_fSo : Option Addr} {sl_fSo : Array (Option Value)} {fDu : Addr} {oc_fDu kV_fDu dc_fDu pm_fDu cd_fDu ct_fDu : Value} {od_fDu an_fDu : Option Addr} {sl_fDu : Array (Option Value)} {fSm : Addr} {oc_fSm kV_fSm dc_fSm pm_fSm cd_fSm ct_fSm : Value} {od_fSm an_fSm : Option Addr} {sl_fSm : Array (Option Value)} {fRg : Addr} {oc_fRg kV_fRg dc_fRg pm_fRg cd_fRg ct_fRg : Value} {od_fRg an_fRg : Option Addr} {sl_fRg : Array (Option Value)} {fTo : Addr} {oc_fTo kV_fTo dc_fTo pm_fTo cd_fTo ct_fTo : Value} {od_fTo an_fTo : Option Addr} {sl_fTo : Array (Option Value)} {fLaw : Addr} {oc_fLaw kV_fLaw dc_fLaw pm_fLaw cd_fLaw ct_fLaw : Value} {od_fLaw an_fLaw : Option Addr} {sl_fLaw : Array (Option Value)} {gIn : Addr} {oc_gIn kV_gIn dc_gIn pm_gIn cd_gIn ct_gIn : Value} {od_gIn an_gIn : Option Addr} {sl_gIn : Array (Option Value)} {gLn : Addr} {oc_gLn kV_gLn dc_gLn pm_gLn cd_gLn ct_gLn : Value} {od_gLn an_gLn : Option Addr} {sl_gLn : Array (Option Value)} {iL : Addr} {oc_iL kV_iL dc_iL pm_iL cd_iL ct_iL : Value} {od_iL an_iL : Option Addr} {sl_iL : Array (Option Value)} {iN : Addr} {oc_iN kV_iN dc_iN pm_iN cd_iN ct_iN : Value} {od_iN an_iN : Option Addr} {sl_iN : Array (Option Value)} {iA : Addr} {oc_iA kV_iA dc_iA pm_iA cd_iA ct_iA : Value} {od_iA an_iA : Option Addr} {sl_iA : Array (Option Value)} {gLv : Addr} {oc_gLv kV_gLv dc_gLv pm_gLv cd_gLv ct_gLv : Value} {od_gLv an_gLv : Option Addr} {sl_gLv : Array (Option Value)} {p_gLv : Addr} {rest_gLv : List Value} {gLa : Addr} {oc_gLa kV_gLa dc_gLa pm_gLa cd_gLa ct_gLa : Value} {od_gLa an_gLa : Option Addr} {sl_gLa : Array (Option Value)} {p_gLa : Addr} {rest_gLa : List Value} {gEn : Addr} {oc_gEn kV_gEn dc_gEn pm_gEn cd_gEn ct_gEn : Value} {od_gEn an_gEn : Option Addr} {sl_gEn : Array (Option Value)} {p_gEn : Addr} {rest_gEn : List Value}
    (nC : PySem.W.nsIn K mainGlobals "Round" = some (some (.ref C)))
    (n_xL : PySem.W.nsIn K mainGlobals "InvalidLevels" = some (some (.ref xL)))
    (n_xA : PySem.W.nsIn K mainGlobals "InvalidLamps" = some (some (.ref xA)))
    (n_xN : PySem.W.nsIn K mainGlobals "InvalidNumber" = some (some (.ref xN)))
    (n_cA : PySem.W.nsIn K mainGlobals "WrongValue" = some (some (.ref cA)))
    (n_cB : PySem.W.nsIn K mainGlobals "WrongName" = some (some (.ref cB)))
    (n_cC : PySem.W.nsIn K mainGlobals "NotPossible" = some (some (.ref cC)))
    (nf_fII : PySem.W.nsIn K mainGlobals "is_integer" = some (some (.ref fII)))
    (lf_fII : K.lookup fII = some ⟨oc_fII, od_fII, .func (PySem.W.fnOf "is_integer" "is_integer" (defArgs sIsInt) (defBody sIsInt) (defScope sIsInt) .none kV_fII dc_fII pm_fII an_fII cd_fII ct_fII), sl_fII⟩)
    (cf_fII : PySem.W.codeIn K cd_fII "is_integer" = true)
    (kf_fII : PySem.W.keepIn K (.ref fII) = true)
    (nf_fIL : PySem.W.nsIn K mainGlobals "is_levels" = some (some (.ref fIL)))
    (lf_fIL : K.lookup fIL = some ⟨oc_fIL, od_fIL, .func (PySem.W.fnOf "is_levels" "is_levels" (defArgs sIsLevels) (defBody sIsLevels) (defScope sIsLevels) .none kV_fIL dc_fIL pm_fIL an_fIL cd_fIL ct_fIL), sl_fIL⟩)
    (cf_fIL : PySem.W.codeIn K cd_fIL "is_levels" = true)
    (kf_fIL : PySem.W.keepIn K (.ref fIL) = true)
    (nf_fIM : PySem.W.nsIn K mainGlobals "is_lamp" = some (some (.ref fIM)))
    (lf_fIM : K.lookup fIM = some ⟨oc_fIM, od_fIM, .func (PySem.W.fnOf "is_lamp" "is_lamp" (defArgs sIsLamp) (defBody sIsLamp) (defScope sIsLamp) .none kV_fIM dc_fIM pm_fIM an_fIM cd_fIM ct_fIM), sl_fIM⟩)
    (cf_fIM : PySem.W.codeIn K cd_fIM "is_lamp" = true)
    (kf_fIM : PySem.W.keepIn K (.ref fIM) = true)
    (nf_fWL : PySem.W.nsIn K mainGlobals "wrong_lamp" = some (some (.ref fWL)))
    (lf_fWL : K.lookup fWL = some ⟨oc_fWL, od_fWL, .func (PySem.W.fnOf "wrong_lamp" "wrong_lamp" (defArgs sWrong) (defBody sWrong) (defScope sWrong) .none kV_fWL dc_fWL pm_fWL an_fWL cd_fWL ct_fWL), sl_fWL⟩)
    (cf_fWL : PySem.W.codeIn K cd_fWL "wrong_lamp" = true)
    (kf_fWL : PySem.W.keepIn K (.ref fWL) = true)
    (nf_fBe : PySem.W.nsIn K mainGlobals "_law_begun" = some (some (.ref fBe)))
    (lf_fBe : K.lookup fBe = some ⟨oc_fBe, od_fBe, .func (PySem.W.fnOf "_law_begun" "_law_begun" (defArgs sBegun) (defBody sBegun) (defScope sBegun) .none kV_fBe dc_fBe pm_fBe an_fBe cd_fBe ct_fBe), sl_fBe⟩)
    (cf_fBe : PySem.W.codeIn K cd_fBe "_law_begun" = true)
    (kf_fBe : PySem.W.keepIn K (.ref fBe) = true)
    (nf_fCa : PySem.W.nsIn K mainGlobals "_law_cast" = some (some (.ref fCa)))
    (lf_fCa : K.lookup fCa = some ⟨oc_fCa, od_fCa, .func (PySem.W.fnOf "_law_cast" "_law_cast" (defArgs sCast) (defBody sCast) (defScope sCast) .none kV_fCa dc_fCa pm_fCa an_fCa cd_fCa ct_fCa), sl_fCa⟩)
    (cf_fCa : PySem.W.codeIn K cd_fCa "_law_cast" = true)
    (kf_fCa : PySem.W.keepIn K (.ref fCa) = true)
    (nf_fAn : PySem.W.nsIn K mainGlobals "_law_any_of" = some (some (.ref fAn)))
    (lf_fAn : K.lookup fAn = some ⟨oc_fAn, od_fAn, .func (PySem.W.fnOf "_law_any_of" "_law_any_of" (defArgs sAny) (defBody sAny) (defScope sAny) .none kV_fAn dc_fAn pm_fAn an_fAn cd_fAn ct_fAn), sl_fAn⟩)
    (cf_fAn : PySem.W.codeIn K cd_fAn "_law_any_of" = true)
    (kf_fAn : PySem.W.keepIn K (.ref fAn) = true)
    (nf_fVa : PySem.W.nsIn K mainGlobals "_law_vast" = some (some (.ref fVa)))
    (lf_fVa : K.lookup fVa = some ⟨oc_fVa, od_fVa, .func (PySem.W.fnOf "_law_vast" "_law_vast" (defArgs sVast) (defBody sVast) (defScope sVast) .none kV_fVa dc_fVa pm_fVa an_fVa cd_fVa ct_fVa), sl_fVa⟩)
    (cf_fVa : PySem.W.codeIn K cd_fVa "_law_vast" = true)
    (kf_fVa : PySem.W.keepIn K (.ref fVa) = true)
    (nf_fAs : PySem.W.nsIn K mainGlobals "_law_answer" = some (some (.ref fAs)))
    (lf_fAs : K.lookup fAs = some ⟨oc_fAs, od_fAs, .func (PySem.W.fnOf "_law_answer" "_law_answer" (defArgs sAns) (defBody sAns) (defScope sAns) .none kV_fAs dc_fAs pm_fAs an_fAs cd_fAs ct_fAs), sl_fAs⟩)
    (cf_fAs : PySem.W.codeIn K cd_fAs "_law_answer" = true)
    (kf_fAs : PySem.W.keepIn K (.ref fAs) = true)
    (nf_fWh : PySem.W.nsIn K mainGlobals "_law_is_whole" = some (some (.ref fWh)))
    (lf_fWh : K.lookup fWh = some ⟨oc_fWh, od_fWh, .func (PySem.W.fnOf "_law_is_whole" "_law_is_whole" (defArgs sWhole) (defBody sWhole) (defScope sWhole) .none kV_fWh dc_fWh pm_fWh an_fWh cd_fWh ct_fWh), sl_fWh⟩)
    (cf_fWh : PySem.W.codeIn K cd_fWh "_law_is_whole" = true)
    (kf_fWh : PySem.W.keepIn K (.ref fWh) = true)
    (nf_fPl : PySem.W.nsIn K mainGlobals "_law_place" = some (some (.ref fPl)))
    (lf_fPl : K.lookup fPl = some ⟨oc_fPl, od_fPl, .func (PySem.W.fnOf "_law_place" "_law_place" (defArgs sPlace) (defBody sPlace) (defScope sPlace) .none kV_fPl dc_fPl pm_fPl an_fPl cd_fPl ct_fPl), sl_fPl⟩)
    (cf_fPl : PySem.W.codeIn K cd_fPl "_law_place" = true)
    (kf_fPl : PySem.W.keepIn K (.ref fPl) = true)
    (nf_fPc : PySem.W.nsIn K mainGlobals "_law_picture" = some (some (.ref fPc)))
    (lf_fPc : K.lookup fPc = some ⟨oc_fPc, od_fPc, .func (PySem.W.fnOf "_law_picture" "_law_picture" (defArgs sPicture) (defBody sPicture) (defScope sPicture) .none kV_fPc dc_fPc pm_fPc an_fPc cd_fPc ct_fPc), sl_fPc⟩)
    (cf_fPc : PySem.W.codeIn K cd_fPc "_law_picture" = true)
    (kf_fPc : PySem.W.keepIn K (.ref fPc) = true)
    (nf_fPa : PySem.W.nsIn K mainGlobals "_law_parts" = some (some (.ref fPa)))
    (lf_fPa : K.lookup fPa = some ⟨oc_fPa, od_fPa, .func (PySem.W.fnOf "_law_parts" "_law_parts" (defArgs sParts) (defBody sParts) (defScope sParts) .none kV_fPa dc_fPa pm_fPa an_fPa cd_fPa ct_fPa), sl_fPa⟩)
    (cf_fPa : PySem.W.codeIn K cd_fPa "_law_parts" = true)
    (kf_fPa : PySem.W.keepIn K (.ref fPa) = true)
    (nf_fTh : PySem.W.nsIn K mainGlobals "_law_thing" = some (some (.ref fTh)))
    (lf_fTh : K.lookup fTh = some ⟨oc_fTh, od_fTh, .func (PySem.W.fnOf "_law_thing" "_law_thing" (defArgs sThing) (defBody sThing) (defScope sThing) .none kV_fTh dc_fTh pm_fTh an_fTh cd_fTh ct_fTh), sl_fTh⟩)
    (cf_fTh : PySem.W.codeIn K cd_fTh "_law_thing" = true)
    (kf_fTh : PySem.W.keepIn K (.ref fTh) = true)
    (nf_fBn : PySem.W.nsIn K mainGlobals "_law_bent" = some (some (.ref fBn)))
    (lf_fBn : K.lookup fBn = some ⟨oc_fBn, od_fBn, .func (PySem.W.fnOf "_law_bent" "_law_bent" (defArgs sBent) (defBody sBent) (defScope sBent) .none kV_fBn dc_fBn pm_fBn an_fBn cd_fBn ct_fBn), sl_fBn⟩)
    (cf_fBn : PySem.W.codeIn K cd_fBn "_law_bent" = true)
    (kf_fBn : PySem.W.keepIn K (.ref fBn) = true)
    (nf_fLv : PySem.W.nsIn K mainGlobals "_law_is_levels" = some (some (.ref fLv)))
    (lf_fLv : K.lookup fLv = some ⟨oc_fLv, od_fLv, .func (PySem.W.fnOf "_law_is_levels" "_law_is_levels" (defArgs sIsLv) (defBody sIsLv) (defScope sIsLv) .none kV_fLv dc_fLv pm_fLv an_fLv cd_fLv ct_fLv), sl_fLv⟩)
    (cf_fLv : PySem.W.codeIn K cd_fLv "_law_is_levels" = true)
    (kf_fLv : PySem.W.keepIn K (.ref fLv) = true)
    (nf_fWr : PySem.W.nsIn K mainGlobals "_law_wrong_lamps" = some (some (.ref fWr)))
    (lf_fWr : K.lookup fWr = some ⟨oc_fWr, od_fWr, .func (PySem.W.fnOf "_law_wrong_lamps" "_law_wrong_lamps" (defArgs sWrongs) (defBody sWrongs) (defScope sWrongs) .none kV_fWr dc_fWr pm_fWr an_fWr cd_fWr ct_fWr), sl_fWr⟩)
    (cf_fWr : PySem.W.codeIn K cd_fWr "_law_wrong_lamps" = true)
    (kf_fWr : PySem.W.keepIn K (.ref fWr) = true)
    (nf_fSo : PySem.W.nsIn K mainGlobals "_law_sort" = some (some (.ref fSo)))
    (lf_fSo : K.lookup fSo = some ⟨oc_fSo, od_fSo, .func (PySem.W.fnOf "_law_sort" "_law_sort" (defArgs sSort) (defBody sSort) (defScope sSort) .none kV_fSo dc_fSo pm_fSo an_fSo cd_fSo ct_fSo), sl_fSo⟩)
    (cf_fSo : PySem.W.codeIn K cd_fSo "_law_sort" = true)
    (kf_fSo : PySem.W.keepIn K (.ref fSo) = true)
    (nf_fDu : PySem.W.nsIn K mainGlobals "_law_due" = some (some (.ref fDu)))
    (lf_fDu : K.lookup fDu = some ⟨oc_fDu, od_fDu, .func (PySem.W.fnOf "_law_due" "_law_due" (defArgs sDue) (defBody sDue) (defScope sDue) .none kV_fDu dc_fDu pm_fDu an_fDu cd_fDu ct_fDu), sl_fDu⟩)
    (cf_fDu : PySem.W.codeIn K cd_fDu "_law_due" = true)
    (kf_fDu : PySem.W.keepIn K (.ref fDu) = true)
    (nf_fSm : PySem.W.nsIn K mainGlobals "_law_some" = some (some (.ref fSm)))
    (lf_fSm : K.lookup fSm = some ⟨oc_fSm, od_fSm, .func (PySem.W.fnOf "_law_some" "_law_some" (defArgs sSome) (defBody sSome) (defScope sSome) .none kV_fSm dc_fSm pm_fSm an_fSm cd_fSm ct_fSm), sl_fSm⟩)
    (cf_fSm : PySem.W.codeIn K cd_fSm "_law_some" = true)
    (kf_fSm : PySem.W.keepIn K (.ref fSm) = true)
    (nf_fRg : PySem.W.nsIn K mainGlobals "_law_right" = some (some (.ref fRg)))
    (lf_fRg : K.lookup fRg = some ⟨oc_fRg, od_fRg, .func (PySem.W.fnOf "_law_right" "_law_right" (defArgs sRight) (defBody sRight) (defScope sRight) .none kV_fRg dc_fRg pm_fRg an_fRg cd_fRg ct_fRg), sl_fRg⟩)
    (cf_fRg : PySem.W.codeIn K cd_fRg "_law_right" = true)
    (kf_fRg : PySem.W.keepIn K (.ref fRg) = true)
    (nf_fTo : PySem.W.nsIn K mainGlobals "_law_told" = some (some (.ref fTo)))
    (lf_fTo : K.lookup fTo = some ⟨oc_fTo, od_fTo, .func (PySem.W.fnOf "_law_told" "_law_told" (defArgs sTold) (defBody sTold) (defScope sTold) .none kV_fTo dc_fTo pm_fTo an_fTo cd_fTo ct_fTo), sl_fTo⟩)
    (cf_fTo : PySem.W.codeIn K cd_fTo "_law_told" = true)
    (kf_fTo : PySem.W.keepIn K (.ref fTo) = true)
    (nf_fLaw : PySem.W.nsIn K mainGlobals "law" = some (some (.ref fLaw)))
    (lf_fLaw : K.lookup fLaw = some ⟨oc_fLaw, od_fLaw, .func (PySem.W.fnOf "law" "law" (defArgs sLaw) (defBody sLaw) (defScope sLaw) .none kV_fLaw dc_fLaw pm_fLaw an_fLaw cd_fLaw ct_fLaw), sl_fLaw⟩)
    (cf_fLaw : PySem.W.codeIn K cd_fLaw "law" = true)
    (kf_fLaw : PySem.W.keepIn K (.ref fLaw) = true)
    (fm_gIn : PySem.W.findIn K (.ref C) "__init__" = some (some (.ref gIn)))
    (lf_gIn : K.lookup gIn = some ⟨oc_gIn, od_gIn, .func (PySem.W.fnOf "__init__" "Round.__init__" (defArgs sInit) (defBody sInit) (defScope sInit) .none kV_gIn dc_gIn pm_gIn an_gIn cd_gIn ct_gIn), sl_gIn⟩)
    (cf_gIn : PySem.W.codeIn K cd_gIn "Round.__init__" = true)
    (kf_gIn : PySem.W.keepIn K (.ref gIn) = true)
    (if_gIn : PySem.W.isFn K (.ref gIn) = true)
    (fm_gLn : PySem.W.findIn K (.ref C) "__len__" = some (some (.ref gLn)))
    (lf_gLn : K.lookup gLn = some ⟨oc_gLn, od_gLn, .func (PySem.W.fnOf "__len__" "Round.__len__" (defArgs sLen) (defBody sLen) (defScope sLen) .none kV_gLn dc_gLn pm_gLn an_gLn cd_gLn ct_gLn), sl_gLn⟩)
    (cf_gLn : PySem.W.codeIn K cd_gLn "Round.__len__" = true)
    (kf_gLn : PySem.W.keepIn K (.ref gLn) = true)
    (if_gLn : PySem.W.isFn K (.ref gLn) = true)
    (fm_iL : PySem.W.findIn K (.ref xL) "__init__" = some (some (.ref iL)))
    (lf_iL : K.lookup iL = some ⟨oc_iL, od_iL, .func (PySem.W.fnOf "__init__" "InvalidLevels.__init__" (defArgs sXL) (defBody sXL) (defScope sXL) .none kV_iL dc_iL pm_iL an_iL cd_iL ct_iL), sl_iL⟩)
    (cf_iL : PySem.W.codeIn K cd_iL "InvalidLevels.__init__" = true)
    (kf_iL : PySem.W.keepIn K (.ref iL) = true)
    (if_iL : PySem.W.isFn K (.ref iL) = true)
    (fm_iN : PySem.W.findIn K (.ref xN) "__init__" = some (some (.ref iN)))
    (lf_iN : K.lookup iN = some ⟨oc_iN, od_iN, .func (PySem.W.fnOf "__init__" "InvalidNumber.__init__" (defArgs sXN) (defBody sXN) (defScope sXN) .none kV_iN dc_iN pm_iN an_iN cd_iN ct_iN), sl_iN⟩)
    (cf_iN : PySem.W.codeIn K cd_iN "InvalidNumber.__init__" = true)
    (kf_iN : PySem.W.keepIn K (.ref iN) = true)
    (if_iN : PySem.W.isFn K (.ref iN) = true)
    (fm_iA : PySem.W.findIn K (.ref xA) "__init__" = some (some (.ref iA)))
    (lf_iA : K.lookup iA = some ⟨oc_iA, od_iA, .func (PySem.W.fnOf "__init__" "InvalidLamps.__init__" (defArgs sXA) (defBody sXA) (defScope sXA) .none kV_iA dc_iA pm_iA an_iA cd_iA ct_iA), sl_iA⟩)
    (cf_iA : PySem.W.codeIn K cd_iA "InvalidLamps.__init__" = true)
    (kf_iA : PySem.W.keepIn K (.ref iA) = true)
    (if_iA : PySem.W.isFn K (.ref iA) = true)
    (pa_gLv : PySem.W.findIn K (.ref C) "levels" = some (some (.ref p_gLv)))
    (pr_gLv : PySem.W.recIn K p_gLv "property" = some (.ref gLv :: rest_gLv))
    (pg_gLv : PySem.W.specialIn K (.ref p_gLv) "__get__" = some (some (.builtin "property.__get__")))
    (pt_gLv : PySem.W.takesIn K (.ref p_gLv) = some true)
    (lf_gLv : K.lookup gLv = some ⟨oc_gLv, od_gLv, .func (PySem.W.fnOf "levels" "Round.levels" (defArgs sLevels) (defBody sLevels) (defScope sLevels) .none kV_gLv dc_gLv pm_gLv an_gLv cd_gLv ct_gLv), sl_gLv⟩)
    (cf_gLv : PySem.W.codeIn K cd_gLv "Round.levels" = true)
    (kf_gLv : PySem.W.keepIn K (.ref gLv) = true)
    (pa_gLa : PySem.W.findIn K (.ref C) "lamps" = some (some (.ref p_gLa)))
    (pr_gLa : PySem.W.recIn K p_gLa "property" = some (.ref gLa :: rest_gLa))
    (pg_gLa : PySem.W.specialIn K (.ref p_gLa) "__get__" = some (some (.builtin "property.__get__")))
    (pt_gLa : PySem.W.takesIn K (.ref p_gLa) = some true)
    (lf_gLa : K.lookup gLa = some ⟨oc_gLa, od_gLa, .func (PySem.W.fnOf "lamps" "Round.lamps" (defArgs sLampsP) (defBody sLampsP) (defScope sLampsP) .none kV_gLa dc_gLa pm_gLa an_gLa cd_gLa ct_gLa), sl_gLa⟩)
    (cf_gLa : PySem.W.codeIn K cd_gLa "Round.lamps" = true)
    (kf_gLa : PySem.W.keepIn K (.ref gLa) = true)
    (pa_gEn : PySem.W.findIn K (.ref C) "end" = some (some (.ref p_gEn)))
    (pr_gEn : PySem.W.recIn K p_gEn "property" = some (.ref gEn :: rest_gEn))
    (pg_gEn : PySem.W.specialIn K (.ref p_gEn) "__get__" = some (some (.builtin "property.__get__")))
    (pt_gEn : PySem.W.takesIn K (.ref p_gEn) = some true)
    (lf_gEn : K.lookup gEn = some ⟨oc_gEn, od_gEn, .func (PySem.W.fnOf "end" "Round.end" (defArgs sEnd) (defBody sEnd) (defScope sEnd) .none kV_gEn dc_gEn pm_gEn an_gEn cd_gEn ct_gEn), sl_gEn⟩)
    (cf_gEn : PySem.W.codeIn K cd_gEn "Round.end" = true)
    (kf_gEn : PySem.W.keepIn K (.ref gEn) = true)
    (nL : PySem.W.nsIn K mainGlobals "LEVELS" = some (some (.ref aL)))
    (lL : K.lookup aL = some ⟨.type "tuple", odL, .seq #[.int 2 tL0, .int 3 tL1, .int 5 tL2, .int 7 tL3] nL0, slL⟩)
    (nM : PySem.W.nsIn K mainGlobals "MOST_LAMPS" = some (some (.int 400 tM)))
    (all : (noneB K && (clsB K C && (metaB K && ((ecB K xL 0 && (ecB K xA 0 && ecB K xN 0)) && ((initB K xL iL "given" && (initB K xA iA "index" && initB K xN iN "given")) && ((kdB K cA cB cC xA xL xN xA true false false && (kdB K cA cB cC xA xL xN xL false true false && kdB K cA cB cC xA xL xN xN false false true)) && (codeB K cd_fLaw && (codeB K cd_fRg && decide (tabA K cd_fLaw ≠ tabA K cd_fRg))))))))) = true) :
    ∃ (fd : FuncData) (cs : List (Addr × Addr)) (sp : Sp), (∀ p ∈ cs, TabOf K mg ["law", "_law_right"] p) ∧ (∀ (s : Shared) (u : Value), BindsTo s fd ⟨[u], []⟩ [("_law_script", u)]) ∧ (∀ (H : Hp) (a : Addr) (ns : List Int), ns.length ≤ 63 → (∀ z ∈ ns, Builtin.Int.intBits z ≤ 1048576) → (∀ p ∈ cs, H p.2 = some (.tbl #[])) → SqL K H a (ns.map V.int) → sp [.ref a] H (fun v _ => v = .bl true) E0) ∧
      ∀ base : Heap, K.In base → base.Ns mainGlobals mg → (∀ p ∈ cs, TabB base mg p.1 p.2) → FnG P w K mg base 11 fa fd ["_law_script"] sp := by
  have e := hfa.symm.trans (PySem.W.mg_of X G nf_fLaw)
  cases e
  rw [Bool.and_eq_true, Bool.and_eq_true, Bool.and_eq_true, Bool.and_eq_true, Bool.and_eq_true, Bool.and_eq_true, Bool.and_eq_true, Bool.and_eq_true, Bool.and_eq_true, Bool.and_eq_true, Bool.and_eq_true, Bool.and_eq_true, Bool.and_eq_true, Bool.and_eq_true, decide_eq_true_eq] at all
  obtain ⟨hnone, hcls, hmeta, ⟨eL, eA, eN⟩, ⟨jL, jA, jN⟩, ⟨kA, kL, kN⟩, cb_fLaw, cb_fRg, cne⟩ := all
  have Gm := metaB_ok hmeta
  obtain ⟨R, hmakes, hkeep⟩ := clsB_ok hcls
  obtain ⟨DA, mA, yA⟩ := kdB_ok (mg := mg) kA eA
  obtain ⟨DL, mL, yL⟩ := kdB_ok (mg := mg) kL eL
  obtain ⟨DN, mN, yN⟩ := kdB_ok (mg := mg) kN eN
  have Xm : Exm K xL xA xN cA cB cC := ⟨mL, mA, mN⟩
  have none := fun {n : Str} hn => PySem.W.mg_none_of X G (none_of hnone (n := n) hn)
  have F_fII := fun_mk (st := sIsInt) lf_fII cf_fII kf_fII
  have b_fII := F_fII.binds (ps := ["value"]) fun _ _ _ _ _ _ us hl => match us, hl with | [_], _ => rfl
  have m_fII := PySem.W.mg_of X G nf_fII
  have F_fIL := fun_mk (st := sIsLevels) lf_fIL cf_fIL kf_fIL
  have b_fIL := F_fIL.binds (ps := ["value"]) fun _ _ _ _ _ _ us hl => match us, hl with | [_], _ => rfl
  have m_fIL := PySem.W.mg_of X G nf_fIL
  have F_fIM := fun_mk (st := sIsLamp) lf_fIM cf_fIM kf_fIM
  have b_fIM := F_fIM.binds (ps := ["levels", "value"]) fun _ _ _ _ _ _ us hl => match us, hl with | [_, _], _ => rfl
  have m_fIM := PySem.W.mg_of X G nf_fIM
  have F_fWL := fun_mk (st := sWrong) lf_fWL cf_fWL kf_fWL
  have b_fWL := F_fWL.binds (ps := ["levels", "lamps"]) fun _ _ _ _ _ _ us hl => match us, hl with | [_, _], _ => rfl
  have m_fWL := PySem.W.mg_of X G nf_fWL
  have F_fBe := fun_mk (st := sBegun) lf_fBe cf_fBe kf_fBe
  have b_fBe := F_fBe.binds (ps := ["_law_script", "_law_turn"]) fun _ _ _ _ _ _ us hl => match us, hl with | [_, _], _ => rfl
  have m_fBe := PySem.W.mg_of X G nf_fBe
  have F_fCa := fun_mk (st := sCast) lf_fCa cf_fCa kf_fCa
  have b_fCa := F_fCa.binds (ps := ["_law_pail", "_law_many"]) fun _ _ _ _ _ _ us hl => match us, hl with | [_, _], _ => rfl
  have m_fCa := PySem.W.mg_of X G nf_fCa
  have F_fAn := fun_mk (st := sAny) lf_fAn cf_fAn kf_fAn
  have b_fAn := F_fAn.binds (ps := ["_law_pail", "_law_some_here"]) fun _ _ _ _ _ _ us hl => match us, hl with | [_, _], _ => rfl
  have m_fAn := PySem.W.mg_of X G nf_fAn
  have F_fVa := fun_mk (st := sVast) lf_fVa cf_fVa kf_fVa
  have b_fVa := F_fVa.binds (ps := ["_law_pail", "_law_many"]) fun _ _ _ _ _ _ us hl => match us, hl with | [_, _], _ => rfl
  have m_fVa := PySem.W.mg_of X G nf_fVa
  have F_fAs := fun_mk (st := sAns) lf_fAs cf_fAs kf_fAs
  have b_fAs := F_fAs.binds (ps := ["_law_call_here"]) fun _ _ _ _ _ _ us hl => match us, hl with | [_], _ => rfl
  have m_fAs := PySem.W.mg_of X G nf_fAs
  have F_fWh := fun_mk (st := sWhole) lf_fWh cf_fWh kf_fWh
  have b_fWh := F_fWh.binds (ps := ["_law_value"]) fun _ _ _ _ _ _ us hl => match us, hl with | [_], _ => rfl
  have m_fWh := PySem.W.mg_of X G nf_fWh
  have F_fPl := fun_mk (st := sPlace) lf_fPl cf_fPl kf_fPl
  have b_fPl := F_fPl.binds (ps := ["_law_pail"]) fun _ _ _ _ _ _ us hl => match us, hl with | [_], _ => rfl
  have m_fPl := PySem.W.mg_of X G nf_fPl
  have F_fPc := fun_mk (st := sPicture) lf_fPc cf_fPc kf_fPc
  have b_fPc := F_fPc.binds (ps := ["_law_pail", "_law_p", "_law_many"]) fun _ _ _ _ _ _ us hl => match us, hl with | [_, _, _], _ => rfl
  have m_fPc := PySem.W.mg_of X G nf_fPc
  have F_fPa := fun_mk (st := sParts) lf_fPa cf_fPa kf_fPa
  have b_fPa := F_fPa.binds (ps := ["_law_pail"]) fun _ _ _ _ _ _ us hl => match us, hl with | [_], _ => rfl
  have m_fPa := PySem.W.mg_of X G nf_fPa
  have F_fTh := fun_mk (st := sThing) lf_fTh cf_fTh kf_fTh
  have b_fTh := F_fTh.binds (ps := ["_law_pail"]) fun _ _ _ _ _ _ us hl => match us, hl with | [_], _ => rfl
  have m_fTh := PySem.W.mg_of X G nf_fTh
  have F_fBn := fun_mk (st := sBent) lf_fBn cf_fBn kf_fBn
  have b_fBn := F_fBn.binds (ps := ["_law_pail", "_law_value"]) fun _ _ _ _ _ _ us hl => match us, hl with | [_, _], _ => rfl
  have m_fBn := PySem.W.mg_of X G nf_fBn
  have F_fLv := fun_mk (st := sIsLv) lf_fLv cf_fLv kf_fLv
  have b_fLv := F_fLv.binds (ps := ["_law_value"]) fun _ _ _ _ _ _ us hl => match us, hl with | [_], _ => rfl
  have m_fLv := PySem.W.mg_of X G nf_fLv
  have F_fWr := fun_mk (st := sWrongs) lf_fWr cf_fWr kf_fWr
  have b_fWr := F_fWr.binds (ps := ["_law_p", "_law_value"]) fun _ _ _ _ _ _ us hl => match us, hl with | [_, _], _ => rfl
  have m_fWr := PySem.W.mg_of X G nf_fWr
  have F_fSo := fun_mk (st := sSort) lf_fSo cf_fSo kf_fSo
  have b_fSo := F_fSo.binds (ps := ["_law_e"]) fun _ _ _ _ _ _ us hl => match us, hl with | [_], _ => rfl
  have m_fSo := PySem.W.mg_of X G nf_fSo
  have F_fDu := fun_mk (st := sDue) lf_fDu cf_fDu kf_fDu
  have b_fDu := F_fDu.binds (ps := ["_law_p", "_law_some_here", "_law_last"]) fun _ _ _ _ _ _ us hl => match us, hl with | [_, _, _], _ => rfl
  have m_fDu := PySem.W.mg_of X G nf_fDu
  have F_fSm := fun_mk (st := sSome) lf_fSm cf_fSm kf_fSm
  have b_fSm := F_fSm.binds (ps := ["_law_pail"]) fun _ _ _ _ _ _ us hl => match us, hl with | [_], _ => rfl
  have m_fSm := PySem.W.mg_of X G nf_fSm
  have F_fRg := fun_mk (st := sRight) lf_fRg cf_fRg kf_fRg
  have b_fRg := F_fRg.binds (ps := ["_law_pail"]) fun _ _ _ _ _ _ us hl => match us, hl with | [_], _ => rfl
  have m_fRg := PySem.W.mg_of X G nf_fRg
  have F_fTo := fun_mk (st := sTold) lf_fTo cf_fTo kf_fTo
  have b_fTo := F_fTo.binds (ps := ["_law_mine"]) fun _ _ _ _ _ _ us hl => match us, hl with | [_], _ => rfl
  have m_fTo := PySem.W.mg_of X G nf_fTo
  have F_fLaw := fun_mk (st := sLaw) lf_fLaw cf_fLaw kf_fLaw
  have F_gIn := fun_mk (st := sInit) lf_gIn cf_gIn kf_gIn
  have b_gIn := F_gIn.binds (ps := ["self", "levels", "lamps", "end"]) fun _ _ _ _ _ _ us hl => match us, hl with | [_, _, _, _], _ => rfl
  have F_gLn := fun_mk (st := sLen) lf_gLn cf_gLn kf_gLn
  have b_gLn := F_gLn.binds (ps := ["self"]) fun _ _ _ _ _ _ us hl => match us, hl with | [_], _ => rfl
  have F_iL := fun_mk (st := sXL) lf_iL cf_iL kf_iL
  have b_iL := F_iL.binds (ps := ["self", "given"]) fun _ _ _ _ _ _ us hl => match us, hl with | [_, _], _ => rfl
  have F_iN := fun_mk (st := sXN) lf_iN cf_iN kf_iN
  have b_iN := F_iN.binds (ps := ["self", "given"]) fun _ _ _ _ _ _ us hl => match us, hl with | [_, _], _ => rfl
  have F_iA := fun_mk (st := sXA) lf_iA cf_iA kf_iA
  have b_iA := F_iA.binds (ps := ["self", "index"]) fun _ _ _ _ _ _ us hl => match us, hl with | [_, _], _ => rfl
  have F_gLv := fun_mk (st := sLevels) lf_gLv cf_gLv kf_gLv
  have b_gLv := F_gLv.binds (ps := ["self"]) fun _ _ _ _ _ _ us hl => match us, hl with | [_], _ => rfl
  have F_gLa := fun_mk (st := sLampsP) lf_gLa cf_gLa kf_gLa
  have b_gLa := F_gLa.binds (ps := ["self"]) fun _ _ _ _ _ _ us hl => match us, hl with | [_], _ => rfl
  have F_gEn := fun_mk (st := sEnd) lf_gEn cf_gEn kf_gEn
  have b_gEn := F_gEn.binds (ps := ["self"]) fun _ _ _ _ _ _ us hl => match us, hl with | [_], _ => rfl
  have mR := PySem.W.mg_of X G nC
  have mLv := PySem.W.mg_of X G nL
  have mML := PySem.W.mg_of X G nM
  have four : ∀ H, SqT K H aL [.int 2, .int 3, .int 5, .int 7] := fun H => .inr ⟨_, _, _, lL, rfl, rfl, (by show 4 ≤ sizeLine; decide), .cons ⟨_, rfl⟩ (.cons ⟨_, rfl⟩ (.cons ⟨_, rfl⟩ (.cons ⟨_, rfl⟩ .nil)))⟩
  refine ⟨PySem.W.fnOf "law" "law" (defArgs sLaw) (defBody sLaw) (defScope sLaw) .none kV_fLaw dc_fLaw pm_fLaw an_fLaw cd_fLaw ct_fLaw, [(codeA cd_fLaw, tabA K cd_fLaw), (codeA cd_fRg, tabA K cd_fRg)], spLaw K [(tabA K cd_fLaw, qL), (tabA K cd_fRg, qR)], ?_, fun s u => .of_eq rfl, ?_, fun base _ _ tb => ?_⟩
  · intro p hp
    simp only [List.mem_cons, List.not_mem_nil, or_false] at hp
    rcases hp with rfl | rfl
    · exact ⟨"law", by decide, _, _, _, _, PySem.W.mg_of X G nf_fLaw, lf_fLaw, rfl, rfl, cb_fLaw, rfl⟩
    · exact ⟨"_law_right", by decide, _, _, _, _, PySem.W.mg_of X G nf_fRg, lf_fRg, rfl, rfl, cb_fRg, rfl⟩
  · intro H a ns h1 h2 h3 hS
    refine ⟨a, ns, rfl, hS, h1, h2, fun x hx => ?_, fun _ => rfl⟩
    simp only [List.mem_cons, List.not_mem_nil, or_false] at hx
    rcases hx with rfl | rfl
    · exact TabS.nil (h3 (codeA cd_fLaw, tabA K cd_fLaw) (by simp))
    · exact TabS.nil (h3 (codeA cd_fRg, tabA K cd_fRg) (by simp))
  have tb_fLaw : TabB base mg (codeA cd_fLaw) (tabA K cd_fLaw) := tb (codeA cd_fLaw, tabA K cd_fLaw) (by simp)
  have ca_fLaw : cd_fLaw = .ref (codeA cd_fLaw) := (codeB_ok cb_fLaw).1
  have tb_fRg : TabB base mg (codeA cd_fRg) (tabA K cd_fRg) := tb (codeA cd_fRg, tabA K cd_fRg) (by simp)
  have ca_fRg : cd_fRg = .ref (codeA cd_fRg) := (codeB_ok cb_fRg).1
  have ZxL : XC P w K mg xL "InvalidLevels" "given" := xc_mk eL jL (PySem.W.mg_of X G n_xL) (fun base => ok_init F_iL scXL rfl (by decide +kernel) (by decide +kernel) (by decide) (by decide)) (fun s v u _ => .of_eq rfl) (fun s v u _ => .of_eq rfl)
  have ZxA : XC P w K mg xA "InvalidLamps" "index" := xc_mk eA jA (PySem.W.mg_of X G n_xA) (fun base => ok_init F_iA scXA rfl (by decide +kernel) (by decide +kernel) (by decide) (by decide)) (fun s v u _ => .of_eq rfl) (fun s v u _ => .of_eq rfl)
  have ZxN : XC P w K mg xN "InvalidNumber" "given" := xc_mk eN jN (PySem.W.mg_of X G n_xN) (fun base => ok_init F_iN scXN rfl (by decide +kernel) (by decide +kernel) (by decide) (by decide)) (fun s v u _ => .of_eq rfl) (fun s v u _ => .of_eq rfl)
  have Nm : NmX mg cA cB cC xA xL xN := ⟨PySem.W.mg_of X G n_cA, PySem.W.mg_of X G n_cB, PySem.W.mg_of X G n_cC, PySem.W.mg_of X G n_xA, PySem.W.mg_of X G n_xL, PySem.W.mg_of X G n_xN, (none (n := "ValueError") (by decide +kernel)), (none (n := "LookupError") (by decide +kernel)), (none (n := "ArithmeticError") (by decide +kernel))⟩
  have d_fII : Dr P w K mg base (spIsInt K) "is_integer" ["value"] 1 := ⟨⟨fII, _, ok_isInt F_fII (none (n := "isinstance") (by decide +kernel)) (none (n := "int") (by decide +kernel)) (none (n := "bool") (by decide +kernel)), b_fII, m_fII, kf_fII⟩⟩
  have d_fIL : Dr P w K mg base (spIsLevels K) "is_levels" ["value"] 2 := ⟨⟨fIL, _, ok_isLevels F_fIL d_fII mLv four, b_fIL, m_fIL, kf_fIL⟩⟩
  have d_fIM : Dr P w K mg base (spIsLamp K) "is_lamp" ["levels", "value"] 2 := ⟨⟨fIM, _, ok_isLamp F_fIM d_fII (none (n := "isinstance") (by decide +kernel)) (none (n := "tuple") (by decide +kernel)) (none (n := "len") (by decide +kernel)), b_fIM, m_fIM, kf_fIM⟩⟩
  have d_fWL : Dr P w K mg base (spWrong K) "wrong_lamp" ["levels", "lamps"] 3 := ⟨⟨fWL, _, ok_wrong F_fWL d_fIM (none (n := "enumerate") (by decide +kernel)), b_fWL, m_fWL, kf_fWL⟩⟩
  have gI : FnOk P w K mg base (L2.CX P w) 4 gIn _ ["self", "levels", "lamps", "end"] (spInitX K C xL xA xN) := ok_initX F_gIn R d_fII d_fIL d_fWL ZxL ZxA ZxN yL yA yN mML (none (n := "isinstance") (by decide +kernel)) (none (n := "tuple") (by decide +kernel)) (none (n := "len") (by decide +kernel))
  have M : MkX P w K mg base C xL xA xN := ⟨⟨gIn, _, ⟨hmakes, fm_gIn, if_gIn, hkeep⟩, gI, b_gIn, fun s x u1 u2 u3 => .of_eq rfl⟩⟩
  have Lv : PrR P w K mg base C "levels" (spLv C) 1 := ⟨⟨p_gLv, gLv, _, ⟨pa_gLv, pg_gLv, pt_gLv, ⟨_, pr_gLv⟩⟩, ok_lv F_gLv R, b_gLv⟩⟩
  have La : PrR P w K mg base C "lamps" (spLa C) 1 := ⟨⟨p_gLa, gLa, _, ⟨pa_gLa, pg_gLa, pt_gLa, ⟨_, pr_gLa⟩⟩, ok_la F_gLa R, b_gLa⟩⟩
  have En : PrR P w K mg base C "end" (spEn C) 1 := ⟨⟨p_gEn, gEn, _, ⟨pa_gEn, pg_gEn, pt_gEn, ⟨_, pr_gEn⟩⟩, ok_en F_gEn R, b_gEn⟩⟩
  have Ln : OwnM P w K mg base C "__len__" (spLn K C) 1 := ⟨⟨gLn, _, fm_gLn, if_gLn, ok_ln F_gLn R (none (n := "len") (by decide +kernel)), b_gLn⟩⟩
  have d_fCa : Dr P w K mg base spCast "_law_cast" ["_law_pail", "_law_many"] 1 := ⟨⟨fCa, _, ok_cast F_fCa (none (n := "int") (by decide +kernel)) (none (n := "divmod") (by decide +kernel)), b_fCa, m_fCa, kf_fCa⟩⟩
  have d_fBe : Dr P w K mg base (spBegun K) "_law_begun" ["_law_script", "_law_turn"] 1 := ⟨⟨fBe, _, ok_begun F_fBe (none (n := "int") (by decide +kernel)) (none (n := "len") (by decide +kernel)) (none (n := "abs") (by decide +kernel)), b_fBe, m_fBe, kf_fBe⟩⟩
  have gCa : FnOk P w K mg base CX0 1 fCa _ _ spCast := ok_cast F_fCa (none (n := "int") (by decide +kernel)) (none (n := "divmod") (by decide +kernel))
  have d_fAn : Dr P w K mg base spAny "_law_any_of" ["_law_pail", "_law_some_here"] 2 := ⟨⟨fAn, _, ok_any F_fAn gCa b_fCa m_fCa kf_fCa (none (n := "len") (by decide +kernel)), b_fAn, m_fAn, kf_fAn⟩⟩
  have gAn : FnOk P w K mg base CX0 2 fAn _ _ spAny := ok_any F_fAn gCa b_fCa m_fCa kf_fCa (none (n := "len") (by decide +kernel))
  have d_fVa : Dr P w K mg base spVast "_law_vast" ["_law_pail", "_law_many"] 2 := ⟨⟨fVa, _, ok_vast F_fVa d_fCa (none (n := "int") (by decide +kernel)) (none (n := "range") (by decide +kernel)), b_fVa, m_fVa, kf_fVa⟩⟩
  have d_fPl : Dr P w K mg base spPlace "_law_place" ["_law_pail"] 3 := ⟨⟨fPl, _, ok_place F_fPl d_fCa d_fVa, b_fPl, m_fPl, kf_fPl⟩⟩
  have d_fPc : Dr P w K mg base (spPicture K) "_law_picture" ["_law_pail", "_law_p", "_law_many"] 4 := ⟨⟨fPc, _, ok_picture F_fPc d_fCa d_fPl (none (n := "range") (by decide +kernel)) (none (n := "tuple") (by decide +kernel)) (none (n := "sorted") (by decide +kernel)) (none (n := "list") (by decide +kernel)), b_fPc, m_fPc, kf_fPc⟩⟩
  have d_fPa : Dr P w K mg base (spParts K) "_law_parts" ["_law_pail"] 5 := ⟨⟨fPa, _, ok_parts F_fPa d_fAn d_fPl d_fPc, b_fPa, m_fPa, kf_fPa⟩⟩
  have d_fTh : Dr P w K mg base (spThing K) "_law_thing" ["_law_pail"] 3 := ⟨⟨fTh, _, ok_thing F_fTh gAn b_fAn m_fAn kf_fAn, b_fTh, m_fTh, kf_fTh⟩⟩
  have gB := fun n => bent_all (base := base) F_fBn d_fCa d_fTh b_fBn m_fBn kf_fBn (none (n := "isinstance") (by decide +kernel)) (none (n := "tuple") (by decide +kernel)) (none (n := "int") (by decide +kernel)) (none (n := "bool") (by decide +kernel)) (none (n := "len") (by decide +kernel)) (none (n := "list") (by decide +kernel)) n
  have d_fBn : Dr P w K mg base (spBents K) "_law_bent" ["_law_pail", "_law_value"] 8 := ⟨⟨fBn, _, bents (fun n hn => (gB (n + 1)).mono (by omega)), b_fBn, m_fBn, kf_fBn⟩⟩
  have d_fWh : Dr P w K mg base (spIsInt K) "_law_is_whole" ["_law_value"] 1 := ⟨⟨fWh, _, ok_whole F_fWh (none (n := "isinstance") (by decide +kernel)) (none (n := "int") (by decide +kernel)) (none (n := "bool") (by decide +kernel)), b_fWh, m_fWh, kf_fWh⟩⟩
  have d_fLv : Dr P w K mg base (spIsLv K) "_law_is_levels" ["_law_value"] 2 := ⟨⟨fLv, _, ok_isLv F_fLv d_fWh, b_fLv, m_fLv, kf_fLv⟩⟩
  have d_fWr : Dr P w K mg base (spWrongs K) "_law_wrong_lamps" ["_law_p", "_law_value"] 2 := ⟨⟨fWr, _, ok_wrongs F_fWr d_fWh (none (n := "isinstance") (by decide +kernel)) (none (n := "tuple") (by decide +kernel)) (none (n := "len") (by decide +kernel)) (none (n := "range") (by decide +kernel)), b_fWr, m_fWr, kf_fWr⟩⟩
  have gSo := ok_sort (P := P) (w := w) (base := base) F_fSo Gm Nm DA DL DN (none (n := "isinstance") (by decide +kernel)) (none (n := "repr") (by decide +kernel)) (none (n := "len") (by decide +kernel))
  have gDu := ok_due (P := P) (w := w) (base := base) F_fDu d_fWh d_fLv d_fWr (none (n := "repr") (by decide +kernel))
  have d_fSm : Dr P w K mg base (spSome K) "_law_some" ["_law_pail"] 9 := ⟨⟨fSm, _, ok_some F_fSm d_fCa d_fAn d_fPl d_fPa d_fTh d_fBn (none (n := "range") (by decide +kernel)) (none (n := "tuple") (by decide +kernel)), b_fSm, m_fSm, kf_fSm⟩⟩
  have d_fTo : Dr P w K mg base (spTold C) "_law_told" ["_law_mine"] 3 := ⟨⟨fTo, _, ok_told F_fTo R Lv La En, b_fTo, m_fTo, kf_fTo⟩⟩
  have Aw : AnsR P w K mg base cA cB cC (spSort K xL xA xN) 2 := ansR_mk ⟨⟨fSo, _, gSo, b_fSo, m_fSo, kf_fSo⟩⟩ Nm.mA Nm.mB Nm.mC F_fAs b_fAs m_fAs kf_fAs
  have gRg := ok_right (T := [(tabA K cd_fLaw, qL), (tabA K cd_fRg, qR)]) F_fRg ca_fRg tb_fRg (by simp) (fun p hp e => by
    simp only [List.mem_cons, List.not_mem_nil, or_false] at hp
    rcases hp with rfl | rfl
    · exact absurd e cne
    · rfl) d_fSm gDu b_fDu m_fDu kf_fDu Aw d_fTo M mR Xm (none (n := "range") (by decide +kernel)) (none (n := "repr") (by decide +kernel))
  exact ok_law F_fLaw ca_fLaw tb_fLaw (by simp) (fun p hp e => by
    simp only [List.mem_cons, List.not_mem_nil, or_false] at hp
    rcases hp with rfl | rfl
    · rfl
    · exact absurd e.symm cne) gRg b_fRg m_fRg kf_fRg Aw M mR Xm Ln d_fBe (none (n := "range") (by decide +kernel)) (none (n := "len") (by decide +kernel)) (none (n := "tuple") (by decide +kernel)) (none (n := "all") (by decide +kernel)) (none (n := "max") (by decide +kernel)) (none (n := "min") (by decide +kernel))
open PySem.W in
theorem walk {l : PySem.W.OpenLaw} {q : Program} {loose : List Str} {XP : (Str → Option Value) → Heap → Prop} {YP : World → Heap → Prop} {d : DefRec} {K : Params → PySem.W.Frag} (hn : l.most = some 63) (hdf : d.params.defaults = []) (hrec : ∀ x ∈ (["law", "_law_right"] : List Str), ((recsOf q).any fun e => e.name == x) = true) (hY : ∀ (w : World) (h : Heap), YP w h → (K w.params).In h)
    (F : ∀ (w : World) (mg : Str → Option Value) (fa : Addr) (h : Heap), (K w.params).In h → h.Ns mainGlobals mg → mg d.name = some (.ref fa) → ∃ (fd : FuncData) (cs : List (Addr × Addr)) (sp : Sp), (∀ p ∈ cs, TabOf (K w.params) mg ["law", "_law_right"] p) ∧ (∀ (s : Shared) (u : Value), BindsTo s fd ⟨[u], []⟩ [("_law_script", u)]) ∧
      (∀ (H : Hp) (a : Addr) (ns : List Int), ns.length ≤ 63 → (∀ z ∈ ns, Builtin.Int.intBits z ≤ 1048576) → (∀ p ∈ cs, H p.2 = some (.tbl #[])) → SqL (K w.params) H a (ns.map V.int) → sp [.ref a] H (fun v _ => v = .bl true) E0) ∧
        ∀ base : Heap, (K w.params).In base → base.Ns mainGlobals mg → (∀ p ∈ cs, TabB base mg p.1 p.2) → FnG l.prog w (K w.params) mg base 11 fa fd ["_law_script"] sp) : PySem.W.WalkO q loose XP YP l.row.toRowW d [] (fun f vs => PySem.call f vs) :=
  walk_ofGT (n := 63) (k := 11) (x := "_law_script") ["law", "_law_right"] hn (by decide) hdf ⟨rfl, by decide, by decide⟩ hrec hY F
end Lamp
set_option Elab.async false
open PySem PySem.W PyProof.Rows
set_option maxRecDepth 100000 in
set_option maxHeartbeats 0 in
theorem PySem.Challenge.cw_lamprounds_k02_rounds_judged_holds : PySem.Challenge.rw_lamprounds_k02_rounds_judged.Holds := by
  w_on; o_law; k_head; (case hw => w_witness2)
  k_fill
  refine Lamp.walk (l := PySem.Challenge.rw_lamprounds_k02_rounds_judged) rfl rfl ?hrec (fun w h Y => PySem.W.km_in_of Y) ?F
  (case hrec => decide +kernel)
  case F =>
    intro w mg fa h KX G hmg
    refine' Lamp.all_mk KX G hmg ?nC ?n_xL ?n_xA ?n_xN ?n_cA ?n_cB ?n_cC ?nf_fII ?lf_fII ?cf_fII ?kf_fII ?nf_fIL ?lf_fIL ?cf_fIL ?kf_fIL ?nf_fIM ?lf_fIM ?cf_fIM ?kf_fIM ?nf_fWL ?lf_fWL ?cf_fWL ?kf_fWL ?nf_fBe ?lf_fBe ?cf_fBe ?kf_fBe ?nf_fCa ?lf_fCa ?cf_fCa ?kf_fCa ?nf_fAn ?lf_fAn ?cf_fAn ?kf_fAn ?nf_fVa ?lf_fVa ?cf_fVa ?kf_fVa ?nf_fAs ?lf_fAs ?cf_fAs ?kf_fAs ?nf_fWh ?lf_fWh ?cf_fWh ?kf_fWh ?nf_fPl ?lf_fPl ?cf_fPl ?kf_fPl ?nf_fPc ?lf_fPc ?cf_fPc ?kf_fPc ?nf_fPa ?lf_fPa ?cf_fPa ?kf_fPa ?nf_fTh ?lf_fTh ?cf_fTh ?kf_fTh ?nf_fBn ?lf_fBn ?cf_fBn ?kf_fBn ?nf_fLv ?lf_fLv ?cf_fLv ?kf_fLv ?nf_fWr ?lf_fWr ?cf_fWr ?kf_fWr ?nf_fSo ?lf_fSo ?cf_fSo ?kf_fSo ?nf_fDu ?lf_fDu ?cf_fDu ?kf_fDu ?nf_fSm ?lf_fSm ?cf_fSm ?kf_fSm ?nf_fRg ?lf_fRg ?cf_fRg ?kf_fRg ?nf_fTo ?lf_fTo ?cf_fTo ?kf_fTo ?nf_fLaw ?lf_fLaw ?cf_fLaw ?kf_fLaw ?fm_gIn ?lf_gIn ?cf_gIn ?kf_gIn ?if_gIn ?fm_gLn ?lf_gLn ?cf_gLn ?kf_gLn ?if_gLn ?fm_iL ?lf_iL ?cf_iL ?kf_iL ?if_iL ?fm_iN ?lf_iN ?cf_iN ?kf_iN ?if_iN ?fm_iA ?lf_iA ?cf_iA ?kf_iA ?if_iA ?pa_gLv ?pr_gLv ?pg_gLv ?pt_gLv ?lf_gLv ?cf_gLv ?kf_gLv ?pa_gLa ?pr_gLa ?pg_gLa ?pt_gLa ?lf_gLa ?cf_gLa ?kf_gLa ?pa_gEn ?pr_gEn ?pg_gEn ?pt_gEn ?lf_gEn ?cf_gEn ?kf_gEn ?nL ?lL ?nM ?all
    (case nC => k_is)
    (case n_xL => k_is)
    (case n_xA => k_is)
    (case n_xN => k_is)
    (case n_cA => k_is)
    (case n_cB => k_is)
    (case n_cC => k_is)
    (case nf_fII => k_is)
    (case lf_fII => k_is)
    (case cf_fII => k_is)
    (case kf_fII => k_is)
    (case nf_fIL => k_is)
    (case lf_fIL => k_is)
    (case cf_fIL => k_is)
    (case kf_fIL => k_is)
    (case nf_fIM => k_is)
    (case lf_fIM => k_is)
    (case cf_fIM => k_is)
    (case kf_fIM => k_is)
    (case nf_fWL => k_is)
    (case lf_fWL => k_is)
    (case cf_fWL => k_is)
    (case kf_fWL => k_is)
    (case nf_fBe => k_is)
    (case lf_fBe => k_is)
    (case cf_fBe => k_is)
    (case kf_fBe => k_is)
    (case nf_fCa => k_is)
    (case lf_fCa => k_is)
    (case cf_fCa => k_is)
    (case kf_fCa => k_is)
    (case nf_fAn => k_is)
    (case lf_fAn => k_is)
    (case cf_fAn => k_is)
    (case kf_fAn => k_is)
    (case nf_fVa => k_is)
    (case lf_fVa => k_is)
    (case cf_fVa => k_is)
    (case kf_fVa => k_is)
    (case nf_fAs => k_is)
    (case lf_fAs => k_is)
    (case cf_fAs => k_is)
    (case kf_fAs => k_is)
    (case nf_fWh => k_is)
    (case lf_fWh => k_is)
    (case cf_fWh => k_is)
    (case kf_fWh => k_is)
    (case nf_fPl => k_is)
    (case lf_fPl => k_is)
    (case cf_fPl => k_is)
    (case kf_fPl => k_is)
    (case nf_fPc => k_is)
    (case lf_fPc => k_is)
    (case cf_fPc => k_is)
    (case kf_fPc => k_is)
    (case nf_fPa => k_is)
    (case lf_fPa => k_is)
    (case cf_fPa => k_is)
    (case kf_fPa => k_is)
    (case nf_fTh => k_is)
    (case lf_fTh => k_is)
    (case cf_fTh => k_is)
    (case kf_fTh => k_is)
    (case nf_fBn => k_is)
    (case lf_fBn => k_is)
    (case cf_fBn => k_is)
    (case kf_fBn => k_is)
    (case nf_fLv => k_is)
    (case lf_fLv => k_is)
    (case cf_fLv => k_is)
    (case kf_fLv => k_is)
    (case nf_fWr => k_is)
    (case lf_fWr => k_is)
    (case cf_fWr => k_is)
    (case kf_fWr => k_is)
    (case nf_fSo => k_is)
    (case lf_fSo => k_is)
    (case cf_fSo => k_is)
    (case kf_fSo => k_is)
    (case nf_fDu => k_is)
    (case lf_fDu => k_is)
    (case cf_fDu => k_is)
    (case kf_fDu => k_is)
    (case nf_fSm => k_is)
    (case lf_fSm => k_is)
    (case cf_fSm => k_is)
    (case kf_fSm => k_is)
    (case nf_fRg => k_is)
    (case lf_fRg => k_is)
    (case cf_fRg => k_is)
    (case kf_fRg => k_is)
    (case nf_fTo => k_is)
    (case lf_fTo => k_is)
    (case cf_fTo => k_is)
    (case kf_fTo => k_is)
    (case nf_fLaw => k_is)
    (case lf_fLaw => k_is)
    (case cf_fLaw => k_is)
    (case kf_fLaw => k_is)
    (case fm_gIn => k_is)
    (case lf_gIn => k_is)
    (case cf_gIn => k_is)
    (case kf_gIn => k_is)
    (case if_gIn => k_is)
    (case fm_gLn => k_is)
    (case lf_gLn => k_is)
    (case cf_gLn => k_is)
    (case kf_gLn => k_is)
    (case if_gLn => k_is)
    (case fm_iL => k_is)
    (case lf_iL => k_is)
    (case cf_iL => k_is)
    (case kf_iL => k_is)
    (case if_iL => k_is)
    (case fm_iN => k_is)
    (case lf_iN => k_is)
    (case cf_iN => k_is)
    (case kf_iN => k_is)
    (case if_iN => k_is)
    (case fm_iA => k_is)
    (case lf_iA => k_is)
    (case cf_iA => k_is)
    (case kf_iA => k_is)
    (case if_iA => k_is)
    (case pa_gLv => k_is)
    (case pr_gLv => k_is)
    (case pg_gLv => k_is)
    (case pt_gLv => k_is)
    (case lf_gLv => k_is)
    (case cf_gLv => k_is)
    (case kf_gLv => k_is)
    (case pa_gLa => k_is)
    (case pr_gLa => k_is)
    (case pg_gLa => k_is)
    (case pt_gLa => k_is)
    (case lf_gLa => k_is)
    (case cf_gLa => k_is)
    (case kf_gLa => k_is)
    (case pa_gEn => k_is)
    (case pr_gEn => k_is)
    (case pg_gEn => k_is)
    (case pt_gEn => k_is)
    (case lf_gEn => k_is)
    (case cf_gEn => k_is)
    (case kf_gEn => k_is)
    (case nL => k_is)
    (case lL => k_is)
    (case nM => k_is)
    (case all => kernel_rfl)
