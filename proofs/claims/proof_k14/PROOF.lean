import PyProof.Rows.All
import Wide.All
import OpenK.AllK
import Wide.FinOn
import HandS.ForMost
import HandS.Wide
import HandS.WideBits
import HandS.EndBits
import HandS.Steps
import HandS.ExcInit
import KE.KExcLine
import KE.KExcIs
import HandS.ExcOwn
import HandS.ExcValue
import HandS.IsInst
import HandS.ExcField
import HandS.List
import HandS.More
import HandS.Dict
import HandS.Keys
import HandS.Call
import KE.KDictPairs
import HandS.Conv
import HandS.SortInts
import KE.GoesMore
import HandS.TupAny
import HandS.Text
import HandS.StrMore
import HandS.FStr
import KE.IntTextLaws
import HandS.Deep
import KE.KCallOwn
import HandS.Property
import HandS.ClsMeth
import HandS.MakeKwOnly
import HandS.RaiseMore
import HandS.NoneIn
import HandS.Comp
import HandS.OwnEq
import KE.KEqNest
import HandS.DictEq
import KE.DataMinMax
import KE.KDictList
import HandS.Walk
import HandS.HotCalls
import KE.DataFind
import HandS.Lambda
import HandS.WordsExc
import KE.KRevSl
import PyProof.SliceStr2
import PyProof.StrOps2
import HandS.EndOwn
import HandS.Style
import PyProof.ExcBaseAll.LookupError
import PyProof.ExcBaseAll.ArithmeticError
import PyProof.ExcBaseAll.ValueError
import PySem.Challenge.RW_lamprounds_k14_rows_of_steps_refused
set_option Elab.async false
set_option linter.all false
set_option maxRecDepth 100000
namespace Lamp
open PySem PySem.Spec PyProof.Rows L2
/-! A def's promise where it is known that no repr is under way. -/
structure FnG (P : Program) (w : World) (K : PySem.W.Frag) (mg : Str → Option Value) (base : Heap) (k : Nat) (f : Addr) (fd : FuncData) (ps : List Str) (sp : Sp) : Prop where
  many : ∀ vs H Q E, sp vs H Q E → vs.length = ps.length
  goes : ∀ (A : Around) (out : List Env) (s : Shared) (H : Hp) (ar : Args) (us : List Value) (vs : List V) (Q : VK) (E : XK), A.guards = some [] → Room k A → Env0 P w K mg base A out s H →
    BindsTo s fd ar (ps.zip us) → Vals vs us → sp vs H Q E → codeAny (model P w) A (.call (.ref f) ar) (CR CX0 out P w H s Q E) s
section
variable {P : Program} {w : World} {K : PySem.W.Frag} {mg : Str → Option Value} {base : Heap}
theorem FnG.of {k : Nat} {f : Addr} {fd : FuncData} {ps : List Str} {sp : Sp} (F : FnOk P w K mg base CX0 k f fd ps sp) : FnG P w K mg base k f fd ps sp :=
  ⟨F.len, fun A out s H ar us vs Q E _ hr he hb hv hs => F.run A out s H ar us vs Q E hr he hb hv hs⟩
theorem FnG.up {j k : Nat} {f : Addr} {fd : FuncData} {ps : List Str} {sp : Sp} (F : FnG P w K mg base j f fd ps sp) (h : j ≤ k) : FnG P w K mg base k f fd ps sp :=
  ⟨F.many, fun A out s H ar us vs Q E hg hr he hb hv hs => F.goes A out s H ar us vs Q E hg (hr.mono h) he hb hv hs⟩
/-- the rule for a def, by its body -/
theorem okG {x qual : Str} {st : Stmt} {f : Addr} {fd : FuncData} {N ps : List Str} {k : Nat} {sp : Sp} (F : Fun K x qual st f fd) (S : FnScope N ps (defScope st)) (len : ∀ vs H Q E, sp vs H Q E → vs.length = ps.length)
    (hbody : ∀ (cdv : Value) (A : Around) (outer : List Env) (s : Shared) (H : Hp) (vs : List V) (Q : VK) (E : XK), A.guards = some [] → Room k (A.deeper (envOfC qual (defScope st) s.heap.objs.size f cdv)) → sp vs H Q E →
      ∃ t, PSs (cxOf CX0 P w K mg base N qual (defScope st) f cdv A outer s H E).nox (defBody st) t ∧ t { nx := fun _ H' => Q .non H', rt := Q } (start N vs) H) : FnG P w K mg base (k + 1) f fd ps sp := by
  obtain ⟨oc, od, kV, doc, pm, an, cdv, ct, osl, efd, hlk, hcode⟩ := F.ex
  subst efd
  refine ⟨len, fun A out s H ar us vs Q E hgd hroom hst hbind hvals hs => ?_⟩
  have hcount := len _ _ _ _ hs
  have inK : K.In s.heap := hst.mod.kin.keeps fun b o e => (hst.bs b o e).1
  have noLim : s.heap.NoLimit := hst.mod.nolimit.keeps fun b o e => (hst.bs b o e).1
  refine codeAny_call_function hroom.depth (inK _ _ hlk) rfl S.co S.gen rfl (PySem.W.codeRec_of inK hcode) (hbind _ _ _ _ ?_)
  refine wpAny_newFunctionEnv_cells S.kind (fun y hy => ?_) fun env eenv s1 xin => ?_
  · obtain ⟨nm, val⟩ := y
    cases S.par nm (List.of_mem_zip hy).1 with
    | inl isLocal => exact .inl isLocal
    | inr isCell => exact .inr ⟨isCell, PySem.W.cellsFrom_some _ _ _ (.inl isCell)⟩
  subst eenv
  refine ⟨noLim.keeps xin.toInCall.keep, codeAny_func ?_⟩
  obtain ⟨t, ht0, hq⟩ := hbody cdv A out s H vs Q E hgd (hroom.deeper _) hs
  have ht := ht0.nox
  have inv0 : Inv (cxOf CX0 P w K mg base N qual (defScope st) f cdv A out s H E) [] (start N vs) H s1 := inv_start S hroom.hd hst hcount hvals xin
  have fin : ∀ {σ' : L2.St} {H' : Hp} {v : V} {u : Value} {s' : Shared}, Inv (cxOf CX0 P w K mg base N qual (defScope st) f cdv A out s H E) [] σ' H' s' → RelV v u → Q v H' → CE out P w H s Q u s' := fun J rv q => ⟨_, _, J.os, J.bare, J.base, J.hok, rv, q⟩
  refine wpAny_mono (ht.run [] s1 (start N vs) H _ inv0 hq) (fun flow s' told => ?_) fun e s' told => told
  match flow, told with
  | .ret u, ⟨v, σ', H', J, rv, q⟩ => exact fin J rv q
  | .next, ⟨σ', H', J, q⟩ => exact fin (v := V.non) (u := Value.none) J rfl q
  | .brk, ⟨_, _, _, q⟩ => exact False.elim q
  | .cont, ⟨_, _, _, q⟩ => exact False.elim q
end
section
variable {X : Cx} {k : Nat} {f : Addr} {fd : FuncData} {ps : List Str} {sp : Sp} {dvs : List V} {ds : List Value} {x : Str} {p pos : Pos} {e : Expr} {es : List Expr} {t : TA}
theorem runG {pins : List (Addr × Obj)} {σ : L2.St} {H : Hp} {s : Shared} {Q : VK} {us : List Value} {vs : List V} (F : FnG X.prog X.w X.K X.mg X.base k f fd ps sp) (hgd : X.A.guards = some []) (hr : Room k X.A) (hb : Binds X.K fd ps [])
    (I : Inv X pins σ H s) (r : Vals vs us) (h : sp vs H Q E0) : wpAny (model X.prog X.w) X.A (call (.ref f) us) (EP X pins σ Q) X.xe s := by
  have hl : (us ++ []).length = ps.length := by rw [List.append_nil, ← r.length]; exact F.many _ _ _ _ h
  have hbb := hb s us I.kIn hl
  rw [List.append_nil] at hbb
  refine wpAny_call (codeAny_mono (F.goes X.A X.stack s H ⟨us, []⟩ us vs Q E0 hgd hr I.env0 hbb r h) fun res s' told => ?_)
  match res, told with
  | .error _, told => exact False.elim told
  | .ok (.ret u), told => exact I.after told
  | .ok .next, told => exact False.elim told
  | .ok .brk, told => exact False.elim told
  | .ok .cont, told => exact False.elim told
/-- f(e, ..) -/
def tCallG (sp : Sp) (t : TA) : TE := fun σ H Q => t σ H fun vs H1 => sp vs H1 Q E0
theorem pe_callG (F : FnG X.prog X.w X.K X.mg X.base k f fd ps sp) (hgd : X.A.guards = some []) (hr : Room k X.A) (hg : Gl X x) (hm : X.mg x = some (.ref f)) (hk : PySem.W.keepIn X.K (.ref f) = true) (hb : Binds X.K fd ps [])
    (ha : PA X (e :: es) t) (hdb : (x == ("__debug__" : Str)) = false := by decide) (he : starEach (e :: es) X.env = (false, eval e X.env) :: starEach es X.env := by rfl) (hpl : (backTo pos (starEach es X.env)).any (·.1) = false := by rfl) :
    PE X (.Call (.Name x p) (e :: es) [] pos) (tCallG sp t) :=
  ⟨fun pins s σ H Q I h => wpAny_Call_Name_kw (ld_glob I hg hm (PySem.W.callWith_K (h₀ := X.base) I.ok.mod.kin hk (thn (ha.run pos pins s σ H _ I h) fun us s1 ⟨vs, H1, I1, r, q⟩ =>
    ⟨I1.kIn, runG F hgd hr hb I1 r q⟩) he hpl) hdb)⟩
end
/-! the law's own call, from its promise -/
theorem law_goes {P : Program} {w : World} {K : PySem.W.Frag} {mg mb : Str → Option Value} {k : Nat} {fa a : Addr} {fd : FuncData} {x : Str} {sp : Sp} {sh : Shared} {vs : List Value} {ns : List Int} {H : Hp}
    (inK : K.In sh.heap) (nsG : sh.heap.Ns mainGlobals mg) (nsB : sh.heap.Ns builtinsNs mb) (bltn : ∀ x : Str, x ≠ "__name__" → mb x = bootBuiltins x) (noLim : sh.heap.NoLimit) (noGen : sh.gens = #[])
    (there : sh.heap.get? a = some { cls := .type "list", data := .seq vs.toArray }) (room : Room k callerA)
    (F : ∀ base : Heap, K.In base → base.Ns mainGlobals mg → FnG P w K mg base k fa fd [x] sp) (hbind : ∀ (s : Shared) (u : Value), BindsTo s fd ⟨[u], []⟩ [(x, u)])
    (asked : sp [.ref a] H (fun v _ => v = .bl true) E0) (only : Only H) (hok : HOk P w H sh.heap) (alone : ∀ b u, H b = some u → b = a ∧ K.lookup a = none) :
    codeAny (model P w) callerA (.call (.ref fa) ⟨[.ref a], []⟩) (fun r s' => r = .ok (.ret (.bool true)) ∧ OldK sh.heap s'.heap ∧ s'.os = sh.os ∧ AllBare s'.gens) sh := by
  have untold : ∀ {b : Addr} {o : Obj}, sh.heap.get? b = some o → (b = a → o.cls ≠ .type "list") → H b = none := fun {b o} e ne => by
    cases q : H b with
    | none => rfl
    | some u =>
      have eb := (alone b u q).1
      subst eb
      rw [there] at e
      cases e
      exact absurd rfl (ne rfl)
  have nsKeep : ∀ {b : Addr} {m : Str → Option Value}, sh.heap.Ns b m → (hidT sh.heap H).Ns b m := fun {b m} told => by
    obtain ⟨o, es, ep, e, d, r⟩ := told
    refine ⟨o, es, ep, hidT_get e ?_, d, r⟩
    cases q : H b with
    | none => rfl
    | some u =>
      have eb := (alone b u q).1
      subst eb
      rw [there] at e
      cases e
      exact Data.noConfusion d
  have inK' : K.In (hidT sh.heap H) := fun b o e => hidT_get (inK b o e) (by
    cases q : H b with
    | none => rfl
    | some u =>
      obtain ⟨eb, none⟩ := alone b u q
      rw [eb, none] at e
      cases e)
  obtain ⟨mc, lim1, lim2⟩ := noLim
  have start0 : Env0 P w K mg (hidT sh.heap H) callerA [] sh H :=
    { frames := rfl, mod := ⟨inK', nsKeep nsG, ⟨mb, nsKeep nsB, bltn⟩, ⟨mc, nsKeep lim1, lim2⟩⟩, bs := fun b o e => of_hidT e, bsz := Nat.le_of_eq (hidT_size _ _), funs := trivial, frf := (fun b hb => nomatch hb), hok := hok, bare := .of_eq noGen }
  refine codeAny_mono ((F _ inK' (nsKeep nsG)).goes callerA [] sh H ⟨[.ref a], []⟩ [.ref a] [.ref a] _ _ rfl room start0 (hbind sh (.ref a)) (.cons rfl .nil) asked) fun res s' told => ?_
  match res, told with
  | .error _, told => exact False.elim told
  | .ok .next, told => exact False.elim told
  | .ok .brk, told => exact False.elim told
  | .ok .cont, told => exact False.elim told
  | .ok (.ret u), ⟨v, H', os, bare, un, hok', rv, ev⟩ =>
    have ev' : v = .bl true := ev
    subst ev'
    have eu : u = Value.bool true := rv
    subst eu
    refine ⟨rfl, OldK.of_keep fun b o e => ?_, os, bare⟩
    rcases only b with none | ⟨ob, xs, froz⟩
    · exact un.keep b o e none (fun z => nomatch z) (fun z => nomatch z)
    · have old := (hok b _ froz).1
      have new := (hok' b _ (un.frzs b ob _ froz)).1
      rw [e] at old
      cases old
      exact new
theorem law_goes2 {P : Program} {w : World} {K : PySem.W.Frag} {mg mb : Str → Option Value} {k : Nat} {fa a : Addr} {fd : FuncData} {x : Str} {sp : Sp} {sh : Shared} {vs : List Value} {ns : List Int}
    (inK : K.In sh.heap) (nsG : sh.heap.Ns mainGlobals mg) (nsB : sh.heap.Ns builtinsNs mb) (bltn : ∀ x : Str, x ≠ "__name__" → mb x = bootBuiltins x) (noLim : sh.heap.NoLimit) (noGen : sh.gens = #[])
    (there : sh.heap.get? a = some { cls := .type "list", data := .seq vs.toArray }) (areInts : IntsAre vs ns) (short : ns.length ≤ sizeLine) (room : Room k callerA)
    (F : ∀ base : Heap, K.In base → base.Ns mainGlobals mg → FnG P w K mg base k fa fd [x] sp) (hbind : ∀ (s : Shared) (u : Value), BindsTo s fd ⟨[u], []⟩ [(x, u)])
    (asked : ∀ H : Hp, Only H → SqL K H a (ns.map V.int) → sp [.ref a] H (fun v _ => v = .bl true) E0) :
    codeAny (model P w) callerA (.call (.ref fa) ⟨[.ref a], []⟩) (fun r s' => r = .ok (.ret (.bool true)) ∧ OldK sh.heap s'.heap ∧ s'.os = sh.os ∧ AllBare s'.gens) sh := by
  have vals := vals_ints areInts
  have same := areInts.length
  cases look : K.lookup a with
  | some o =>
    have e := inK a o look
    rw [there] at e
    cases e
    have on : Only fun _ => none := fun _ => .inl rfl
    exact law_goes (ns := ns) inK nsG nsB bltn noLim noGen there room F hbind (asked _ on (.inr ⟨_, vs.toArray, _, look, rfl, rfl, rfl, by rw [List.size_toArray, same]; exact short, vals⟩)) on (fun b u z => nomatch z) (fun b u z => nomatch z)
  | none =>
    let held : HO := .frz { cls := .type "list", data := .seq vs.toArray } (.lst (ns.map V.int))
    have at_ : ∀ b, b = a → (fun c => if c = a then some held else none : Hp) b = some held := fun b e => if_pos e
    have off : ∀ b, b ≠ a → (fun c => if c = a then some held else none : Hp) b = none := fun b e => if_neg e
    have on : Only fun c => if c = a then some held else none := fun b => by
      by_cases eb : b = a
      · exact .inr ⟨_, _, at_ b eb⟩
      · exact .inl (off b eb)
    refine law_goes (ns := ns) inK nsG nsB bltn noLim noGen there room F hbind (asked _ on (.inl (.inr ⟨_, at_ a rfl⟩))) on (fun b u z => ?_) (fun b u z => ?_)
    · by_cases eb : b = a
      · subst eb
        have z2 := (at_ b rfl).symm.trans z
        cases z2
        exact ⟨there, by rw [List.length_map]; exact short, vs, _, vals, there⟩
      · have z2 := (off b eb).symm.trans z
        cases z2
    · by_cases eb : b = a
      · exact ⟨eb, look⟩
      · have z2 := (off b eb).symm.trans z
        cases z2
open PySem.W in
theorem walk_ofG {l : PySem.W.OpenLaw} {n k : Nat} {q : Program} {loose : List Str} {XP : (Str → Option Value) → Heap → Prop} {YP : World → Heap → Prop} {d : DefRec} {K : Params → PySem.W.Frag} {sp : World → Sp} {x : Str}
    (hn : l.most = some n) (hn2 : n ≤ sizeLine) (hdf : d.params.defaults = []) (hr : Room k callerA) (hY : ∀ (w : World) (h : Heap), YP w h → (K w.params).In h)
    (F : ∀ (w : World) (mg : Str → Option Value) (fa : Addr) (h : Heap), (K w.params).In h → h.Ns mainGlobals mg → mg d.name = some (.ref fa) → ∃ fd : FuncData, (∀ (s : Shared) (u : Value), BindsTo s fd ⟨[u], []⟩ [(x, u)]) ∧
        ∀ base : Heap, (K w.params).In base → base.Ns mainGlobals mg → FnG l.prog w (K w.params) mg base k fa fd [x] (sp w))
    (hsp : ∀ (w : World) (H : Hp) (a : Addr) (ns : List Int), ns.length ≤ n → (∀ z ∈ ns, Builtin.Int.intBits z ≤ 1048576) → Only H → SqL (K w.params) H a (ns.map V.int) → sp w [.ref a] H (fun v _ => v = .bl true) E0) :
    PySem.W.WalkO q loose XP YP l.row.toRowW d [] (fun f vs => PySem.call f vs) :=
  Att.attach_callB hn hdf fun w s₀ s₁ mg mb fa o pm cd doc a vs ns G Y ho hd hcd hmg hobj hints hlen hbits hg => by
    obtain ⟨fd, hb, hF⟩ := F w mg fa _ (hY w _ Y) G.T.g hmg
    exact law_goes2 (hY w _ Y) G.T.g G.T.b G.T.builtins G.T.nolimit hg hobj hints (Nat.le_trans hlen hn2) hr hF hb fun H hO hS => hsp w H a ns hlen hbits hO hS
end Lamp
set_option Elab.async false
set_option linter.all false
set_option maxRecDepth 100000
namespace Lamp
open PySem PySem.Spec PyProof.Rows L2
/-! repr of data -/
mutual
theorem dp_nodict {K : PySem.W.Frag} {H : Hp} : ∀ (d : PyData) (v : V), Dp K H v d → d.hasDict = false
  | .none, _, _ => by simp only [PyData.hasDict]
  | .bool _, _, _ => by simp only [PyData.hasDict]
  | .int _, _, _ => by simp only [PyData.hasDict]
  | .str _, _, _ => by simp only [PyData.hasDict]
  | .list ds, _, h => by
    cases h with
    | lst hs ha => simpa only [PyData.hasDict] using dpAll_nodict ds _ ha
  | .tuple ds, _, h => by
    cases h with
    | tup hs ha => simpa only [PyData.hasDict] using dpAll_nodict ds _ ha
  | .dict _, _, h => by cases h
theorem dpAll_nodict {K : PySem.W.Frag} {H : Hp} : ∀ (ds : List PyData) (vs : List V), DpAll K H vs ds → PyData.hasDictAll ds = false
  | [], _, _ => by simp only [PyData.hasDictAll]
  | d :: ds, _, h => by
    cases h with
    | cons h1 h2 => simp only [PyData.hasDictAll, dp_nodict d _ h1, dpAll_nodict ds _ h2, Bool.or_self]
end
/-- the data of a scalar -/
def scalD : V → Option PyData
  | .non => some .none
  | .bl b => some (.bool b)
  | .int i => some (.int i)
  | .str x => some (.str x)
  | _ => none
def keyD : Key → PyData
  | .inl i => .int i
  | .inr x => .str x
/-- a value that shows as data: data without dicts, or a dict of scalars -/
inductive Dq (K : PySem.W.Frag) (H : Hp) : V → PyData → Prop
  | plain {v : V} {d : PyData} : Dp K H v d → Dq K H v d
  | dict {a : Addr} {kvs : List (Key × V)} {es : List (PyData × PyData)} : H a = some (.dK kvs) → kvs.map (fun p => (keyD p.1, scalD p.2)) = es.map (fun p => (p.1, some p.2)) → Dq K H (.ref a) (.dict es)
theorem scal_reads {h : Heap} {v : V} {u : Value} {d : PyData} (e : scalD v = some d) (r : RelV v u) : Reads h u d [] := by
  cases v with
  | non => cases e; cases r; exact .none
  | bl b => cases e; cases r; exact .bool b
  | int i => cases e; obtain ⟨t, rfl⟩ := r; exact .int i t
  | str x => cases e; obtain ⟨t, rfl⟩ := r; exact .str x t
  | byt _ => cases e
  | flt _ => cases e
  | ref _ => cases e
  | ty _ => cases e
theorem key_reads {h : Heap} {k : Key} {u : Value} (e : keyIs k u = true) : Reads h u (keyD k) [] := by
  rcases keyIs_shape e with ⟨i, t, rfl, rfl⟩ | ⟨x, t, rfl, rfl⟩
  · exact .int i t
  · exact .str x t
theorem entries_read {P : Program} {w : World} {h : Heap} : ∀ {ents : List DictEntry} {vs : List (Key × Value)} {kvs : List (Key × V)} {es : List (PyData × PyData)}, Pairs (mixKind P w) ents vs → KV kvs vs →
    kvs.map (fun p => (keyD p.1, scalD p.2)) = es.map (fun p => (p.1, some p.2)) → ReadsAll h (ents.map (·.key)) (es.map (·.1)) [] ∧ ReadsAll h (ents.map (·.val)) (es.map (·.2)) [] := by
  intro ents vs kvs es hp
  induction hp generalizing kvs es with
  | nil =>
    intro hk e
    cases hk
    cases es with
    | nil => exact ⟨.nil, .nil⟩
    | cons _ _ => cases e
  | @cons en kv ents vs hkey hval _ ih =>
    intro hk e
    cases hk with
    | @cons p _ kvs' _ hpq hrest =>
      obtain ⟨ek, ev⟩ := hpq
      cases es with
      | nil => cases e
      | cons q es' =>
        simp only [List.map_cons, List.cons.injEq, Prod.mk.injEq] at e
        obtain ⟨⟨e1, e2⟩, e3⟩ := e
        obtain ⟨r1, r2⟩ := ih hrest e3
        have hkey' : keyIs p.1 en.key = true := by rw [ek]; exact hkey
        have k1 : Reads h en.key q.1 [] := by rw [← e1]; exact key_reads hkey'
        have k2 : Reads h en.val q.2 [] := scal_reads e2 (by rw [hval]; exact ev)
        exact ⟨by simpa using ReadsAll.cons k1 r1, by simpa using ReadsAll.cons k2 r2⟩
theorem dq_reads {X : Cx} {pins : List (Addr × Obj)} {σ : L2.St} {H : Hp} {s : Shared} (I : Inv X pins σ H s) {v : V} {u : Value} {d : PyData} (h : Dq X.K H v d) (r : RelV v u) :
    ∃ as, Reads s.heap u d as ∧ (d.hasDict = true → sysModules ∉ as) := by
  cases h with
  | plain h =>
    obtain ⟨as, q⟩ := Dp.reads I d v u h r
    exact ⟨as, q, fun z => by rw [dp_nodict d v h] at z; cases z⟩
  | @dict a kvs es ha he =>
    have eu : u = Value.ref a := r
    subst eu
    obtain ⟨_, low, vs, hk, o, ents, ep, h1, h2, h3, _, h5, _⟩ := (show ObjOk X.prog X.w H s.heap a (.dK kvs) from I.hok a _ ha)
    obtain ⟨q1, q2⟩ := entries_read (h := s.heap) h5 hk he
    refine ⟨_, Reads.dict h1 h2.1 h3 q1 q2, fun _ hm => ?_⟩
    simp at hm
    rw [← hm] at low
    simp at low
/-- repr(x) of data -/
def rReprD (K : PySem.W.Frag) : List V → Hp → VK → Prop := fun xs H Q => ∃ v d, xs = [v] ∧ Dq K H v d ∧ d.showable = true ∧ d.depth ≤ 60 ∧ d.shown.length ≤ sizeLine ∧ Q (.str d.shown) H
theorem call_reprD {X : Cx} (hgd : X.A.guards = some []) (hu : X.A.units + 64 < cLine) : CallR X (.builtin "repr") (rReprD X.K) := by
  intro pins s σ H xs us Q I r h
  obtain ⟨v, d, rfl, hd, hs, hdep, hlen, q⟩ := h
  obtain ⟨u, rfl, rv⟩ := vals1 r
  obtain ⟨as, hr, hsm⟩ := dq_reads I hd rv
  cases hr with
  | none => exact PySem.P.repr_of_none ⟨.str _, H, I.tok _, ⟨_, rfl⟩, q⟩
  | bool b => exact PySem.P.repr_of_bool ⟨.str _, H, I.tok _, ⟨_, rfl⟩, q⟩
  | int i t => exact PySem.P.repr_of_int (by simpa [PyData.showable] using hs) ⟨.str _, H, I.tok _, ⟨_, rfl⟩, q⟩
  | str x t => exact PySem.P.repr_of_str ⟨.str _, H, I.tok _, ⟨_, rfl⟩, q⟩ (by simpa [PyData.shown] using hlen)
  | list h1 h2 h3 h4 => exact repr_of_reads' (.list h1 h2 h3 h4) hs hsm hgd (by omega) (fun _ _ e => e) (fun h' u tk k => ⟨.str _, H, I.kept k, ⟨_, rfl⟩, q⟩) hlen
  | tuple h1 h2 h3 h4 => exact repr_of_reads' (.tuple h1 h2 h3 h4) hs hsm hgd (by omega) (fun _ _ e => e) (fun h' u tk k => ⟨.str _, H, I.kept k, ⟨_, rfl⟩, q⟩) hlen
  | dict h1 h2 h3 h4 h5 => exact repr_of_reads' (.dict h1 h2 h3 h4 h5) hs hsm hgd (by omega) (fun _ _ e => e) (fun h' u tk k => ⟨.str _, H, I.kept k, ⟨_, rfl⟩, q⟩) hlen
end Lamp
set_option Elab.async false
set_option linter.all false
set_option maxRecDepth 100000
set_option maxHeartbeats 4000000
namespace PySem
namespace LampX
open HandSPX Builtin Builtin.ObjectAttr
/-! an exception class of the program called, with keywords too -/
section
variable {prog : Program} {w : World} {M : Model} {A : Around} {E : Value → Shared → Prop} {R : Result → Shared → Prop} {h : Heap} {g : Array GenState} {d : Drawn} {t : Nat} {os : OsState}
variable {cn cq : Str} {C N : Addr} {bs bm tail : List Value} {hdct : Bool} {sn : List Str} {sub : List Value} {ab : Bool} {col : Option Bool} {dd : Option Addr} {k0 k1 k2 k3 k5 : Option Value} {B newId initId : String} {rest : List Value} {kw : List (Str × Value)}
theorem newChecked (F : ExcBaseFacts B newId initId tail) (hT : ∀ X : String, bm.contains (.type X) = tail.contains (.type X)) {Q : Unit → Shared → Prop}
    (hC : h.get? C = some (excClassObj cn cq C N bs bm hdct sn sub ab col dd k0 k1 k2 k3 k5 newId)) (hq : Q () ⟨h, g, d, t, os⟩) : wpAny M A (checkBuiltinCall newId ⟨.ref C :: rest, kw⟩) Q E ⟨h, g, d, t, os⟩ := by
  have below : (Value.ref C :: bm).contains (.type B) = true := by rw [List.contains_cons, hT, F.hasB, Bool.or_true]
  have plain := F.noStar
  simp only [checkBuiltinCall, F.newKind, F.newSplit, F.newRow]
  repeat (first | refine wpAny_loadPart_at hC ?_ | (refine wpAny_isSubtype_exc hC ?_; rw [below]) | refine wpAny_staticBase_exc hC ?_ | refine wpAny_madeBy_exc hC ?_ | simp only [bne_self_eq_false, Bool.false_eq_true, if_false] | wp_step)
  exact hq
theorem newMade (F : ExcBaseFacts B newId initId tail) (hT : ∀ X : String, bm.contains (.type X) = tail.contains (.type X))
    (hC : h.get? C = some (excClassObj cn cq C N bs bm hdct sn sub ab col dd k0 k1 k2 k3 k5 newId))
    (hq : R (.ok (.ret (.ref (h.objs.size + 1)))) ⟨(h.push (W.kdv_tup rest)).push (excO C h.objs.size), g, d, t, os⟩) (short : rest.length ≤ sizeLine) :
    codeAny (model prog w) A (.builtin newId ⟨.ref C :: rest, kw⟩) R ⟨h, g, d, t, os⟩ := by
  have stops := F.ends
  have isB : (Value.ref C :: bm).contains (.type B) = true := by rw [List.contains_cons, hT, F.hasB, Bool.or_true]
  have notA : (Value.ref C :: bm).contains (.type "AttributeError") = false := by rw [List.contains_cons, hT, F.noAttr] <;> rfl
  have notN : (Value.ref C :: bm).contains (.type "NameError") = false := by rw [List.contains_cons, hT, F.noName] <;> rfl
  refine codeAny_builtinAt F.entry ?_
  unfold Builtin.«BaseException.__new__»
  refine wpAt_bind ?_
  show wpAt _ _ _ (stack >>= _) _ _ _
  refine wpAt_bind (wpAt_stack fun p below => wpAt_of_wpAny ?_)
  wp_walk
  refine wpAt_of_wpAny ?_
  rw [F.owner]
  repeat (first | with_reducible refine wpAny_madeHere_exc F.canon hC ?_ | with_reducible refine wpAny_loadPart_at hC ?_ | (with_reducible refine wpAny_isSubtype_exc hC ?_; first | rw [isB] | rw [notA] | rw [notN]) | wp_step)
  show R _ _
  rw [Heap.size_push]
  exact hq
theorem typeCalled (F : ExcBaseFacts B newId initId tail) (hT : ∀ X : String, bm.contains (.type X) = tail.contains (.type X)) {fI : Addr} {Q : Fin → Shared → Prop}
    (hC : h.get? C = some (excClassObj cn cq C N bs bm hdct sn sub ab col dd k0 k1 k2 k3 k5 newId))
    (hi : W.Looks (model prog w) h (typeLookup (.ref C) "__init__") (some (.ref fI))) (hb : ∀ self, W.Looks (model prog w) h (bindSpecial (.ref fI) self) (.ref fI, [self])) (short : rest.length ≤ sizeLine)
    (hq : codeAny (model prog w) A (.call (.ref fI) ⟨.ref (h.objs.size + 1) :: rest, kw⟩)
      (fun r s' => match r with | .ok (.ret v) => v = .none ∧ Q (.done (.ret (.ref (h.objs.size + 1)))) s' | .ok _ => False | .error e => E e s') ⟨(h.push (W.kdv_tup rest)).push (excO C h.objs.size), g, d, t, os⟩) :
    wpAny (model prog w) A (Builtin.«type.__call__» ⟨.ref C :: rest, kw⟩) Q E ⟨h, g, d, t, os⟩ := by
  repeat (first | with_reducible refine wpAny_loadPart_at hC ?_ | with_reducible refine wpAny_madeBy_exc hC ?_ | wp_step)
  refine codeAny_call_builtin_code (Code.quiet_builtin _ F.quiet) (newChecked F hT hC ?_)
  refine newMade F hT hC ?_ short
  show wpAny _ _ _ _ _ _
  have stays : ∀ b o, h.get? b = some o → ((h.push (W.kdv_tup rest)).push (excO C h.objs.size)).get? b = some o := fun b o e => Heap.get?_push_of_some _ (Heap.get?_push_of_some _ e)
  have classThere := stays _ _ hC
  have newThere : ((h.push (W.kdv_tup rest)).push (excO C h.objs.size)).get? (h.objs.size + 1) = some (excO C h.objs.size) := by heap_get
  have ownClass : (Value.ref C :: bm).contains (.ref C) = true := by simp
  have initLook := hi.keeps stays
  have initBound := (hb (.ref (h.objs.size + 1))).keeps stays
  unfold isInstance
  repeat (first | with_reducible refine wpAny_loadPart_at newThere ?_ | (with_reducible refine wpAny_isSubtype_exc classThere ?_; rw [ownClass]) | wp_step)
  show wpAny _ _ (typeLookup (.ref C) _) _ _ _
  refine initLook.at ?_
  refine wpAny_holding (wpAny_bind (initBound.at ?_))
  refine wpAny_bind (wpAny_call (codeAny_mono hq fun r s' z => ?_))
  rcases r with e | (v | _ | _ | _) <;> first | exact z | exact z.elim | skip
  obtain ⟨rfl, z⟩ := z
  first
    | exact wpAny_pure (wpAny_pure z)
    | (wp_walk; exact z)
theorem typeCallChecked {Q : Unit → Shared → Prop} (hC : h.get? C = some (excClassObj cn cq C N bs bm hdct sn sub ab col dd k0 k1 k2 k3 k5 newId))
    (hq : Q () ⟨h, g, d, t, os⟩) : wpAny M A (checkBuiltinCall "type.__call__" ⟨.ref C :: rest, kw⟩) Q E ⟨h, g, d, t, os⟩ := by
  have isSub := tc_sub
  have isClass : (⟨h, g, d, t, os⟩ : Shared).TypeIs (.ref C) "type" := ⟨_, hC, rfl⟩
  simp only [checkBuiltinCall, tc_kind, tc_split]
  repeat (any_goals (first | assumption | with_reducible refine wpAny_loadPart_at hC ?_ | with_reducible refine wpAny_onRaise ?_ | with_reducible refine wpAny_map ?_ | wp_step))
/-- the class called -/
theorem excCalled (F : ExcBaseFacts B newId initId tail) (hT : ∀ X : String, bm.contains (.type X) = tail.contains (.type X)) {fI : Addr}
    (hC : h.get? C = some (excClassObj cn cq C N bs bm hdct sn sub ab col dd k0 k1 k2 k3 k5 newId))
    (hi : W.Looks (model prog w) h (typeLookup (.ref C) "__init__") (some (.ref fI))) (hb : ∀ self, W.Looks (model prog w) h (bindSpecial (.ref fI) self) (.ref fI, [self])) (short : rest.length ≤ sizeLine)
    (hq : codeAny (model prog w) (A.under (.builtin "type.__call__" ⟨.ref C :: rest, kw⟩)) (.call (.ref fI) ⟨.ref (h.objs.size + 1) :: rest, kw⟩) (W.InitBack (h.objs.size + 1) R) ⟨(h.push (W.kdv_tup rest)).push (excO C h.objs.size), g, d, t, os⟩) :
    codeAny (model prog w) A (.call (.ref C) ⟨rest, kw⟩) R ⟨h, g, d, t, os⟩ := by
  have look := tc_lookup
  have bound := tc_bind (.ref C)
  have isClass : (⟨h, g, d, t, os⟩ : Shared).TypeIs (.ref C) "type" := ⟨_, hC, rfl⟩
  refine codeAny_of_tree ?_
  show wpAny _ _ (callAny (.ref C) _) _ _ _
  repeat (any_goals (first | assumption | with_reducible refine wpAny_loadPart_at hC ?_ | wp_step))
  refine ⟨rfl, ?_⟩
  refine codeAny_call_builtin_at (Code.quiet_builtin _ (by decide +kernel)) entry_typeCall (typeCallChecked hC (typeCalled F hT hC hi hb short ?_))
  refine codeAny_mono hq fun r s' z => ?_
  rcases r with e | (v | _ | _ | _) <;> exact z
end
end LampX
end PySem
set_option Elab.async false
set_option linter.all false
set_option maxRecDepth 100000
set_option maxHeartbeats 4000000
namespace PySem
namespace LampX
open PySem.W Builtin.ObjectAttr
section
variable {prog : Program} {w : World} {A : Around} {s : Shared} {K : Frag} {C : Addr} {B : String} {tail : List Value}
/-- the first field of an exception: its dict is laid -/
theorem firstField {x t : Addr} {name : Str} {tk : Tok} {v : Value} {R : Result → Shared → Prop} (SF : StoreFacts B tail "object.__setattr__" "object") (inK : K.In s.heap) (there : s.heap.get? x = some (excObj C t none .none))
    (over : excOver K C tail = true) (taker : takerIn K C name = some none) (dict : hasDictIn K C = true)
    (hq : ∀ h' tk' dx, (∀ b o, b ≠ x → s.heap.get? b = some o → h'.get? b = some o) → s.heap.objs.size ≤ dx → dx ≠ x → h'.get? x = some (excObj C t (some dx) .none) →
      h'.Ns1 dx (fun y => if y = name then some v else none) → R (.ok (.ret .none)) { s with heap := h', toks := tk' }) :
    codeAny (model prog w) A (.call (.builtin "object.__setattr__") ⟨[.ref x, .str name tk, v], []⟩) R s := by
  have fresh : x ≠ s.heap.objs.size := Nat.ne_of_lt (Heap.lt_size there)
  refine osa_openX (od := none) SF inK ⟨there, rfl, rfl, trivial⟩ over taker fun b => ?_
  obtain ⟨cd, hcd, hdd⟩ := any_some dict
  refine wpAny_bind (wpAny_pure (wpAny_bind (instanceDict_exc there (looks_clsIn inK hcd) hdd ?_)))
  show wpAny _ _ (storeInDict s.heap.objs.size (.str name tk) name v) _ _ _
  have was : (s.heap.push (dictOf [] 0)).get? x = some (excObj C t none .none) := Heap.get?_push_of_some _ there
  refine HandSPX.store_in_new ⟨_, #[], _, (Heap.get?_update_ne _ _ _ _ fresh.symm).trans (Heap.get?_push_at rfl rfl), rfl, fun e he => absurd he (by simp), fun _ => rfl⟩ fun h' tk' named kept => ?_
  refine hq h' tk' s.heap.objs.size (fun b o hb ho => ?_) (Nat.le_refl _) fresh.symm ?_ named
  · exact (kept.2 b (Nat.ne_of_lt (Heap.lt_size ho))).trans ((Heap.get?_update_ne _ _ _ _ hb).trans (Heap.get?_push_of_some _ ho))
  · exact (kept.2 x fresh).trans (Heap.get?_update_self _ was rfl)
end
end LampX
end PySem
namespace Lamp
open PySem PySem.Spec PyProof.Rows L2
/-- what the written part says of an exception class of the program -/
structure EC (K : PySem.W.Frag) (C : Addr) (B newId initId : String) (tail : List Value) : Prop where
  F : ExcBaseFacts B newId initId tail
  S : StoreFacts B tail "object.__setattr__" "object"
  made : PySem.W.excInitIn K C tail newId = true
  over : PySem.W.excOver K C tail = true
  sa : PySem.W.findIn K (.ref C) "__setattr__" = some (some (.builtin "object.__setattr__"))
  ga : PySem.W.findIn K (.ref C) "__getattribute__" = some (some (.builtin "BaseException.__getattribute__"))
  gg : PySem.W.findIn K (.ref C) "__getattr__" = some none
  exC : PySem.W.subIn K (.ref C) (.type "BaseException") = some true
  hd : PySem.W.hasDictIn K C = true
  kp : PySem.W.keepIn K (.ref C) = true
  cls : PySem.W.findIn K (.ref C) "__class__" = some (some (.builtin "object.__class__"))
  obj : PySem.W.mroIn K C (.type "object") = some true
section
variable {X : Cx} {pins : List (Addr × Obj)} {σ : L2.St} {H : Hp} {s : Shared} {a C : Addr} {f : Str} {y : V} {u : Value} {Q : Unit → Shared → Prop} {E : Value → Shared → Prop} {A : Around} {B newId initId : String} {tail : List Value}
theorem store1 (T : EC X.K C B newId initId tail) (I : Inv X pins σ H s) (e : H a = some (exo a C none)) (ht : PySem.W.takerIn X.K C f = some none) (ry : RelV y u)
    (h : ∀ dx s', H dx = none → dx ≠ a → Inv X pins σ (upd (upd H dx (exd dx [(f, y)])) a (exo a C (some dx))) s' → Q () s') : wpAny (model X.prog X.w) A (setAttr (.ref a) f u) Q E s := by
  obtain ⟨t1, there⟩ := exo_at I.hok e
  refine PySem.W.set_plain I.kIn (ox := PySem.W.excObj C t1 none .none) (od := none) ⟨there, rfl, rfl, trivial⟩ T.sa ?_
  refine PySem.LampX.firstField (s := { s with toks := s.toks + 1 }) T.S I.kIn there T.over ht T.hd fun h' tk' dx kept new other now named => ?_
  have free : H dx = none := I.hok.fresh new
  have notNew : ∀ {b : Addr} {o : Obj}, s.heap.get? b = some o → b ≠ dx := fun {b o} q => Nat.ne_of_lt (Nat.lt_of_lt_of_le (Heap.lt_size q) new)
  have notA : ∀ {b : Addr}, H b = none → b ≠ a := fun {b} n z => by rw [z, e] at n; cases n
  have un : Un X.fs [] H (upd (upd H dx (exd dx [(f, y)])) a (exo a C (some dx))) s.heap h' :=
    ⟨fun b o q n _ _ => kept b o (notA n) q, fun b o q n _ _ => ⟨o.slots, kept b o (notA n) q⟩, fun b o q n _ => by rw [upd_ne (notA n), upd_ne (notNew q)]; exact n,
      fun b o q _ => by
        by_cases hb : b = a
        · subst hb; exact ⟨_, now⟩
        · exact ⟨o, kept b o hb q⟩,
      fun b xs q => by rw [upd_ne (at_ne e q exo_tup), upd_ne (ne_of_none q free)]; exact q,
      fun b o v q => by rw [upd_ne (at_ne e q exo_frz), upd_ne (ne_of_none q free)]; exact q,
      fun b ps q => ⟨#[], by rw [upd_ne (at_ne e q exo_tbl), upd_ne (ne_of_none q free), q]; simp⟩⟩
  refine h dx _ free other (I.un (t' := tk') un fun b o q => ?_)
  by_cases hb : b = a
  · subst hb
    rw [upd_same] at q
    cases q
    exact exo_ok now
  · rw [upd_ne hb] at q
    by_cases hbd : b = dx
    · subst hbd
      rw [upd_same] at q
      cases q
      exact exd_ok named (relO_put (fs := []) ry fun g => True.intro)
    · rw [upd_ne hbd] at q
      refine (I.hok b o q).stay (fun c v hc z => kept c v ?_ z) (fun c hc => ?_) fun c xs hc => ?_
      · rcases hc with rfl | hc
        · exact hb
        · exact at_ne e hc exo_own
      · rw [upd_ne (at_ne e hc exo_own), upd_ne (ne_of_none hc free)]; exact hc
      · rw [upd_ne (at_ne e hc exo_tup), upd_ne (ne_of_none hc free)]; exact hc
end
/-- self.f = e in an exception's __init__ -/
def tStore1 (K : PySem.W.Frag) (f : Str) (to te : TE) : TS := fun D σ H => te σ H fun y H1 => to σ H1 fun x H2 => ∃ (a C : Addr), x = .ref a ∧ (∃ (B newId initId : String) (tail : List Value), EC K C B newId initId tail) ∧ PySem.W.takerIn K C f = some none ∧
  H2 a = some (exo a C none) ∧ ∀ dx, H2 dx = none → dx ≠ a → D.nx σ (upd (upd H2 dx (exd dx [(f, y)])) a (exo a C (some dx)))
theorem ps_store1 {X : Cx} {o e : Expr} {to te : TE} {f : Str} {p pos : Pos} (ho : PE X o to) (he : PE X e te) (hs : swapsWith e (some (.Attribute o f p)) pos.line X.env = pure false := by rfl) : PS X (.Assign [.Attribute o f p] e pos) (tStore1 X.K f to te) := by
  refine ⟨fun pins s σ H D I h => plainObj_wpAny_Assign_Attribute (thn (he.run pins s σ H _ I h) fun v s1 ⟨y, H1, I1, r1, q1⟩ => thn (ho.run pins s1 σ H1 _ I1 q1) fun u s2 ⟨x, H2, I2, r2, told⟩ => ?_) hs⟩
  obtain ⟨a, C, ex, ⟨B, newId, initId, tail, T⟩, ht, ea, q⟩ := told
  subst ex
  have eu : u = Value.ref a := r2
  subst eu
  exact store1 T I2 ea ht r1 fun dx s' n ne J => ⟨σ, _, J, q dx n ne⟩
end Lamp
set_option Elab.async false
set_option linter.all false
set_option maxRecDepth 100000
set_option maxHeartbeats 4000000
namespace Lamp
open PySem PySem.Spec PyProof.Rows L2
/-- the promise of an __init__ that keeps its one argument under f -/
def spInit (K : PySem.W.Frag) (C : Addr) (f : Str) : Sp := fun vs H Q _ => ∃ (a : Addr) (y : V), vs = [.ref a, y] ∧ (∃ (B newId initId : String) (tail : List Value), EC K C B newId initId tail) ∧ PySem.W.takerIn K C f = some none ∧ H a = some (exo a C none) ∧
  ∀ dx, H dx = none → dx ≠ a → Q .non (upd (upd H dx (exd dx [(f, y)])) a (exo a C (some dx)))
section
variable {P : Program} {w : World} {K : PySem.W.Frag} {mg : Str → Option Value} {base : Heap}
theorem ok_init {fI C : Addr} {fd : FuncData} {st : Stmt} {qual f : Str} {p1 p2 p3 p4 : Pos} (F : Fun K "__init__" qual st fI fd) (S : FnScope ["self", f] ["self", f] (defScope st))
    (hb : defBody st = [.Assign [.Attribute (.Name "self" p1) f p2] (.Name f p3) p4]) (v0 : (defScope st).names.lookup ("self" : Str) = some NameKind.local) (v1 : (defScope st).names.lookup f = some NameKind.local)
    (d1 : (f == ("__debug__" : Str)) = false) (d2 : (f == ("__classdict__" : Str)) = false) : FnOk P w K mg base CX0 1 fI fd ["self", f] (spInit K C f) := by
  refine F.ok S (fun vs H Q E h => ?_) (fun cdv A outer s H vs Q E hr h => ?_)
  · obtain ⟨a, y, rfl, _⟩ := h
    rfl
  · obtain ⟨a, y, rfl, T, ht, ha, q⟩ := h
    rw [hb]
    refine ⟨_, pss_one (ps_store1 (pv 0 rfl (Or.inl v0)) (pv 1 rfl (Or.inl v1) d1 d2)), ?_⟩
    exact ⟨_, rfl, _, rfl, a, C, rfl, T, ht, ha, q⟩
end
/-- C(e), C(f=e): a new exception with the field f -/
def tMkE (C : Addr) (f : Str) (ta : TE) : TE := fun σ H Q => ta σ H fun y H1 => ∀ a dx, H1 a = none → H1 dx = none → dx ≠ a → Q (.ref a) (upd (upd (upd H1 a (exo a C none)) dx (exd dx [(f, y)])) a (exo a C (some dx)))
section
variable {X : Cx} {C fI : Addr} {fd : FuncData} {f x : Str} {B newId initId : String} {tail : List Value} {p pos kpos : Pos} {e : Expr} {ta : TE}
theorem run_mkE {pins : List (Addr × Obj)} {σ : L2.St} {H : Hp} {s : Shared} {Q : VK} {u : Value} {y : V} {us : List Value} {kw : List (Str × Value)} {k : Nat} (T : EC X.K C B newId initId tail) (iC : PySem.W.findIn X.K (.ref C) "__init__" = some (some (.ref fI))) (tI : PySem.W.typeIn X.K (.ref fI) = some (.type "function"))
    (ht : PySem.W.takerIn X.K C f = some none) (F1 : FnOk X.prog X.w X.K X.mg X.base CX0 k fI fd ["self", f] (spInit X.K C f)) (hr : Room (k + 1) X.A)
    (hb : ∀ (s : Shared) (v : Value), X.K.In s.heap → BindsTo s fd ⟨v :: us, kw⟩ [("self", v), (f, u)]) (I : Inv X pins σ H s) (r : RelV y u) (short : us.length ≤ sizeLine)
    (h : ∀ a dx, H a = none → H dx = none → dx ≠ a → Q (.ref a) (upd (upd (upd H a (exo a C none)) dx (exd dx [(f, y)])) a (exo a C (some dx)))) :
    wpAny (model X.prog X.w) X.A (call (.ref C) us kw) (EP X pins σ Q) X.xe s := by
  obtain ⟨nm, N, qn, bs, bm, hdct, sn, sub, ab, col, dd, k0, k1, k2, k3, k5, hC, hT⟩ := PySem.W.excInit_of I.kIn T.made
  obtain ⟨hp, g, dr, tk, os⟩ := s
  have above : hp.objs.size ≤ hp.objs.size + 1 := Nat.le_succ _
  have new : H (hp.objs.size + 1) = none := I.hok.fresh above
  have kept : ∀ b o, hp.get? b = some o → ((hp.push (PySem.W.kdv_tup us)).push (PySem.HandSPX.excO C hp.objs.size)).get? b = some o := fun b o e => Heap.get?_push_of_some _ (Heap.get?_push_of_some _ e)
  have there : ((hp.push (PySem.W.kdv_tup us)).push (PySem.HandSPX.excO C hp.objs.size)).get? (hp.objs.size + 1) = some (PySem.HandSPX.excO C hp.objs.size) := by heap_get
  have I2 : Inv X pins σ (upd H (hp.objs.size + 1) (exo (hp.objs.size + 1) C none)) ⟨(hp.push (PySem.W.kdv_tup us)).push (PySem.HandSPX.excO C hp.objs.size), g, dr, tk, os⟩ :=
    I.laid (t' := tk) (a := hp.objs.size + 1) (o := exo (hp.objs.size + 1) C none) (h' := (hp.push (PySem.W.kdv_tup us)).push (PySem.HandSPX.excO C hp.objs.size)) kept above (exo_ok there)
  have asked : spInit X.K C f [.ref (hp.objs.size + 1), y] (upd H (hp.objs.size + 1) (exo (hp.objs.size + 1) C none)) (fun v H2 => v = .non ∧ Q (.ref (hp.objs.size + 1)) H2) E0 :=
    ⟨_, y, rfl, ⟨B, newId, initId, tail, T⟩, ht, upd_same, fun dx hn ne => ⟨rfl, h _ dx new (by rw [upd_ne ne] at hn; exact hn) ne⟩⟩
  refine wpAny_call (PySem.LampX.excCalled T.F hT hC (PySem.W.looks_findIn I.kIn iC) (fun self => PySem.W.bind_fn I.kIn self tI) short
    (codeAny_mono (F1.run _ X.stack _ _ ⟨Value.ref (hp.objs.size + 1) :: us, kw⟩ [Value.ref (hp.objs.size + 1), u] _ _ E0 ?rm ?ev (hb _ _ I2.kIn) (.cons (show RelV (V.ref _) (Value.ref _) from rfl) (.cons r .nil)) asked) fun res s' told => ?_))
  case rm => exact hr.make C us kw
  case ev => exact I2.env0.make C us kw
  match res, told with
  | .error _, told => exact False.elim told
  | .ok .next, told => exact False.elim told
  | .ok .brk, told => exact False.elim told
  | .ok .cont, told => exact False.elim told
  | .ok (.ret v), told =>
    obtain ⟨z, H', I3, rv, ez, q3⟩ := I2.after told
    subst ez
    exact ⟨rv, ⟨V.ref (hp.objs.size + 1), H', I3, rfl, q3⟩⟩
theorem pe_mkE {k : Nat} (T : EC X.K C B newId initId tail) (iC : PySem.W.findIn X.K (.ref C) "__init__" = some (some (.ref fI))) (tI : PySem.W.typeIn X.K (.ref fI) = some (.type "function")) (ht : PySem.W.takerIn X.K C f = some none)
    (F1 : FnOk X.prog X.w X.K X.mg X.base CX0 k fI fd ["self", f] (spInit X.K C f)) (hr : Room (k + 1) X.A) (hb : ∀ (s : Shared) (v u : Value), X.K.In s.heap → BindsTo s fd ⟨[v, u], []⟩ [("self", v), (f, u)]) (hg : Gl X x) (hm : X.mg x = some (.ref C))
    (ha : PE X e ta) (hs : starEach [e] X.env = (false, eval e X.env) :: starEach [] X.env := by rfl) (hdb : (x == ("__debug__" : Str)) = false := by decide) : PE X (.Call (.Name x p) [e] [] pos) (tMkE C f ta) := by
  refine ⟨fun pins s σ H Q I h => wpAny_Call_Name_kw (ld_glob I hg hm (PySem.W.callWith_K (h₀ := X.base) I.ok.mod.kin T.kp ?_ hs (by rfl)) hdb)⟩
  rw [hs]
  show wpAny _ _ (spliced ((false, eval e X.env) :: backTo pos (starEach [] X.env))) _ _ s
  refine Calls.spliced_cons (thn (ha.run pins s σ H _ I h) fun u s1 ⟨y, H1, I1, r1, q1⟩ => Calls.spliced_nil ⟨I1.kIn, ?_⟩)
  exact run_mkE (us := [u]) (kw := []) T iC tI ht F1 hr (fun s v hk => hb s v u hk) I1 r1 (by show 1 ≤ sizeLine; decide) q1
/-- the same with keywords: their values, one -/
def tMkK (C : Addr) (f : Str) (tk : TA) : TE := fun σ H Q => tk σ H fun zs H1 => ∃ y, zs = [y] ∧ ∀ a dx, H1 a = none → H1 dx = none → dx ≠ a → Q (.ref a) (upd (upd (upd H1 a (exo a C none)) dx (exd dx [(f, y)])) a (exo a C (some dx)))
theorem pe_mkK {k : Nat} {kws : List Keyword} {tk : TA} (T : EC X.K C B newId initId tail) (iC : PySem.W.findIn X.K (.ref C) "__init__" = some (some (.ref fI))) (tI : PySem.W.typeIn X.K (.ref fI) = some (.type "function")) (ht : PySem.W.takerIn X.K C f = some none)
    (F1 : FnOk X.prog X.w X.K X.mg X.base CX0 k fI fd ["self", f] (spInit X.K C f)) (hr : Room (k + 1) X.A) (hb : ∀ (s : Shared) (v u : Value), X.K.In s.heap → BindsTo s fd ⟨[v], [(f, u)]⟩ [("self", v), (f, u)]) (hg : Gl X x) (hm : X.mg x = some (.ref C))
    (hkw : PK X kws tk) (hall : (backToKw pos (keywordEach kws X.env)).all (·.1.isSome) = true := by rfl) (hks : (backToKw pos (keywordEach kws X.env)).filterMap (·.1) = [f] := by rfl) (hdb : (x == ("__debug__" : Str)) = false := by decide)
    (hpl : ((backTo pos (starEach [] X.env)).any (·.1) || (backToKw pos (keywordEach kws X.env)).any (·.1.isNone)) = false := by rfl) : PE X (.Call (.Name x p) [] kws pos) (tMkK C f tk) := by
  refine ⟨fun pins s σ H Q I h => ?_⟩
  refine wpAny_Call_Name_kw (ld_glob I hg hm ?_ hdb)
  refine PySem.W.callWith_KW0 (h₀ := X.base) I.ok.mod.kin T.kp hall (thn (hkw.run pos pins s σ H _ I h) fun ws s2 told => ?_) hpl
  obtain ⟨zs, H2, I2, rz, y, ez, q2⟩ := told
  subst ez
  rw [hks]
  cases rz with
  | @cons _ u _ us r rest =>
    cases rest
    exact ⟨I2.kIn, run_mkE (us := []) (kw := [(f, u)]) T iC tI ht F1 hr (fun s v hk => hb s v u hk) I2 r (Nat.zero_le _) q2⟩
end
/-- C() where the program gives no __init__: a new exception -/
theorem pe_mk0 {X : Cx} {C : Addr} {x : Str} {B newId initId : String} {tail : List Value} {p pos : Pos} (F : ExcBaseFacts B newId initId tail) (q : PySem.W.excIn X.K C tail newId = true) (gC : X.mg x = some (.ref C)) (kC : PySem.W.keepIn X.K (.ref C) = true) (hg : Gl X x)
    (hdb : (x == ("__debug__" : Str)) = false := by decide) : PE X (.Call (.Name x p) [] [] pos) (fun _ H Q => ∀ a, H a = none → Q (.ref a) (upd H a (exo a C none))) := by
  refine ⟨fun pins s σ H Q I h => wpAny_Call_Name_kw (ld_glob I hg gC (PySem.W.callWith_K0 I.kIn kC ?_) hdb)⟩
  show wpAny _ _ (call (.ref C) []) _ _ _
  obtain ⟨bm, N, nm, qn, bs, hdct, sn, sub, ab, col, dd, k0, k1, k2, k3, k5, mN, hC, hN, hni, T⟩ := exc_obj I.kIn q
  obtain ⟨hp, g, dr, tk, os⟩ := s
  refine wpAny_call_exc_subT F T hC hN hni (fun h' a hm => ?_) (by show 0 ≤ sizeLine; exact Nat.zero_le _)
  have new : H a = none := I.hok.gone hm.new
  obtain ⟨t, there, _, _⟩ := hm.there
  exact ⟨.ref a, upd H a (exo a C none), I.laidN (t' := tk) hm.keeps hm.new new (exo_ok there), rfl, h a new⟩
end Lamp
set_option Elab.async false
set_option linter.all false
set_option maxRecDepth 100000
set_option maxHeartbeats 1000000
namespace Lamp
open PySem PySem.Spec PyProof.Rows L2
/-- an exception of the class at C stands at a -/
def XAt (H : Hp) (a C : Addr) : Prop := H a = some (exo a C none) ∨ ∃ dx fs, H a = some (exo a C (some dx)) ∧ H dx = some (exd dx fs)
/-- .. with its fields -/
def XFld (H : Hp) (a C : Addr) (f : Str) (y : V) : Prop := ∃ dx, H a = some (exo a C (some dx)) ∧ H dx = some (exd dx [(f, y)])
theorem XFld.at {H : Hp} {a C : Addr} {f : Str} {y : V} (h : XFld H a C f y) : XAt H a C := by
  obtain ⟨dx, h1, h2⟩ := h
  exact .inr ⟨dx, _, h1, h2⟩
theorem XFld.same {H H' : Hp} {a C : Addr} {f : Str} {y : V} (h : XFld H a C f y) (s : Same H H') : XFld H' a C f y := by
  obtain ⟨dx, h1, h2⟩ := h
  exact ⟨dx, s _ _ h1, s _ _ h2⟩
theorem XAt.same {H H' : Hp} {a C : Addr} (h : XAt H a C) (s : Same H H') : XAt H' a C := by
  rcases h with h | ⟨dx, fs, h1, h2⟩
  · exact .inl (s _ _ h)
  · exact .inr ⟨dx, fs, s _ _ h1, s _ _ h2⟩
theorem xat_inst {X : Cx} {pins : List (Addr × Obj)} {σ : L2.St} {H : Hp} {s : Shared} {a C : Addr} (I : Inv X pins σ H s) (h : XAt H a C) : ∃ ox od, PySem.W.InstAt s.heap a ox C od := by
  rcases h with h | ⟨dx, fs, h1, h2⟩
  · obtain ⟨t, there⟩ := exo_at I.hok h
    exact ⟨_, none, there, rfl, rfl, trivial⟩
  · obtain ⟨t, there⟩ := exo_at I.hok h1
    obtain ⟨mA, ⟨o, _, _, ho, _⟩, _⟩ := exd_at I.hok h2
    exact ⟨_, some o, there, rfl, rfl, ho⟩
/-- what is asked of object's own __class__ -/
structure ClsG (K : PySem.W.Frag) : Prop where
  get : PySem.W.specialIn K (.builtin "object.__class__") "__get__" = some (some (.builtin "getset_descriptor.__get__"))
  tak : PySem.W.takesIn K (.builtin "object.__class__") = some true
/-- isinstance(e, c), e an exception of the program -/
def rIsX (K : PySem.W.Frag) : List V → Hp → VK → Prop := fun xs H Q => ∃ (a C : Addr) (c : V) (u : Value) (b : Bool), xs = [.ref a, c] ∧ XAt H a C ∧ (∃ (B newId initId : String) (tail : List Value), EC K C B newId initId tail) ∧ ClsV c u ∧ PySem.W.kitOne K (.ref C) u = some b ∧ Q (.bl b) H
theorem call_isX {X : Cx} (G : ClsG X.K) : CallR X (.builtin "isinstance") (rIsX X.K) := by
  intro pins s σ H xs us Q I r h
  obtain ⟨a, C, c, cv, b, rfl, hx, ⟨B, newId, initId, tail, T⟩, hc, hk, q⟩ := h
  obtain ⟨u1, u2, rfl, r1, r2⟩ := vals2 r
  have e1 : u1 = Value.ref a := r1
  subst e1
  have e2 := hc.eq r2
  subst e2
  obtain ⟨ox, od, J⟩ := xat_inst I hx
  have isCls : (PySem.W.clsIn X.K C).isSome = true := by
    obtain ⟨cd, hcd, _⟩ := PySem.W.any_some T.hd
    rw [hcd]
    rfl
  exact PySem.W.kia_one (PySem.W.kitx_exc isCls T.ga T.gg T.exC T.cls G.get G.tak T.obj) I.kIn J hk (fun z => nomatch z) fun tk => ⟨.bl b, H, I.tok tk, rfl, q⟩
/-- e.f -/
def tXFld (K : PySem.W.Frag) (f : Str) (te : TE) : TE := fun σ H Q => te σ H fun x H1 => ∃ (a C : Addr) (y : V), x = .ref a ∧ XFld H1 a C f y ∧ (∃ (B newId initId : String) (tail : List Value), EC K C B newId initId tail) ∧ PySem.W.findIn K (.ref C) f = some none ∧ Q y H1
theorem pe_xfld {X : Cx} {e : Expr} {te : TE} {pos : Pos} {f : Str} (he : PE X e te) (hb : attributeBase e f X.env (eval e X.env) = eval e X.env := by rfl) : PE X (.Attribute e f pos) (tXFld X.K f te) := by
  refine ⟨fun pins s σ H Q I h => attr_of hb (thn (he.run pins s σ H _ I h) fun u s1 ⟨x, H1, I1, r1, told⟩ => ?_)⟩
  obtain ⟨a, C, y, ex, ⟨dx, h1, h2⟩, ⟨B, newId, initId, tail, T⟩, hno, q⟩ := told
  subst ex
  have eu : u = Value.ref a := r1
  subst eu
  obtain ⟨t, there⟩ := exo_at I1.hok h1
  obtain ⟨mA, named, rel⟩ := exd_at I1.hok h2
  obtain ⟨od, hod, look⟩ := lookIn_ns named
  have rf := rel f
  rw [lookup_put, if_pos rfl] at rf
  obtain ⟨v, hv, rv⟩ := RelO.some_of (v := y) (o := mA f) rf
  have J : PySem.W.InstAt s1.heap a _ C (some od) := ⟨there, rfl, rfl, hod⟩
  exact HandSPX.exc_get I1.kIn J T.ga T.gg T.exC (PySem.W.findObj_own T.hd hno rfl (by rw [look, hv])) (handed_of rv) ⟨y, H1, I1.tok _, rv, q⟩
end Lamp
set_option Elab.async false
set_option linter.all false
set_option maxRecDepth 100000
set_option maxHeartbeats 1000000
namespace Lamp
open PySem PySem.Spec PyProof.Rows L2
theorem same_of {q : Addr} {H : Hp} {o : HO} (h : H q = none) : Same H (upd H q o) := fun b u e => by rw [upd_ne (ne_of_none e h)]; exact e
theorem same_seqT {K : PySem.W.Frag} {H H' : Hp} {a : Addr} {xs : List V} (e : Same H H') (h : SqT K H a xs) : SqT K H' a xs := by
  rcases h with (h | ⟨o, h⟩) | h
  · exact .inl (.inl (e _ _ h))
  · exact .inl (.inr ⟨o, e _ _ h⟩)
  · exact .inr h
mutual
theorem dp_same {K : PySem.W.Frag} {H H' : Hp} (e : Same H H') : ∀ (d : PyData) (v : V), Dp K H v d → Dp K H' v d
  | .none, _, h => by cases h; exact .non
  | .bool _, _, h => by cases h; exact .bl _
  | .int _, _, h => by cases h; exact .int _
  | .str _, _, h => by cases h; exact .str _
  | .list ds, _, h => by
    cases h with
    | lst hs ha => exact .lst (e.seq hs) (dpAll_same e ds _ ha)
  | .tuple ds, _, h => by
    cases h with
    | tup hs ha => exact .tup (same_seqT e hs) (dpAll_same e ds _ ha)
  | .dict _, _, h => by cases h
theorem dpAll_same {K : PySem.W.Frag} {H H' : Hp} (e : Same H H') : ∀ (ds : List PyData) (vs : List V), DpAll K H vs ds → DpAll K H' vs ds
  | [], _, h => by cases h; exact .nil
  | d :: ds, _, h => by
    cases h with
    | cons h1 h2 => exact .cons (dp_same e d _ h1) (dpAll_same e ds _ h2)
end
theorem dq_same {K : PySem.W.Frag} {H H' : Hp} (e : Same H H') {d : PyData} {v : V} (h : Dq K H v d) : Dq K H' v d := by
  cases h with
  | plain h => exact .plain (dp_same e d v h)
  | dict h1 h2 => exact .dict (e _ _ h1) h2
theorem dpAll_len {K : PySem.W.Frag} {H : Hp} : ∀ {ds : List PyData} {vs : List V}, DpAll K H vs ds → vs.length = ds.length
  | [], _, h => by cases h; rfl
  | d :: ds, _, h => by
    cases h with
    | cons h1 h2 => rw [List.length_cons, List.length_cons, dpAll_len h2]
/-! the drawing list, and all else -/
/-- at p: the drawing list of a case -/
def Pail (H : Hp) (p : Addr) : Prop := ∃ x y z : Int, H p = some (.lst [.int x, .int y, .int z]) ∧ 0 ≤ x ∧ 0 ≤ y ∧ y < 2147483648
/-- all but p stands as it stood -/
def But (p : Addr) (H H' : Hp) : Prop := ∀ b o, b ≠ p → H b = some o → H' b = some o
theorem But.refl (p : Addr) (H : Hp) : But p H H := fun _ _ _ h => h
theorem But.trans {p : Addr} {H H1 H2 : Hp} (a : But p H H1) (b : But p H1 H2) : But p H H2 := fun c o n h => b c o n (a c o n h)
theorem But.of {p : Addr} {H H1 : Hp} (a : Same H H1) : But p H H1 := fun b o _ h => a b o h
theorem But.at {p : Addr} {H : Hp} {o : HO} : But p H (upd H p o) := fun b u n h => by rw [upd_ne n]; exact h
theorem But.new {p q : Addr} {H : Hp} {o : HO} (h : H q = none) : But p H (upd H q o) := fun b u _ e => by
  rw [upd_ne (ne_of_none e h)]
  exact e
theorem Pail.same {H H' : Hp} {p : Addr} (h : Pail H p) (s : Same H H') : Pail H' p := by
  obtain ⟨x, y, z, e, r⟩ := h
  exact ⟨x, y, z, s _ _ e, r⟩
theorem Pail.ne {H : Hp} {p q : Addr} (h : Pail H p) (e : H q = none) : q ≠ p := by
  obtain ⟨x, y, z, hp, _⟩ := h
  intro z
  rw [z, hp] at e
  cases e
theorem But.del {p : Addr} {H H' : Hp} (b : But p H H') : Same (delH H p) (delH H' p) := fun a o h => by
  by_cases e : a = p
  · rw [e, delH_same] at h; cases h
  · rw [delH_ne e] at h ⊢
    exact b a o e h
theorem del_sub {p : Addr} {H : Hp} : Same (delH H p) H := fun a o h => by
  by_cases e : a = p
  · rw [e, delH_same] at h; cases h
  · rw [delH_ne e] at h
    exact h
/-! data made, beside the drawing list at p -/
section
variable (K : PySem.W.Frag) (p : Addr)
def EvP (te : TE) (d : PyData) : Prop := ∀ (σ : L2.St) (H : Hp), Pail H p → ∀ Q : VK, (∀ v H', Same H H' → Dp K (delH H' p) v d → Q v H') → te σ H Q
def EvPs (ta : TA) (ds : List PyData) : Prop := ∀ (σ : L2.St) (H : Hp), Pail H p → ∀ Q : List V → Hp → Prop, (∀ vs H', Same H H' → DpAll K (delH H' p) vs ds → Q vs H') → ta σ H Q
def EvQ (te : TE) (d : PyData) : Prop := ∀ (σ : L2.St) (H : Hp), Pail H p → ∀ Q : VK, (∀ v H', Same H H' → Dq K (delH H' p) v d → Q v H') → te σ H Q
def EvQs (ta : TA) (ds : List PyData) : Prop := ∀ (σ : L2.St) (H : Hp), Pail H p → ∀ Q : List V → Hp → Prop, (∀ vs H', Same H H' → Paired (Dq K (delH H' p)) vs ds → Q vs H') → ta σ H Q
end
section
variable {K : PySem.W.Frag} {p : Addr} {te : TE} {ta : TA} {d : PyData} {ds : List PyData}
theorem evp_non : EvP K p (tC .non) .none := fun σ H _ Q q => q _ H (Same.refl H) .non
theorem evp_bl {b : Bool} : EvP K p (tC (.bl b)) (.bool b) := fun σ H _ Q q => q _ H (Same.refl H) (.bl b)
theorem evp_int {i : Int} : EvP K p (tC (.int i)) (.int i) := fun σ H _ Q q => q _ H (Same.refl H) (.int i)
theorem evp_str {x : Str} : EvP K p (tC (.str x)) (.str x) := fun σ H _ Q q => q _ H (Same.refl H) (.str x)
theorem evp_neg {i : Int} (h : EvP K p te (.int i)) : EvP K p (tUn (rU fun i => .int (-i)) te) (.int (-i)) := fun σ H hp Q q => h σ H hp _ fun v H' s hd => by
  cases hd
  exact ⟨i, rfl, q _ H' s (.int _)⟩
theorem evp_pow {i j : Int} (hc : CPow i j) : EvP K p (tOp (rI CPow fun i j => .int (i ^ j.toNat)) (tC (.int i)) (tC (.int j))) (.int (i ^ j.toNat)) := fun σ H hp Q q => ⟨i, j, rfl, rfl, hc, q _ H (Same.refl H) (.int _)⟩
theorem evps_nil : EvPs K p tNil [] := fun σ H _ Q q => q _ H (Same.refl H) .nil
theorem evps_cons (h1 : EvP K p te d) (h2 : EvPs K p ta ds) : EvPs K p (tCons te ta) (d :: ds) := fun σ H hp Q q => h1 σ H hp _ fun v H1 s1 d1 => h2 σ H1 (hp.same s1) _ fun vs H2 s2 d2 =>
  q _ H2 (s1.trans s2) (.cons (dp_same (But.of s2).del d v d1) d2)
theorem evp_tup (h : EvPs K p ta ds) (hl : ds.length ≤ 100) : EvP K p (tTup ta) (.tuple ds) := fun σ H hp Q q => h σ H hp _ fun vs H1 s1 d1 => by
  have hlen := dpAll_len d1
  refine ⟨Nat.le_of_lt (small1000 (by omega)), fun r hr => ?_⟩
  have ne := (hp.same s1).ne hr
  have s2 : Same H1 (upd H1 r (.tup vs)) := same_of hr
  exact q _ _ (s1.trans s2) (.tup (.inl (.inl (by rw [delH_ne ne, upd_same]))) (dpAll_same (But.of s2).del ds vs d1))
theorem evp_lst (h : EvPs K p ta ds) (hl : ds.length ≤ 100) : EvP K p (tLst ta) (.list ds) := fun σ H hp Q q => h σ H hp _ fun vs H1 s1 d1 => by
  have hlen := dpAll_len d1
  refine ⟨Nat.le_of_lt (small1000 (by omega)), fun r hr => ?_⟩
  have ne := (hp.same s1).ne hr
  have s2 : Same H1 (upd H1 r (.lst vs)) := same_of hr
  exact q _ _ (s1.trans s2) (.lst (.inl (.inl (by rw [delH_ne ne, upd_same]))) (dpAll_same (But.of s2).del ds vs d1))
theorem evq_of (h : EvP K p te d) : EvQ K p te d := fun σ H hp Q q => h σ H hp Q fun v H' s hd => q v H' s (.plain hd)
theorem evq_d0 : EvQ K p tDNewK (.dict []) := fun σ H hp Q q r hr => q _ _ (same_of hr) (.dict (kvs := []) (by rw [delH_ne (hp.ne hr), upd_same]) rfl)
theorem evq_d1 {k : Str} {i : Int} : EvQ K p (tDisp [(tC (.str k), tC (.int i))]) (.dict [(.str k, .int i)]) := fun σ H hp Q q r hr => by
  refine ⟨upd_same, [(Sum.inr k, V.int i)], rfl, (by show 1 ≤ 15; decide), q _ _ (fun b o e => ?_) (.dict (kvs := [(Sum.inr k, V.int i)]) ?_ rfl)⟩
  · rw [upd_ne (ne_of_none e hr), upd_ne (ne_of_none e hr)]; exact e
  · rw [delH_ne (hp.ne hr), upd_same]
    rfl
theorem evqs_nil : EvQs K p tNil [] := fun σ H _ Q q => q _ H (Same.refl H) .nil
theorem paired_same {H H' : Hp} (e : Same H H') {vs : List V} {ds : List PyData} (h : Paired (Dq K H) vs ds) : Paired (Dq K H') vs ds := L2.Paired.mapP h fun _ _ x => dq_same e x
theorem evqs_cons (h1 : EvQ K p te d) (h2 : EvQs K p ta ds) : EvQs K p (tCons te ta) (d :: ds) := fun σ H hp Q q => h1 σ H hp _ fun v H1 s1 d1 => h2 σ H1 (hp.same s1) _ fun vs H2 s2 d2 =>
  q _ H2 (s1.trans s2) (.cons (dq_same (But.of s2).del d1) d2)
theorem paired_app {α β : Type} {R : α → β → Prop} : ∀ {xs ys : List α} {us ws : List β}, Paired R xs us → Paired R ys ws → Paired R (xs ++ ys) (us ++ ws)
  | _, _, _, _, .nil, s => s
  | _, _, _, _, .cons r t, s => .cons r (paired_app t s)
theorem paired_mem {α β : Type} {R : α → β → Prop} : ∀ {xs : List α} {us : List β} {x : α}, Paired R xs us → x ∈ xs → ∃ u, u ∈ us ∧ R x u
  | _, _, _, .nil, h => by cases h
  | _, _, _, .cons r t, h => by
    rcases List.mem_cons.mp h with e | e
    · subst e; exact ⟨_, List.mem_cons_self .., r⟩
    · obtain ⟨u, h1, h2⟩ := paired_mem t e
      exact ⟨u, List.mem_cons_of_mem _ h1, h2⟩
end
/-- what repr shows of it fits -/
def okD (d : PyData) : Bool := d.showable && decide (d.depth ≤ 60) && decide (d.shown.length ≤ sizeLine)
theorem okD_of {d : PyData} (h : okD d = true) : d.showable = true ∧ d.depth ≤ 60 ∧ d.shown.length ≤ sizeLine := by
  unfold okD at h
  simp only [Bool.and_eq_true, decide_eq_true_eq] at h
  exact ⟨h.1.1, h.1.2, h.2⟩
end Lamp
set_option Elab.async false
set_option linter.all false
set_option maxRecDepth 100000
set_option maxHeartbeats 1000000
namespace Lamp
open PySem PySem.Spec PyProof.Rows L2
/-! division by any number but 0; tuples laid by tuple(..) that have no dict of their own; dict(..) of a tuple of pairs; defs called by keywords alone, in the opposite order -/
theorem rd_same {H H' : Hp} {a : Addr} {u : HO} (h : Rd H a u) (e : Same H H') : Rd H' a u := by
  rcases h with h | ⟨o, h⟩
  · exact .inl (e _ _ h)
  · exact .inr ⟨o, e _ _ h⟩
def CDivG (_ j : Int) : Prop := j ≠ 0 ∧ j.natAbs.log2 < 9000
def Bare (H : Hp) (t : Addr) (xs : List V) : Prop := ∃ o : Obj, H t = some (.frz o (.tup xs)) ∧ o.dict = none
theorem Bare.rd {H : Hp} {t : Addr} {xs : List V} (h : Bare H t xs) : Rd H t (.tup xs) := by
  obtain ⟨o, e, _⟩ := h
  exact .inr ⟨o, e⟩
theorem Bare.same {H H' : Hp} {t : Addr} {xs : List V} (h : Bare H t xs) (e : Same H H') : Bare H' t xs := by
  obtain ⟨o, h, d⟩ := h
  exact ⟨o, e _ _ h, d⟩
def rTupB (K : PySem.W.Frag) : List V → Hp → VK → Prop := fun xs H Q => ∃ p ys, xs = [.ref p] ∧ SqL K H p ys ∧ ∀ (l : Addr) (o : Obj), H l = none → o.dict = none → Q (.ref l) (upd H l (.frz o (.tup ys)))
/-- dict(..) of a bare tuple of pairs -/
def rDictT (K : PySem.W.Frag) : List V → Hp → VK → Prop := fun xs H Q => ∃ (a : Addr) (ps : List Addr) (kvs : List (Key × V)), xs = [.ref a] ∧ Bare H a (ps.map V.ref) ∧ Paired (fun p kv => SqT K H p [kV kv.1, kv.2]) ps kvs ∧
  ∀ p, H p = none → Q (.ref p) (upd H p (.dK (mergeK [] kvs)))
section
variable {X : Cx}
theorem op_fdivG : OpR X (binaryOp .FloorDiv) (rI CDivG fun i j => .int (i.fdiv j)) := opI fun i j _ _ _ _ _ hc q => floordiv_int hc.1 q (.inl (PyProof.noPylong_of_log2 hc.2))
theorem call_tupB : CallR X (.type "tuple") (rTupB X.K) := by
  intro pins s σ H xs us Q I r h
  obtain ⟨p, ys, rfl, hq, q⟩ := h
  obtain ⟨u, rfl, rx⟩ := vals1 r
  cases rx
  obtain ⟨its, r', pl, hz⟩ := I.list hq
  have hlen := r'.length
  refine call_tuple_list pl.isList (fun h' kp => ?_) (by simp only [List.size_toArray] <;> omega)
  have I1 : Inv X pins σ H { s with heap := h' } := I.kept (t' := s.toks) kp
  obtain ⟨o, eo⟩ : ∃ o : Obj, o = { cls := .type "tuple", data := .seq its.toArray } := ⟨_, rfl⟩
  have I2 : Inv X pins σ (upd H h'.objs.size (.frz o (.tup ys))) { s with heap := h'.push { cls := .type "tuple", data := .seq its.toArray } } :=
    I1.laid (t' := s.toks) (fun b o e => Heap.get?_push_of_some _ e) (Nat.le_refl _) (show ObjOk X.prog X.w _ _ _ (.frz o (.tup ys)) from ⟨by rw [eo]; exact Heap.get?_push_size _ rfl, hz, its, r', IsTup.new _ _⟩)
  exact ⟨.ref h'.objs.size, _, I2, rfl, q _ o (I1.hok.fresh (Nat.le_refl _)) (by rw [eo])⟩
theorem call_dictT (hcalm : X.calm = true) : CallR X (.type "dict") (rDictT X.K) := by
  intro pins s σ H xs us Q I r h
  obtain ⟨a, ps, kvs, rfl, ⟨o, ho, hd⟩, hp, q⟩ := h
  obtain ⟨u, rfl, rx⟩ := vals1 r
  cases rx
  obtain ⟨hget, hz, its, rv, o2, ho2, hc2, n2, hdat2⟩ := (show ObjOk X.prog X.w H s.heap a (.frz o (.tup (ps.map V.ref))) from I.hok a _ ho)
  rw [hget] at ho2
  cases ho2
  have ei := refs_at rv
  subst ei
  rw [List.length_map] at hz
  obtain ⟨prs, rel, hl, hpr⟩ := pairs_of I hp
  obtain ⟨vs, hvs⟩ : ∃ vs : List (Value × Value), vs.length = prs.length ∧ ∀ (j : Nat) (k v : Value), vs[j]? = some (k, v) → ∃ q : Key × Value, prs[j]? = some q ∧ q.2 = v ∧ keyIs q.1 k = true ∧ ∃ b, ps[j]? = some b ∧ IsTup s.heap b #[k, v] := by
    have all : ∀ j : Nat, ∃ kv : Value × Value, j < prs.length → ∃ q : Key × Value, prs[j]? = some q ∧ q.2 = kv.2 ∧ keyIs q.1 kv.1 = true ∧ ∃ b, ps[j]? = some b ∧ IsTup s.heap b #[kv.1, kv.2] := fun j => by
      by_cases hj : j < prs.length
      · obtain ⟨b, u, e1, e2, e3⟩ := hpr j prs[j] (List.getElem?_eq_getElem hj)
        exact ⟨(u, prs[j].2), fun _ => ⟨prs[j], List.getElem?_eq_getElem hj, rfl, e3, b, e1, e2⟩⟩
      · exact ⟨(.none, .none), fun z => absurd z hj⟩
    refine ⟨(List.range prs.length).map fun j => (all j).choose, by rw [List.length_map, List.length_range], fun j k v e => ?_⟩
    rw [List.getElem?_map] at e
    by_cases hj : j < prs.length
    · rw [List.getElem?_range hj] at e
      have e' : (all j).choose = (k, v) := Option.some.inj e
      have z := (all j).choose_spec hj
      rw [e'] at z
      exact z
    · rw [List.getElem?_eq_none (by rw [List.length_range]; omega)] at e
      cases e
  obtain ⟨hvl, hva⟩ := hvs
  refine PySem.call_dict_pairs (knd := mixKind X.prog X.w) (kvs := prs) (PairArg.tuple a (ps.map Value.ref).toArray (fun j => ps.getD j 0) vs) (I.ok.hd hcalm) ⟨⟨o, n2, hget, hc2, hd, hdat2⟩, by simp [hvl, hl], fun j k v e => ?_⟩ ⟨hvl.symm, fun j k v e => ?_⟩ (by rw [hvl, hl]; exact hz) fun h' tk hd' k => ?_
  · obtain ⟨q, e1, e2, e3, b, eb, et⟩ := hva j k v e
    have eg : ps.getD j 0 = b := by rw [List.getD_eq_getElem?_getD, eb]; rfl
    refine ⟨?_, .inl ?_⟩
    · show (ps.map Value.ref).toArray[j]? = some (Value.ref (ps.getD j 0))
      rw [eg, List.getElem?_toArray, List.getElem?_map, eb]
      rfl
    · show s.heap.IsTuple (ps.getD j 0) #[k, v]
      rw [eg]
      exact et
  · obtain ⟨q, e1, e2, e3, b, eb, et⟩ := hva j k v e
    exact ⟨q.1, by rw [e1, ← e2], e3⟩
  · have hm : (s.heap.objs.size == sysModules) = false := beq_eq_false_iff_ne.mpr (Nat.ne_of_gt I.big)
    have hlen : (mergeK [] kvs).length ≤ sizeLine := by
      refine Nat.le_trans (length_mergeK kvs []) ?_
      rw [List.length_nil, Nat.zero_add, rel.length, hl]
      exact hz
    exact ⟨.ref s.heap.objs.size, upd H s.heap.objs.size (.dK (mergeK [] kvs)), I.laid (t' := tk) (fun b o e => k b o (by simp) e) (Nat.le_refl _) (show ObjOk X.prog X.w _ _ _ (.dK (mergeK [] kvs)) from ⟨hlen, hm, merged [] prs, KV.merge rel .nil, hd'⟩), rfl, q _ (I.hok.fresh (Nat.le_refl _))⟩
end
theorem vals_rev : ∀ {vs : List V} {us : List Value}, Vals vs us → Vals vs.reverse us.reverse
  | _, _, .nil => .nil
  | _, _, .cons r t => by
    rw [List.reverse_cons, List.reverse_cons]
    exact (vals_rev t).append (.cons r .nil)
/-- what is known of a def that is called by keywords alone, in the opposite order -/
structure DrB (P : Program) (w : World) (K : PySem.W.Frag) (mg : Str → Option Value) (base : Heap) (sp : Sp) (x : Str) (ps : List Str) (k : Nat) : Prop where
  ex : ∃ (f : Addr) (fd : FuncData), FnOk P w K mg base CX0 k f fd ps sp ∧ (∀ (s : Shared) (us : List Value), us.length = ps.length → BindsTo s fd ⟨[], ps.reverse.zip us⟩ (ps.zip us.reverse)) ∧ mg x = some (.ref f) ∧ PySem.W.keepIn K (.ref f) = true
def tCallB (sp : Sp) (tk : TA) : TE := fun σ H Q => tk σ H fun zs H1 => sp zs.reverse H1 Q E0
section
variable {X : Cx} {sp : Sp} {x : Str} {ps : List Str} {k j : Nat} {tk : TA} {p pos : Pos} {kws : List Keyword}
theorem pe_drB (Z : DrB X.prog X.w X.K X.mg X.base sp x ps k) (hk : k ≤ j) (hr : Room j X.A) (hg : Gl X x) (hkw : PK X kws tk)
    (hall : (backToKw pos (keywordEach kws X.env)).all (·.1.isSome) = true := by rfl) (hks : (backToKw pos (keywordEach kws X.env)).filterMap (·.1) = ps.reverse := by rfl) (hdb : (x == ("__debug__" : Str)) = false := by decide)
    (hpl : ((backTo pos (starEach [] X.env)).any (·.1) || (backToKw pos (keywordEach kws X.env)).any (·.1.isNone)) = false := by rfl) : PE X (.Call (.Name x p) [] kws pos) (tCallB sp tk) := by
  obtain ⟨f, fd, F, b, m, kp⟩ := Z.ex
  refine ⟨fun pins s σ H Q I h => ?_⟩
  refine wpAny_Call_Name_kw (ld_glob I hg m ?_ hdb)
  refine PySem.W.callWith_KW0 (h₀ := X.base) I.ok.mod.kin kp hall ?_ hpl
  refine thn (hkw.run pos pins s σ H _ I h) fun ws s2 ⟨zs, H2, I2, rz, q⟩ => ⟨I2.kIn, ?_⟩
  rw [hks]
  have r2 := vals_rev rz
  have hl : ws.reverse.length = ps.length := by rw [← r2.length]; exact F.len _ _ _ _ q
  refine wpAny_call (codeAny_mono (F.run X.A X.stack s2 H2 ⟨[], ps.reverse.zip ws⟩ ws.reverse zs.reverse Q E0 (hr.mono hk) I2.env0 (b s2 ws (by rw [← hl, List.length_reverse])) r2 q) fun res s' told => ?_)
  match res, told with
  | .error _, told => exact False.elim told
  | .ok (.ret u), told => exact I2.after told
  | .ok .next, told => exact False.elim told
  | .ok .brk, told => exact False.elim told
  | .ok .cont, told => exact False.elim told
end
end Lamp
set_option Elab.async false
set_option linter.all false
set_option maxRecDepth 100000
namespace Lamp
open PySem PySem.Spec PyProof.Rows L2
def top (i : Nat) : Stmt := PySem.Challenge.pw_lamprounds_k14_rows_of_steps_refused.main.body.getD i (.Pass ⟨0, 0, 0, 0⟩)
abbrev sBegun : Stmt := top 45
abbrev sCast : Stmt := top 46
abbrev sAny : Stmt := top 47
def spBegun (K : PySem.W.Frag) : Sp := fun vs H Q _ => ∃ (a : Addr) (ns : List Int) (t : Int), vs = [.ref a, .int t] ∧ SqL K H a (ns.map V.int) ∧ ns.length ≤ 63 ∧ (∀ z ∈ ns, Builtin.Int.intBits z ≤ 1048576) ∧ 0 ≤ t ∧ t ≤ 100 ∧
  ∀ H' p, Same H H' → H p = none → Pail H' p → Q (.ref p) H'
def spCast : Sp := fun vs H Q _ => ∃ (p : Addr) (m : Int), vs = [.ref p, .int m] ∧ 0 < m ∧ m < 1073741824 ∧ Pail H p ∧ ∀ (r : Int) H', 0 ≤ r → r < m → Pail H' p → But p H H' → Q (.int r) H'
theorem ints_at {ns : List Int} {i : Nat} {y : V} (h : (ns.map V.int)[i]? = some y) : ∃ z, ns[i]? = some z ∧ y = .int z := by
  rw [List.getElem?_map] at h
  cases e : ns[i]? with
  | none => rw [e] at h; cases h
  | some z => rw [e] at h; exact ⟨z, rfl, (Option.some.inj h).symm⟩
theorem cut_ints (ns : List Int) (lo hi : Option Int) : ∃ ms : List Int, cutV (ns.map V.int) lo hi = ms.map V.int := by
  unfold cutV
  exact ⟨_, by rw [← List.map_drop, ← List.map_take]⟩
/-! reading a term without allocation -/
section
variable {σ : L2.St} {H : Hp} {K : PySem.W.Frag} {ta tb : TE} {i j : Int} {x y z : V}
theorem lv_I0 {g : Int → Int → V} : ∀ Q : VK, Q (g i j) H → rI0 g (.int i) (.int j) H Q := fun _ q => ⟨i, j, rfl, rfl, q⟩
theorem lv_I {C : Int → Int → Prop} {g : Int → Int → V} (h : C i j) : ∀ Q : VK, Q (g i j) H → rI C g (.int i) (.int j) H Q := fun _ q => ⟨i, j, rfl, rfl, h, q⟩
theorem lv_ix {p : Addr} {xs : List V} (h : H p = some (.lst xs)) (e : atI xs i = some z) : ∀ Q : VK, Q z H → rIxL K (.ref p) (.int i) H Q := fun _ q => ⟨p, xs, i, z, rfl, rfl, SqL.of h, e, q⟩
theorem lv_int (h : Val ta σ H (.int i)) : Val (tCB (fun xs H Q => (∃ i, xs = [.int i] ∧ Q (.int i) H) ∨ ∃ k, xs = [.bl k] ∧ Q (.int (if k then 1 else 0)) H) (tCons ta tNil)) σ H (.int i) := fun Q q => h _ (Or.inl ⟨i, rfl, q⟩)
theorem lv_ixS {p : Addr} {xs : List V} (h : SqL K H p xs) (e : atI xs i = some z) : ∀ Q : VK, Q z H → rIxL K (.ref p) (.int i) H Q := fun _ q => ⟨p, xs, i, z, rfl, rfl, h, e, q⟩
theorem lv_if {t : TT} {b : Bool} (h : Ans t σ H b) (h1 : b = true → Val ta σ H x) (h2 : b = false → Val tb σ H x) : Val (tIf t ta tb) σ H x := by
  intro Q q
  refine h _ ?_
  cases b with
  | true => exact h1 rfl Q q
  | false => exact h2 rfl Q q
theorem lv_len {p : Addr} {ys : List V} (h : Val ta σ H (.ref p)) (hs : SqL K H p ys) : Val (tCB (fun xs H Q => ∃ p ys, xs = [.ref p] ∧ (SqL K H p ys ∨ SqT K H p ys) ∧ Q (.int ys.length) H) (tCons ta tNil)) σ H (.int ys.length) :=
  fun Q q => h _ ⟨p, ys, rfl, .inl hs, q⟩
theorem lv_abs (h : Val ta σ H (.int i)) : Val (tCB (fun xs H Q => ∃ i, xs = [.int i] ∧ Q (.int (if i < 0 then -i else i)) H) (tCons ta tNil)) σ H (.int (if i < 0 then -i else i)) := fun Q q => h _ ⟨i, rfl, q⟩
theorem lv_lst3 {tc : TE} {D : Ends} (h1 : Val ta σ H x) (h2 : Val tb σ H y) (h3 : Val tc σ H z) (q : ∀ p, H p = none → D.rt (.ref p) (upd H p (.lst [x, y, z]))) : tRet (tLst (tCons ta (tCons tb (tCons tc tNil)))) D σ H :=
  h1 _ (h2 _ (h3 _ ⟨by show 3 ≤ sizeLine; decide, q⟩))
theorem lv_op1 {r : R2} (ha : Val ta σ H x) (hb : Val tb σ H y) (hr : ∀ Q : VK, Q z H → r x y H Q) : Val (tOp r ta tb) σ H z := val_op ha hb hr
end
section
variable {σ : L2.St} {H : Hp} {D : Ends} {te ta tb : TE} {t1 t2 t3 : TS} {c : TT} {v : V} {i : Nat}
theorem sq_no (h : Ans c σ H false) (q : t2 D σ H) : tSeq (tIfS c t1 tNext) t2 D σ H := st_seq (st_no h q)
theorem sq_yes (h : Ans c σ H true) (q : t1 { D with nx := t2 D } σ H) : tSeq (tIfS c t1 t3) t2 D σ H := st_seq (st_yes h q)
theorem sq_set (h : Val te σ H v) (q : t2 D (σ.set i (some v)) H) : tSeq (tAsg te (gName i)) t2 D σ H := st_seq (st_set h q)
theorem sq_setL {p : Addr} {xs : List V} {k : Int} {j : Nat} (h : Val te σ H v) (ha : Val ta σ H (.ref p)) (hb : Val tb σ H (.int k)) (hp : H p = some (.lst xs)) (hj : ixN xs.length k = some j)
    (q : t2 D σ (upd H p (.lst (xs.set j v)))) : tSeq (tAsg te (gSub ta tb rSetL)) t2 D σ H := h _ (ha _ (hb _ ⟨p, xs, k, j, rfl, rfl, hp, hj, q⟩))
theorem sq_for {K : PySem.W.Frag} {g : TG} (P : Addr → Hp → Prop) (h : ∀ Q : VK, (∀ a H1, P a H1 → Q (.ref a) H1) → te σ H Q)
    (k : ∀ a H1, P a H1 → ∃ (xs : List V) (Pv : Nat → L2.St → Hp → Prop), SqL K H1 a xs ∧ Pv 0 σ H1 ∧ (∀ i σ H, i ≤ xs.length → Pv i σ H → SqL K H a xs) ∧ (∀ i x σ H, xs[i]? = some x → Pv i σ H → g x σ H fun σ2 H2 => t1 { D with nx := Pv (i + 1), ct := Pv (i + 1), bk := t2 D } σ2 H2) ∧ ∀ σ H, Pv xs.length σ H → t2 D σ H) :
    tSeq (tFor (iList K te) g t1) t2 D σ H := h _ fun a H1 p => by
  obtain ⟨xs, Pv, h1, h2, h3, h4, h5⟩ := k a H1 p
  exact ⟨a, rfl, ⟨xs, h1⟩, for_list (D := { D with nx := t2 D }) Pv h2 h3 h4 h5⟩
theorem an_gt {x y : Int} {b : Bool} (ha : Val ta σ H (.int x)) (hb : Val tb σ H (.int y)) (e : decide (y < x) = b) : Ans (tTest (tOp (rI0 fun i j => .bl (decide (j < i))) ta tb)) σ H b :=
  ans_cmp ha hb fun Q q => ⟨x, y, rfl, rfl, (show Q (.bl (decide (y < x))) H by rw [e]; exact q)⟩
theorem an_lt {x y : Int} {b : Bool} (ha : Val ta σ H (.int x)) (hb : Val tb σ H (.int y)) (e : decide (x < y) = b) : Ans (tTest (tOp (rI0 fun i j => .bl (decide (i < j))) ta tb)) σ H b :=
  ans_cmp ha hb fun Q q => ⟨x, y, rfl, rfl, (show Q (.bl (decide (x < y))) H by rw [e]; exact q)⟩
theorem an_ge {x y : Int} {b : Bool} (ha : Val ta σ H (.int x)) (hb : Val tb σ H (.int y)) (e : decide (y ≤ x) = b) : Ans (tTest (tOp (rI0 fun i j => .bl (decide (j ≤ i))) ta tb)) σ H b :=
  ans_cmp ha hb fun Q q => ⟨x, y, rfl, rfl, (show Q (.bl (decide (y ≤ x))) H by rw [e]; exact q)⟩
end
theorem mulR {i j : Int} (h : j < 2 ^ 64 ∧ -(2 ^ 64) < j) : CMul i j := .inr ⟨h.2, h.1⟩
theorem mulL {i j : Int} (h : i < 2 ^ 64 ∧ -(2 ^ 64) < i) : CMul i j := .inl ⟨h.2, h.1⟩
local macro_rules | `(tactic| walk_at "lv") => `(tactic| first
  | exact val_var rfl
  | exact val_c
  | (refine' lv_int ?ha; (case ha => walk_at "lv"))
  | (refine' lv_op1 ?ha ?hb ?hr; (case ha => walk_at "lv"); (case hb => walk_at "lv"); (case hr => first | exact fun _ q => ⟨_, _, rfl, rfl, q⟩ | (refine' lv_ix ?hh ?ee; (case hh => assumption); (case ee => rfl)) | exact fun _ q => ⟨_, _, rfl, rfl, mulR ⟨by decide, by decide⟩, q⟩ | exact fun _ q => ⟨_, _, rfl, rfl, mulL ⟨by decide, by decide⟩, q⟩ | exact fun _ q => ⟨_, _, rfl, rfl, (show CDiv _ _ from ⟨by omega, by omega⟩), q⟩ | exact fun _ q => ⟨_, _, rfl, rfl, mulL (by omega), q⟩ | exact fun _ q => ⟨_, _, rfl, rfl, mulR (by omega), q⟩ | exact fun _ q => ⟨_, _, rfl, rfl, (show (0 : Int) < _ by omega), q⟩)))
section
variable {P : Program} {w : World} {K : PySem.W.Frag} {mg : Str → Option Value} {base : Heap}
theorem pyl {x m : Int} (h0 : 0 < m) (h1 : m < 1073741824) : Builtin.divisionGoesByPylong x m = false := by
  have hl : m.natAbs.log2 < 30 := PySem.Flt.log2_lt_of (by decide) (by omega)
  have hm : ¬ ((if (m == 0) = true then 0 else m.natAbs.log2 / 30 + 1) > 300) := by
    split
    · decide
    · omega
  show (decide ((if (m == 0) = true then 0 else m.natAbs.log2 / 30 + 1) > 300) && _) = false
  rw [decide_eq_false hm, Bool.false_and]
theorem scBegun : FnScope ["_law_script", "_law_turn", "_law_own", "_law_state", "_law_cell"] ["_law_script", "_law_turn"] (defScope sBegun) := ⟨rfl, rfl, rfl, by decide +kernel, rfl, by decide +kernel, by decide +kernel⟩
theorem scCast : FnScope ["_law_pail", "_law_many", "_law_figure", "_law_state"] ["_law_pail", "_law_many"] (defScope sCast) := ⟨rfl, rfl, rfl, by decide +kernel, rfl, by decide +kernel, by decide +kernel⟩
theorem ok_cast {f : Addr} {fd : FuncData} {k : Nat} (F : Fun K "_law_cast" "_law_cast" sCast f fd) (mi : mg "int" = none) (md : mg "divmod" = none) : FnOk P w K mg base CX0 (k + 1) f fd ["_law_pail", "_law_many"] spCast := by
  refine F.ok scCast (fun vs H Q E h => ?_) (fun cdv A outer s H vs Q E hr h => ?_)
  · obtain ⟨p, m, rfl, _⟩ := h
    rfl
  · obtain ⟨p, m, rfl, h0, h1, ⟨x, y, z, hp, hx, hy, hy2⟩, q⟩ := h
    refine ⟨_, pss_cons (ps_if (pt_cmpR op_gt (pe_ix ix_list (pv 0) pe_int (fun _ _ => rfl)) pe_int (nomark _))
        (pss_cons (ps_asg (pe_callB call_divmodW (by rfl) md (by decide +kernel) (pa_cons (pe_ix ix_list (pv 0) pe_int (fun _ _ => rfl)) (pa_cons (pv 1) pa_nil)))
            (pg_tup rfl (pgs_cons (pg_sub (pv 0) pe_int set_list) (pgs_cons (pg_name (i := 2) scCast.nd rfl (.inl rfl)) pgs_nil))))
          (pss_one (ps_ret (pv 2)))) pss_nil)
      (pss_cons (ps_asg (pe_op op_add (pe_ix ix_list (pv 0) pe_int (fun _ _ => rfl)) pe_int) (pg_sub (pv 0) pe_int set_list))
      (pss_cons (ps_set (i := 3) scCast.nd rfl (.inl rfl) (pe_op op_mod (pe_callTy call_int1 (by rfl) mi (by decide +kernel) (pa_cons (pe_op op_add (pe_op op_add (pe_op op_mul (pe_ix ix_list (pv 0) pe_int (fun _ _ => rfl)) (pe_op op_add pe_int (pe_op op_mul pe_int (pe_ix ix_list (pv 0) pe_int (fun _ _ => rfl))))) (pe_op op_mul pe_int (pe_ix ix_list (pv 0) pe_int (fun _ _ => rfl)))) pe_int) pa_nil)) pe_int))
      (pss_cons (ps_asg (pe_op op_mod (pe_callTy call_int1 (by rfl) mi (by decide +kernel) (pa_cons (pe_op op_add (pe_op op_add (pe_op op_mul (pv 3) pe_int) (pe_op op_mul pe_int (pe_ix ix_list (pv 0) pe_int (fun _ _ => rfl)))) pe_int) pa_nil)) pe_int) (pg_sub (pv 0) pe_int set_list))
      (pss_one (ps_ret (pe_op op_mod (pe_callTy call_int1 (by rfl) mi (by decide +kernel) (pa_cons (pe_op op_fdiv (pe_ix ix_list (pv 0) pe_int (fun _ _ => rfl)) pe_int) pa_nil)) (pv 1))))))), ?_⟩
    by_cases hx0 : 0 < x
    · refine sq_yes (an_gt (x := x) (by walk_at "lv") val_c (decide_eq_true hx0)) ?_
      refine ⟨.ref p, rfl, p, _, 0, .int x, rfl, rfl, SqL.of hp, rfl, _, rfl, x, m, rfl, ⟨h0, pyl h0 h1⟩, fun t nt => ?_⟩
      have ntp : p ≠ t := ne_of_none hp nt
      refine ⟨t, _, rfl, SqT.of upd_same, rfl, _, _, rfl, ?_⟩
      refine ⟨.ref p, rfl, p, [.int x, .int y, .int z], 0, 0, rfl, rfl, (by rw [upd_ne ntp]; exact hp), rfl, ?_⟩
      refine ⟨_, _, rfl, rfl, ?_⟩
      refine ⟨_, rfl, ?_⟩
      refine q _ _ (Int.emod_nonneg _ (by omega)) (Int.emod_lt_of_pos _ h0) ⟨_, _, _, upd_same, Int.ediv_nonneg hx (by omega), hy, hy2⟩ ?_
      exact (But.new nt).trans But.at
    · refine sq_no (an_gt (x := x) (by walk_at "lv") val_c (decide_eq_false hx0)) ?_
      refine sq_setL (by walk_at "lv") (val_var rfl) val_c hp rfl ?_
      have hp1 : (upd H p (.lst [.int x, .int y, .int (z + 1)])) p = some (.lst [.int x, .int y, .int (z + 1)]) := upd_same
      refine sq_set (by walk_at "lv") ?_
      obtain ⟨Y, hY⟩ : ∃ Y : Int, ((y * (36809 + 2 * (z + 1)) + 5303 * (z + 1) + 7) % 2147483629 * 45413 + 3 * (z + 1) + 1) % 2147483587 = Y := ⟨_, rfl⟩
      refine sq_setL (v := .int Y) (j := 1) ?hv (val_var rfl) val_c hp1 rfl ?_
      case hv =>
        rw [← hY]
        walk_at "lv"
      have hY0 : 0 ≤ Y := by rw [← hY]; exact Int.emod_nonneg _ (by decide)
      have hY1 : Y < 2147483587 := by rw [← hY]; exact Int.emod_lt_of_pos _ (by decide)
      have hp2 : (upd (upd H p (.lst [.int x, .int y, .int (z + 1)])) p (.lst [.int x, .int Y, .int (z + 1)])) p = some (.lst [.int x, .int Y, .int (z + 1)]) := upd_same
      refine st_ret (v := .int (Y / 256 % m)) ?_ ?_
      · walk_at "lv"
      · exact q _ _ (Int.emod_nonneg _ (by omega)) (Int.emod_lt_of_pos _ h0) ⟨_, _, _, upd_same, hx, hY0, by omega⟩ (But.at.trans But.at)
theorem ok_begun {f : Addr} {fd : FuncData} {k : Nat} (F : Fun K "_law_begun" "_law_begun" sBegun f fd) (mi : mg "int" = none) (ml : mg "len" = none) (ma : mg "abs" = none) : FnOk P w K mg base CX0 (k + 1) f fd ["_law_script", "_law_turn"] (spBegun K) := by
  refine F.ok scBegun (fun vs H Q E h => ?_) (fun cdv A outer s H vs Q E hr h => ?_)
  · obtain ⟨a, ns, t, rfl, _⟩ := h
    rfl
  · obtain ⟨a, ns, t, rfl, hS, hlen, hbits, ht0, ht1, q⟩ := h
    refine ⟨_, pss_cons (ps_set (i := 2) scBegun.nd rfl (.inl rfl) (pe_ifExp (pt_cmpR op_lt (pv 1) (pe_callB call_len_seq (by rfl) ml PySem.boot_len (pa_cons (pv 0) pa_nil)) (nomark _)) (pe_ix ix_list (pv 0) (pv 1) (fun _ _ => rfl)) pe_int))
      (pss_cons (ps_set (i := 3) scBegun.nd rfl (.inl rfl) (pe_op op_add pe_int (pe_op op_mul pe_int (pv 1))))
      (pss_cons (ps_for PassesOwn.never rfl (pi_list (pe_slice sl_list (pv 0) po_none (po_some pe_int))) (pg_name (i := 4) scBegun.nd rfl (.inl rfl))
        (pss_one (ps_set (i := 3) scBegun.nd rfl (.inl rfl) (pe_op op_mod (pe_callTy call_int1 (by rfl) mi (by decide +kernel) (pa_cons (pe_op op_add (pe_op op_add (pe_op op_mul (pv 3) pe_int) (pe_op op_mul (pv 4) pe_int)) pe_int) pa_nil)) pe_int))))
      (pss_one (ps_ret (pe_lst (pa_cons (pe_ifExp (PW.pt (pw_or (pt_cmpR op_lt (pv 2) pe_int (nomark _)) (pw_or1 (pt_cmpR op_ge (pv 2) (pe_op op_pow pe_int pe_int) (nomark _))))) (pe_callB call_abs (by rfl) ma (by decide +kernel) (pa_cons (pv 2) pa_nil)) pe_int)
        (pa_cons (pe_op op_mod (pe_callTy call_int1 (by rfl) mi (by decide +kernel) (pa_cons (pe_op op_add (pe_op op_add (pe_op op_mul (pv 3) pe_int) (pe_op op_mulX (pv 2) (pv 2))) (pe_op op_mul pe_int (pv 1))) pa_nil)) pe_int)
          (pa_cons pe_int pa_nil)))))))), ?_⟩
    -- own
    have hown : ∃ own : Int, Builtin.Int.intBits own ≤ 1048576 ∧ ∀ hlt : Bool, decide (t < (ns.length : Int)) = hlt → (hlt = true → atI (ns.map V.int) t = some (.int own)) ∧ (hlt = false → own = 0) := by
      by_cases hl : t < (ns.length : Int)
      · have hj : t.toNat < ns.length := by omega
        refine ⟨ns[t.toNat], hbits _ (List.getElem_mem hj), fun b hb => ⟨fun _ => ?_, fun e => ?_⟩⟩
        · exact L2.at_of (j := t.toNat) (by omega) (by rw [List.getElem?_map, List.getElem?_eq_getElem hj]; rfl)
        · rw [decide_eq_true hl] at hb
          rw [e] at hb
          cases hb
      · refine ⟨0, by decide, fun b hb => ⟨fun e => ?_, fun _ => rfl⟩⟩
        rw [decide_eq_false hl] at hb
        rw [e] at hb
        cases hb
    obtain ⟨own, hob, how⟩ := hown
    obtain ⟨b, hb⟩ : ∃ b, decide (t < (ns.length : Int)) = b := ⟨_, rfl⟩
    have how := how b hb
    refine sq_set (v := .int own) (lv_if (b := b) (an_lt (val_var rfl) (lv_len (val_var rfl) hS) (by rw [List.length_map]; exact hb)) (fun e => val_op (val_var rfl) (val_var rfl) (lv_ixS hS (how.1 e))) (fun e => by rw [how.2 e]; exact val_c)) ?_
    refine sq_set (by walk_at "lv") ?_
    -- the loop
    refine sq_for (fun c H1 => H c = none ∧ H1 = upd H c (.lst (cutV (ns.map V.int) none (some 6)))) (fun Q q => ⟨.ref a, rfl, 6, rfl, a, ns.map V.int, rfl, hS, fun c nc => q c _ ⟨nc, rfl⟩⟩) ?_
    rintro c H1 ⟨nc, rfl⟩
    obtain ⟨ms, hms⟩ := cut_ints ns none (some 6)
    have sm : Same H (upd H c (.lst (cutV (ns.map V.int) none (some 6)))) := fun b o e => by rw [upd_ne (ne_of_none e nc)]; exact e
    rw [hms] at sm ⊢
    refine ⟨ms.map V.int, fun i σ H' => ∃ (st : Int) (v4 : Option V), σ = [some (.ref a), some (.int t), some (.int own), some (.int st), v4] ∧ 0 ≤ st ∧ st < 2147483648 ∧ H' = upd H c (.lst (ms.map V.int)), SqL.of upd_same,
      ⟨60013 + 7727 * t, none, rfl, by omega, by omega, rfl⟩, (fun i σ H' _ ⟨_, _, _, _, _, e⟩ => by rw [e]; exact SqL.of upd_same), ?_, ?_⟩
    · rintro i y σ H' hi ⟨st, v4, rfl, hs0, hs1, rfl⟩
      obtain ⟨z, hz, rfl⟩ := ints_at hi
      show tAsg _ _ _ _ _
      refine st_set (v := .int ((st * 30269 + z * 7 + 13) % 2147483629)) (by walk_at "lv") ?_
      exact ⟨_, _, rfl, Int.emod_nonneg _ (by decide), Int.lt_of_lt_of_le (Int.emod_lt_of_pos _ (by decide)) (by decide), rfl⟩
    · rintro σ H' ⟨st, v4, rfl, hs0, hs1, rfl⟩
      have hX : ∃ X : Int, 0 ≤ X ∧ ((own < 0 ∧ X = -own) ∨ (¬ own < 0 ∧ (10 : Int) ^ 18 ≤ own ∧ X = own) ∨ (¬ own < 0 ∧ ¬ (10 : Int) ^ 18 ≤ own ∧ X = 0)) := by
        by_cases h1 : own < 0
        · exact ⟨-own, by omega, .inl ⟨h1, rfl⟩⟩
        · by_cases h2 : (10 : Int) ^ 18 ≤ own
          · exact ⟨own, by omega, .inr (.inl ⟨h1, h2, rfl⟩)⟩
          · exact ⟨0, by omega, .inr (.inr ⟨h1, h2, rfl⟩)⟩
      obtain ⟨X, hX0, hX⟩ := hX
      refine lv_lst3 (x := .int X) (y := .int ((st * 53 + own * own + 17 * t) % 2147483629)) (z := .int 0) ?_ ?_ val_c ?_
      · rcases hX with ⟨h1, e⟩ | ⟨h1, h2, e⟩ | ⟨h1, h2, e⟩
        · refine lv_if (b := true) (ans_or1 (an_lt (val_var rfl) val_c (decide_eq_true h1))) (fun _ => ?_) (fun z => Bool.noConfusion z)
          have e2 : (if own < 0 then -own else own) = X := by rw [if_pos h1, e]
          rw [← e2]
          exact lv_abs (val_var rfl)
        · refine lv_if (b := true) (ans_or (an_lt (val_var rfl) val_c (decide_eq_false h1)) (an_ge (y := 10 ^ 18) (val_var rfl) ?_ (decide_eq_true h2))) (fun _ => ?_) (fun z => Bool.noConfusion z)
          · exact val_op val_c val_c fun _ q => ⟨_, _, rfl, rfl, ⟨by decide, by decide, by decide⟩, q⟩
          · have e2 : (if own < 0 then -own else own) = X := by rw [if_neg h1, e]
            rw [← e2]
            exact lv_abs (val_var rfl)
        · refine lv_if (b := false) (ans_or (an_lt (val_var rfl) val_c (decide_eq_false h1)) (an_ge (y := 10 ^ 18) (val_var rfl) ?_ (decide_eq_false h2))) (fun z => Bool.noConfusion z) (fun _ => ?_)
          · exact val_op val_c val_c fun _ q => ⟨_, _, rfl, rfl, ⟨by decide, by decide, by decide⟩, q⟩
          · rw [e]
            exact val_c
      · refine val_op (lv_int (val_op (val_op (by walk_at "lv") (val_op (val_var rfl) (val_var rfl) (fun _ q => ⟨_, _, rfl, rfl, (show (Builtin.Int.intBits own : Int) + (Builtin.Int.intBits own : Int) ≤ 134217728 by omega), q⟩)) (fun _ q => ⟨_, _, rfl, rfl, q⟩)) (by walk_at "lv") (fun _ q => ⟨_, _, rfl, rfl, q⟩))) val_c (fun _ q => ⟨_, _, rfl, rfl, (show (0 : Int) < _ by decide), q⟩)
      · intro p np
        refine q _ p (fun b o e => ?_) (sm.free np) ⟨_, _, _, upd_same, hX0, Int.emod_nonneg _ (by decide), Int.lt_of_lt_of_le (Int.emod_lt_of_pos _ (by decide)) (by decide)⟩
        rw [upd_ne (ne_of_none (sm b o e) np)]
        exact sm b o e
end
def spAny : Sp := fun vs H Q _ => ∃ (p l : Addr) (xs : List V), vs = [.ref p, .ref l] ∧ l ≠ p ∧ H l = some (.lst xs) ∧ 0 < xs.length ∧ xs.length < 1000000 ∧ Pail H p ∧ ∀ (v : V) H', v ∈ xs → Pail H' p → But p H H' → Q v H'
section
variable {P : Program} {w : World} {K : PySem.W.Frag} {mg : Str → Option Value} {base : Heap}
theorem scAny : FnScope ["_law_pail", "_law_some_here"] ["_law_pail", "_law_some_here"] (defScope sAny) := ⟨rfl, rfl, rfl, by decide +kernel, rfl, by decide +kernel, by decide +kernel⟩
theorem ok_any {f fC : Addr} {fd fdC : FuncData} {k : Nat} (F : Fun K "_law_any_of" "_law_any_of" sAny f fd) (G : FnOk P w K mg base CX0 k fC fdC ["_law_pail", "_law_many"] spCast) (bC : Binds K fdC ["_law_pail", "_law_many"] []) (mC : mg "_law_cast" = some (.ref fC)) (kC : PySem.W.keepIn K (.ref fC) = true) (ml : mg "len" = none) :
    FnOk P w K mg base CX0 (k + 1) f fd ["_law_pail", "_law_some_here"] spAny := by
  refine F.ok scAny (fun vs H Q E h => ?_) (fun cdv A outer s H vs Q E hr h => ?_)
  · obtain ⟨p, l, xs, rfl, _⟩ := h
    rfl
  · obtain ⟨p, l, xs, rfl, hne, hl, h0, h1, hp, q⟩ := h
    refine ⟨_, pss_one (ps_ret (pe_ix ix_list (pv 1) (pe_call G hr rfl mC kC bC .nil pass0 (pa_cons (pv 0) (pa_cons (pe_callB call_len_seq (by rfl) ml PySem.boot_len (pa_cons (pv 1) pa_nil)) pa_nil))) (fun _ _ => rfl))), ?_⟩
    refine ⟨_, rfl, _, rfl, _, rfl, l, xs, rfl, .inl (SqL.of hl), p, (xs.length : Int), rfl, by omega, by omega, hp, fun r H' r0 r1 hp' bt => ?_⟩
    obtain ⟨j, ej⟩ : ∃ j : Nat, r = (j : Int) := ⟨r.toNat, by omega⟩
    have hj : j < xs.length := by omega
    have hl' : H' l = some (.lst xs) := bt l _ hne hl
    exact ⟨l, xs, r, xs[j], rfl, rfl, SqL.of hl', L2.at_of ej (List.getElem?_eq_getElem hj), q _ _ (List.getElem_mem hj) hp' bt⟩
end
end Lamp
set_option Elab.async false
set_option linter.all false
set_option maxRecDepth 100000
set_option maxHeartbeats 1000000
namespace Lamp
open PySem PySem.Spec PyProof.Rows L2
/-- all that the walk asks of an exception class whose __init__ keeps f -/
structure XC (P : Program) (w : World) (K : PySem.W.Frag) (mg : Str → Option Value) (C : Addr) (x f : Str) : Prop where
  T : ∃ (B newId initId : String) (tail : List Value), EC K C B newId initId tail
  hm : mg x = some (.ref C)
  nf : PySem.W.findIn K (.ref C) f = some none
  made : ∃ (fI : Addr) (fd : FuncData), PySem.W.findIn K (.ref C) "__init__" = some (some (.ref fI)) ∧ PySem.W.typeIn K (.ref fI) = some (.type "function") ∧ PySem.W.takerIn K C f = some none ∧
    (∀ base : Heap, FnOk P w K mg base CX0 1 fI fd ["self", f] (spInit K C f)) ∧ (∀ (s : Shared) (v u : Value), K.In s.heap → BindsTo s fd ⟨[v, u], []⟩ [("self", v), (f, u)]) ∧ (∀ (s : Shared) (v u : Value), K.In s.heap → BindsTo s fd ⟨[v], [(f, u)]⟩ [("self", v), (f, u)])
/-- .. that has no __init__ of the program -/
structure XN (K : PySem.W.Frag) (mg : Str → Option Value) (C : Addr) (x : Str) : Prop where
  T : ∃ (B newId initId : String) (tail : List Value), EC K C B newId initId tail ∧ PySem.W.excIn K C tail newId = true
  hm : mg x = some (.ref C)
section
variable {X : Cx} {C : Addr} {x f : Str} {p pos : Pos} {e : Expr} {ta : TE}
theorem pe_xc (Z : XC X.prog X.w X.K X.mg C x f) (hr : Room 2 X.A) (hg : Gl X x) (ha : PE X e ta) (hs : starEach [e] X.env = (false, eval e X.env) :: starEach [] X.env := by rfl) (hdb : (x == ("__debug__" : Str)) = false := by decide) :
    PE X (.Call (.Name x p) [e] [] pos) (tMkE C f ta) := by
  obtain ⟨fI, fd, h1, h2, h3, h4, h5, _⟩ := Z.made
  obtain ⟨B, newId, initId, tail, T⟩ := Z.T
  exact pe_mkE T h1 h2 h3 (h4 _) hr h5 hg Z.hm ha hs hdb
theorem pe_xk {kws : List Keyword} {tk : TA} (Z : XC X.prog X.w X.K X.mg C x f) (hr : Room 2 X.A) (hg : Gl X x) (hkw : PK X kws tk) (hall : (backToKw pos (keywordEach kws X.env)).all (·.1.isSome) = true := by rfl) (hks : (backToKw pos (keywordEach kws X.env)).filterMap (·.1) = [f] := by rfl)
    (hdb : (x == ("__debug__" : Str)) = false := by decide) (hpl : ((backTo pos (starEach [] X.env)).any (·.1) || (backToKw pos (keywordEach kws X.env)).any (·.1.isNone)) = false := by rfl) : PE X (.Call (.Name x p) [] kws pos) (tMkK C f tk) := by
  obtain ⟨fI, fd, h1, h2, h3, h4, _, h6⟩ := Z.made
  obtain ⟨B, newId, initId, tail, T⟩ := Z.T
  exact pe_mkK T h1 h2 h3 (h4 _) hr h6 hg Z.hm hkw hall hks hdb hpl
/-- C() -/
def tMkN (C : Addr) : TE := fun _ H Q => ∀ a, H a = none → Q (.ref a) (upd H a (exo a C none))
theorem pe_xn (Z : XN X.K X.mg C x) (hg : Gl X x) (hdb : (x == ("__debug__" : Str)) = false := by decide) : PE X (.Call (.Name x p) [] [] pos) (tMkN C) := by
  obtain ⟨B, newId, initId, tail, T, q⟩ := Z.T
  exact pe_mk0 T.F q Z.hm T.kp hg hdb
end
/-! rows of exceptions made -/
/-- a class with the field that its exceptions have -/
abbrev XSpec := Addr × Option Str
def XHas (H : Hp) (y : V) (a : Addr) (s : XSpec) : Prop := match s.2 with
  | some f => XFld H a s.1 f y
  | none => XAt H a s.1
theorem XHas.same {H H' : Hp} {y : V} {a : Addr} {s : XSpec} (h : XHas H y a s) (e : Same H H') : XHas H' y a s := by
  obtain ⟨C, f⟩ := s
  cases f with
  | none => exact XAt.same h e
  | some f => exact XFld.same h e
theorem XHas.at {H : Hp} {y : V} {a : Addr} {s : XSpec} (h : XHas H y a s) : XAt H a s.1 := by
  obtain ⟨C, f⟩ := s
  cases f with
  | none => exact h
  | some f => exact XFld.at h
def EvX (y : V) (te : TE) (σ : L2.St) (s : XSpec) : Prop := ∀ (H : Hp) (Q : VK), (∀ a H', Same H H' → XHas H' y a s → Q (.ref a) H') → te σ H Q
def EvXs (y : V) (ta : TA) (σ : L2.St) (ss : List XSpec) : Prop := ∀ (H : Hp) (Q : List V → Hp → Prop), (∀ (as : List Addr) H', Same H H' → Paired (XHas H' y) as ss → Q (as.map V.ref) H') → ta σ H Q
section
variable {y : V} {te : TE} {ta : TA} {σ : L2.St} {s : XSpec} {ss : List XSpec} {C : Addr} {f : Str}
theorem made_same {H : Hp} {a dx : Addr} (h1 : H a = none) (h2 : H dx = none) (ne : dx ≠ a) : Same H (upd (upd (upd H a (exo a C none)) dx (exd dx [(f, y)])) a (exo a C (some dx))) := fun b o e => by
  rw [upd_ne (ne_of_none e h1), upd_ne (ne_of_none e h2), upd_ne (ne_of_none e h1)]
  exact e
theorem made_has {H : Hp} {a dx : Addr} (ne : dx ≠ a) : XFld (upd (upd (upd H a (exo a C none)) dx (exd dx [(f, y)])) a (exo a C (some dx))) a C f y :=
  ⟨dx, upd_same, by rw [upd_ne ne, upd_same]⟩
theorem evx_e {i : Nat} (h : σ[i]? = some (some y)) : EvX y (tMkE C f (tVar i)) σ (C, some f) := fun H Q q => ⟨y, h, fun a dx h1 h2 ne => q a _ (made_same h1 h2 ne) (made_has ne)⟩
theorem evx_k {i : Nat} (h : σ[i]? = some (some y)) : EvX y (tMkK C f (tCons (tVar i) tNil)) σ (C, some f) := fun H Q q => ⟨y, h, y, rfl, fun a dx h1 h2 ne => q a _ (made_same h1 h2 ne) (made_has ne)⟩
theorem evx_n : EvX y (tMkN C) σ (C, none) := fun H Q q a h => q a _ (same_of h) (.inl upd_same)
theorem evxs_nil : EvXs y tNil σ [] := fun H Q q => q [] H (Same.refl H) .nil
theorem evxs_cons (h1 : EvX y te σ s) (h2 : EvXs y ta σ ss) : EvXs y (tCons te ta) σ (s :: ss) := fun H Q q => h1 H _ fun a H1 s1 x1 => h2 H1 _ fun as H2 s2 x2 => q (a :: as) H2 (s1.trans s2) (.cons (x1.same s2) x2)
theorem xs_same {H H' : Hp} (e : Same H H') {as : List Addr} (h : Paired (XHas H y) as ss) : Paired (XHas H' y) as ss := L2.Paired.mapP h fun _ _ x => x.same e
variable {t2 : TS} {D : Ends} {H : Hp} {i : Nat} {ss0 : List XSpec}
theorem sq_lstX (h : EvXs y ta σ ss) (hl : ss.length ≤ 100) (k : ∀ l (as : List Addr) H', H' l = some (.lst (as.map V.ref)) → Same H H' → Paired (XHas H' y) as ss → t2 D (σ.set i (some (.ref l))) H') : tSeq (tAsg (tLst ta) (gName i)) t2 D σ H :=
  h H _ fun as H1 s1 x1 => by
    have hlen := Paired.length x1
    refine ⟨Nat.le_of_lt (small1000 (by rw [List.length_map]; omega)), fun r hr => ?_⟩
    exact k r as _ upd_same (s1.trans (same_of hr)) (xs_same (same_of hr) x1)
theorem cat_X {as0 : List Addr} {l0 : Addr} {Q : VK} (hx : σ[i]? = some (some (.ref l0))) (h0 : H l0 = some (.lst (as0.map V.ref))) (x0 : Paired (XHas H y) as0 ss0) (h : EvXs y ta σ ss) (hl : ss.length ≤ 100) (hl0 : ss0.length ≤ 100)
    (k : ∀ l (as : List Addr) H', H' l = some (.lst (as.map V.ref)) → Same H H' → Paired (XHas H' y) as (ss0 ++ ss) → Q (.ref l) H') : tOp rCat (tVar i) (tLst ta) σ H Q := by
  refine ⟨_, hx, h H _ fun as H1 s1 x1 => ?_⟩
  have hlen := Paired.length x1
  have hlen0 := Paired.length x0
  refine ⟨Nat.le_of_lt (small1000 (by rw [List.length_map]; omega)), fun r hr => ?_⟩
  have s2 : Same H1 (upd H1 r (.lst (as.map V.ref))) := same_of hr
  refine ⟨l0, r, as0.map V.ref, as.map V.ref, rfl, rfl, s2 _ _ (s1 _ _ h0), upd_same, Nat.le_of_lt (small1000 (by rw [List.length_map, List.length_map]; omega)), fun r2 hr2 => ?_⟩
  have s3 : Same (upd H1 r (.lst (as.map V.ref))) (upd (upd H1 r (.lst (as.map V.ref))) r2 (.lst (as0.map V.ref ++ as.map V.ref))) := same_of hr2
  exact k r2 (as0 ++ as) _ (by rw [List.map_append, upd_same]) ((s1.trans s2).trans s3) (paired_app (xs_same ((s1.trans s2).trans s3) x0) (xs_same (s2.trans s3) x1))
theorem sq_catX {as0 : List Addr} {l0 : Addr} (hx : σ[i]? = some (some (.ref l0))) (h0 : H l0 = some (.lst (as0.map V.ref))) (x0 : Paired (XHas H y) as0 ss0) (h : EvXs y ta σ ss) (hl : ss.length ≤ 100) (hl0 : ss0.length ≤ 100)
    (k : ∀ l (as : List Addr) H', H' l = some (.lst (as.map V.ref)) → Same H H' → Paired (XHas H' y) as (ss0 ++ ss) → t2 D (σ.set i (some (.ref l))) H') : tSeq (tAsg (tOp rCat (tVar i) (tLst ta)) (gName i)) t2 D σ H := cat_X hx h0 x0 h hl hl0 k
theorem st_catX {as0 : List Addr} {l0 : Addr} (hx : σ[i]? = some (some (.ref l0))) (h0 : H l0 = some (.lst (as0.map V.ref))) (x0 : Paired (XHas H y) as0 ss0) (h : EvXs y ta σ ss) (hl : ss.length ≤ 100) (hl0 : ss0.length ≤ 100)
    (k : ∀ l (as : List Addr) H', H' l = some (.lst (as.map V.ref)) → Same H H' → Paired (XHas H' y) as (ss0 ++ ss) → D.rt (.ref l) H') : tRet (tOp rCat (tVar i) (tLst ta)) D σ H := cat_X hx h0 x0 h hl hl0 k
end
end Lamp
set_option Elab.async false
set_option linter.all false
set_option maxRecDepth 100000
set_option maxHeartbeats 1000000
namespace Lamp
open PySem PySem.Spec PyProof.Rows L2
/-! argument lists that make nothing -/
def VA (ta : TA) (σ : L2.St) (H : Hp) (vs : List V) : Prop := ∀ Q : List V → Hp → Prop, Q vs H → ta σ H Q
section
variable {K : PySem.W.Frag} {te : TE} {ta : TA} {σ : L2.St} {H : Hp} {v : V} {vs vs0 : List V} {t2 : TS} {D : Ends} {i : Nat} {l0 : Addr}
theorem va_nil : VA tNil σ H [] := fun Q q => q
theorem va_cons (h1 : Val te σ H v) (h2 : VA ta σ H vs) : VA (tCons te ta) σ H (v :: vs) := fun Q q => h1 _ (h2 _ q)
theorem sq_lstV (h : VA ta σ H vs) (hl : vs.length ≤ 100) (k : ∀ l H', H' l = some (.lst vs) → Same H H' → t2 D (σ.set i (some (.ref l))) H') : tSeq (tAsg (tLst ta) (gName i)) t2 D σ H :=
  h _ ⟨Nat.le_of_lt (small1000 (by omega)), fun r hr => k r _ upd_same (same_of hr)⟩
theorem cat_V {Q : VK} (hx : σ[i]? = some (some (.ref l0))) (h0 : H l0 = some (.lst vs0)) (h : VA ta σ H vs) (hl : vs.length ≤ 100) (hl0 : vs0.length ≤ 100)
    (k : ∀ l H', H' l = some (.lst (vs0 ++ vs)) → Same H H' → Q (.ref l) H') : tOp rCat (tVar i) (tLst ta) σ H Q := by
  refine ⟨_, hx, h _ ⟨Nat.le_of_lt (small1000 (by omega)), fun r hr => ?_⟩⟩
  have s2 : Same H (upd H r (.lst vs)) := same_of hr
  exact ⟨l0, r, vs0, vs, rfl, rfl, s2 _ _ h0, upd_same, Nat.le_of_lt (small1000 (by omega)), fun r2 hr2 => k r2 _ upd_same (s2.trans (same_of hr2))⟩
theorem sq_catV (hx : σ[i]? = some (some (.ref l0))) (h0 : H l0 = some (.lst vs0)) (h : VA ta σ H vs) (hl : vs.length ≤ 100) (hl0 : vs0.length ≤ 100)
    (k : ∀ l H', H' l = some (.lst (vs0 ++ vs)) → Same H H' → t2 D (σ.set i (some (.ref l))) H') : tSeq (tAsg (tOp rCat (tVar i) (tLst ta)) (gName i)) t2 D σ H := cat_V hx h0 h hl hl0 k
theorem st_catV (hx : σ[i]? = some (some (.ref l0))) (h0 : H l0 = some (.lst vs0)) (h : VA ta σ H vs) (hl : vs.length ≤ 100) (hl0 : vs0.length ≤ 100)
    (k : ∀ l H', H' l = some (.lst (vs0 ++ vs)) → Same H H' → D.rt (.ref l) H') : tRet (tOp rCat (tVar i) (tLst ta)) D σ H := cat_V hx h0 h hl hl0 k
theorem v_isX {a C D' : Addr} {b : Bool} (h : σ[i]? = some (some (.ref a))) (hx : XAt H a C) (T : ∃ (B newId initId : String) (tail : List Value), EC K C B newId initId tail) (hk : PySem.W.kitOne K (.ref C) (.ref D') = some b) :
    Val (tCB (rIsX K) (tCons (tVar i) (tCons (tC (.ref D')) tNil))) σ H (.bl b) := fun Q q => ⟨_, h, a, C, _, _, b, rfl, hx, T, .own D', hk, q⟩
theorem v_isT {a C : Addr} {n : String} {b : Bool} (h : σ[i]? = some (some (.ref a))) (hx : XAt H a C) (T : ∃ (B newId initId : String) (tail : List Value), EC K C B newId initId tail) (hk : PySem.W.kitOne K (.ref C) (.type n) = some b) :
    Val (tCB (rIsX K) (tCons (tVar i) (tCons (tC (.ty n)) tNil))) σ H (.bl b) := fun Q q => ⟨_, h, a, C, _, _, b, rfl, hx, T, .ty n, hk, q⟩
end
end Lamp
set_option Elab.async false
set_option linter.all false
set_option maxRecDepth 100000
set_option maxHeartbeats 1000000
namespace Lamp
open PySem PySem.Spec PyProof.Rows L2
theorem But.step {p : Addr} {H H1 H2 : Hp} (a : But p H H1) (b : But p H1 H2) : But p H H2 := a.trans b
def big : Int := 10 ^ 39
section
variable {σ : L2.St} {H : Hp} {D : Ends} {t1 t2 : TS} {j : Nat}
theorem sq_forRn {n : Nat} (hn : n ≤ 1000) (Pv : Nat → L2.St → Hp → Prop) (h0 : Pv 0 σ H) (hs : ∀ (i : Nat) (σ' : L2.St) (H' : Hp), i < n → Pv i σ' H' → t1 { D with nx := Pv (i + 1), ct := Pv (i + 1), bk := t2 D } (σ'.set j (some (.int (i : Int)))) H')
    (hd : ∀ σ' H', Pv n σ' H' → t2 D σ' H') {te : TE} (he : Val te σ H (.int (n : Int))) : tSeq (tFor (iRng1 (tCons te tNil)) (gName j) t1) t2 D σ H := by
  refine he _ ⟨(n : Int), rfl, by omega, by omega, ?_⟩
  have e0 : ((n : Int)).toNat = n := by omega
  rw [e0]
  refine for_range (D := { D with nx := t2 D }) (lo := 0) (n := n) Pv h0 (fun i σ' H' hi p => ?_) hd
  have e1 : (0 : Int) + (i : Int) = (i : Int) := Int.zero_add _
  rw [e1]
  exact hs i σ' H' hi p
theorem sq_setR {te : TE} {i : Nat} (R : V → Hp → Prop) (h : ∀ Q : VK, (∀ v H', R v H' → Q v H') → te σ H Q) (k : ∀ v H', R v H' → t2 D (σ.set i (some v)) H') : tSeq (tAsg te (gName i)) t2 D σ H := h _ fun v H' r => k v H' r
theorem st_setR {te : TE} {i : Nat} (R : V → Hp → Prop) (h : ∀ Q : VK, (∀ v H', R v H' → Q v H') → te σ H Q) (k : ∀ v H', R v H' → D.nx (σ.set i (some v)) H') : tAsg te (gName i) D σ H := h _ fun v H' r => k v H' r
end
section
variable {P : Program} {w : World} {K : PySem.W.Frag} {mg : Str → Option Value} {base : Heap}
/-- what is known of the drawing def -/
structure Dr (P : Program) (w : World) (K : PySem.W.Frag) (mg : Str → Option Value) (base : Heap) (sp : Sp) (x : Str) (ps : List Str) (k : Nat) : Prop where
  ex : ∃ (f : Addr) (fd : FuncData), FnOk P w K mg base CX0 k f fd ps sp ∧ Binds K fd ps [] ∧ mg x = some (.ref f) ∧ PySem.W.keepIn K (.ref f) = true
theorem pe_dr {X : Cx} {sp : Sp} {x : Str} {ps : List Str} {k j : Nat} {e : Expr} {es : List Expr} {t : TA} {p pos : Pos} (Z : Dr X.prog X.w X.K X.mg X.base sp x ps k) (hk : k ≤ j) (hr : Room j X.A) (hg : Gl X x) (ha : PA X (e :: es) t) (hdb : (x == ("__debug__" : Str)) = false := by decide)
    (he : starEach (e :: es) X.env = (false, eval e X.env) :: starEach es X.env := by rfl) (hpl : (backTo pos (starEach es X.env)).any (·.1) = false := by rfl) : PE X (.Call (.Name x p) (e :: es) [] pos) (tCallG sp t) := by
  obtain ⟨f, fd, F, b, m, kp⟩ := Z.ex
  have z := pe_call (pos := pos) (p := p) F (hr.mono hk) hg m kp b .nil pass0 ha hdb he hpl
  refine ⟨fun pins s σ H Q I h => z.run pins s σ H Q I ?_⟩
  unfold tCall
  simp only [List.append_nil]
  exact h
end
end Lamp
set_option Elab.async false
set_option linter.all false
set_option maxRecDepth 100000
set_option maxHeartbeats 1000000
namespace Lamp
open PySem PySem.Spec PyProof.Rows L2
/-! a chart: places with levels -/
def enc (ps : List (Int × Int)) : List (Key × V) := ps.map fun q => (Sum.inl q.1, V.int q.2)
def putI (ps : List (Int × Int)) (k v : Int) : List (Int × Int) := if ps.any (fun q => decide (q.1 = k)) then ps.map (fun q => if q.1 = k then (q.1, v) else q) else ps ++ [(k, v)]
theorem enc_put (ps : List (Int × Int)) (k v : Int) : putK (enc ps) (Sum.inl k) (V.int v) = enc (putI ps k v) := by
  have e1 : ((enc ps).any fun kv => decide (kv.1 = Sum.inl k)) = ps.any (fun q => decide (q.1 = k)) := by
    unfold enc
    rw [List.any_map]
    congr 1
    funext q
    show decide ((Sum.inl q.1 : Key) = Sum.inl k) = decide (q.1 = k)
    rw [key_ll]
    by_cases h : q.1 = k <;> simp [h]
  unfold putK putI
  rw [e1]
  split
  · unfold enc
    rw [List.map_map, List.map_map]
    congr 1
    funext q
    show (if (Sum.inl q.1 : Key) = Sum.inl k then _ else _) = _
    by_cases h : q.1 = k
    · rw [if_pos (by rw [h])]
      show _ = (Sum.inl (if q.1 = k then (q.1, v) else q).1, V.int (if q.1 = k then (q.1, v) else q).2)
      rw [if_pos h]
    · rw [if_neg (fun z => h (Sum.inl.inj z))]
      show _ = (Sum.inl (if q.1 = k then (q.1, v) else q).1, V.int (if q.1 = k then (q.1, v) else q).2)
      rw [if_neg h]
  · unfold enc
    rw [List.map_append]
    rfl
/-- what holds of a chart: no place twice, levels and places in their bounds -/
structure Chart (p : Int) (ps : List (Int × Int)) : Prop where
  nd : (ps.map (·.1)).Nodup
  lv : ∀ q ∈ ps, 1 ≤ q.2 ∧ q.2 < p
  pl : ∀ q ∈ ps, -big ≤ q.1 ∧ q.1 ≤ big
theorem Chart.put {p : Int} {ps : List (Int × Int)} (C : Chart p ps) {k v : Int} (h1 : 1 ≤ v ∧ v < p) (h2 : -big ≤ k ∧ k ≤ big) : Chart p (putI ps k v) ∧ (putI ps k v).length ≤ ps.length + 1 := by
  unfold putI
  split
  · refine ⟨⟨?_, fun q hq => ?_, fun q hq => ?_⟩, by rw [List.length_map]; omega⟩
    · rw [List.map_map]
      have e : ((fun q : Int × Int => q.1) ∘ fun q => if q.1 = k then (q.1, v) else q) = fun q => q.1 := by
        funext q
        show (if q.1 = k then (q.1, v) else q).1 = q.1
        split <;> rfl
      rw [e]
      exact C.nd
    · obtain ⟨q0, h0, rfl⟩ := List.mem_map.mp hq
      split
      · exact h1
      · exact C.lv q0 h0
    · obtain ⟨q0, h0, rfl⟩ := List.mem_map.mp hq
      split
      · exact C.pl q0 h0
      · exact C.pl q0 h0
  · rename_i hn
    have hk : k ∉ ps.map (·.1) := fun z => by
      obtain ⟨q, hq, e⟩ := List.mem_map.mp z
      exact hn (List.any_eq_true.mpr ⟨q, hq, decide_eq_true e⟩)
    refine ⟨⟨?_, fun q hq => ?_, fun q hq => ?_⟩, by rw [List.length_append]; exact Nat.le_refl _⟩
    · rw [List.map_append]
      exact List.nodup_append.mpr ⟨C.nd, by simp, fun a ha b hb => by simp at hb; subst hb; exact fun e => hk (e ▸ ha)⟩
    · rcases List.mem_append.mp hq with h | h
      · exact C.lv q h
      · simp at h; subst h; exact h1
    · rcases List.mem_append.mp hq with h | h
      · exact C.pl q h
      · simp at h; subst h; exact h2
theorem enc_get : ∀ {ps : List (Int × Int)} {k : Int}, k ∈ ps.map (·.1) → ∃ v, valV (enc ps) (Sum.inl k) = some (V.int v) ∧ (k, v) ∈ ps
  | [], k, h => by simp at h
  | q :: ps, k, h => by
    by_cases e : q.1 = k
    · refine ⟨q.2, ?_, by rw [← e]; exact List.mem_cons_self ..⟩
      exact valV_pos (p := (Sum.inl q.1, V.int q.2)) (by show (Sum.inl q.1 : Key) = Sum.inl k; rw [e])
    · have h' : k ∈ ps.map (·.1) := by
        rcases List.mem_cons.mp h with z | z
        · exact absurd z.symm e
        · exact z
      obtain ⟨v, h1, h2⟩ := enc_get h'
      refine ⟨v, ?_, List.mem_cons_of_mem _ h2⟩
      rw [← h1]
      exact valV_neg (p := (Sum.inl q.1, V.int q.2)) (fun z => e (Sum.inl.inj z))
/-- a picture of p levels: ascending places, levels from 1 to p - 1, few -/
structure IsPic (p : Int) (ls : List (Int × Int)) : Prop where
  asc : (ls.map (·.1)).Pairwise (· < ·)
  lv : ∀ q ∈ ls, 1 ≤ q.2 ∧ q.2 < p
  pl : ∀ q ∈ ls, -big ≤ q.1 ∧ q.1 ≤ big
  few : ls.length ≤ 5
/-- .. of whatever places, with as many lamps as are let -/
structure IsPicW (p : Int) (ls : List (Int × Int)) : Prop where
  asc : (ls.map (·.1)).Pairwise (· < ·)
  lv : ∀ q ∈ ls, 1 ≤ q.2 ∧ q.2 < p
  few : ls.length ≤ 400
theorem IsPic.w {p : Int} {ls : List (Int × Int)} (h : IsPic p ls) : IsPicW p ls := ⟨h.asc, h.lv, Nat.le_trans h.few (by decide)⟩
theorem lt_of_le_nodup : ∀ {xs : List Int}, xs.Pairwise (· ≤ ·) → xs.Nodup → xs.Pairwise (· < ·)
  | [], _, _ => .nil
  | x :: xs, h, n => by
    cases h with
    | cons h1 h2 =>
      cases n with
      | cons n1 n2 => exact .cons (fun y hy => by have a := h1 y hy; have b := n1 y hy; omega) (lt_of_le_nodup h2 n2)
/-- at t: a picture's tuple of pairs -/
def PicAt (K : PySem.W.Frag) (H : Hp) (t : Addr) (ls : List (Int × Int)) : Prop := ∃ as : List Addr, Rd H t (.tup (as.map V.ref)) ∧ Paired (fun a (q : Int × Int) => H a = some (.tup [.int q.1, .int q.2])) as ls
/-- .. the tuple having no dict of its own -/
def PicB (K : PySem.W.Frag) (H : Hp) (t : Addr) (ls : List (Int × Int)) : Prop := ∃ as : List Addr, Bare H t (as.map V.ref) ∧ Paired (fun a (q : Int × Int) => H a = some (.tup [.int q.1, .int q.2])) as ls
theorem PicB.at {K : PySem.W.Frag} {H : Hp} {t : Addr} {ls : List (Int × Int)} (h : PicB K H t ls) : PicAt K H t ls := by
  obtain ⟨as, h1, h2⟩ := h
  exact ⟨as, h1.rd, h2⟩
theorem PicB.same {K : PySem.W.Frag} {H H' : Hp} {t : Addr} {ls : List (Int × Int)} (h : PicB K H t ls) (e : Same H H') : PicB K H' t ls := by
  obtain ⟨as, h1, h2⟩ := h
  exact ⟨as, h1.same e, L2.Paired.mapP h2 fun a q z => e _ _ z⟩
theorem PicAt.same {K : PySem.W.Frag} {H H' : Hp} {t : Addr} {ls : List (Int × Int)} (h : PicAt K H t ls) (e : Same H H') : PicAt K H' t ls := by
  obtain ⟨as, h1, h2⟩ := h
  exact ⟨as, rd_same h1 e, L2.Paired.mapP h2 fun a q z => e _ _ z⟩
section
variable {P : Program} {w : World} {K : PySem.W.Frag} {mg : Str → Option Value} {base : Heap}
end
end Lamp
set_option Elab.async false
set_option linter.all false
set_option maxRecDepth 100000
set_option maxHeartbeats 1000000
namespace Lamp
open PySem PySem.Spec PyProof.Rows L2
/-- the parts of a round -/
structure Parts where
  lv : Int
  ls : List (Int × Int)
  fin : Int
/-- as they are drawn -/
structure Parts.Ok (r : Parts) : Prop where
  lv : r.lv = 2 ∨ r.lv = 3 ∨ r.lv = 5 ∨ r.lv = 7
  pic : IsPic r.lv r.ls
  lo : -big ≤ r.fin
  hi : r.fin ≤ big
/-- at l: the list of a round's parts, its picture at t -/
def PartsAt (K : PySem.W.Frag) (H : Hp) (l t : Addr) (r : Parts) : Prop := H l = some (.lst [.int r.lv, .ref t, .int r.fin]) ∧ PicB K H t r.ls
theorem PartsAt.same {K : PySem.W.Frag} {H H' : Hp} {l t : Addr} {r : Parts} (h : PartsAt K H l t r) (e : Same H H') : PartsAt K H' l t r := ⟨e _ _ h.1, h.2.same e⟩
end Lamp
set_option Elab.async false
set_option linter.all false
set_option maxRecDepth 100000
set_option maxHeartbeats 1000000
namespace Lamp
open PySem PySem.Spec PyProof.Rows L2
/-! enumerate of a tuple -/
theorem enum_new {v : Value} {o : Obj} {Hh : Heap → Prop} (B : Begins v o Hh) : Meets (Builtin.«enumerate.__new__» ⟨[.type "enumerate", v], []⟩) (fun _ R s => Hh s.heap ∧
    R (.ok (.ret (.ref (s.heap.push o).objs.size))) { s with heap := (s.heap.push o).push { cls := .type "enumerate", data := .fields #[.none, .bool false, .ref s.heap.objs.size, rawInt 0, .none, .none] } }) :=
  .of_wp fun P w A R s told => by
    obtain ⟨hp, gs, dp, tk, ou⟩ := s
    obtain ⟨there, goal⟩ := told
    have under := sub_enumerate
    have starts : ∀ {A1 : Around} {E : Value → Shared → Prop} {Q : Value → Shared → Prop}, Q (.ref hp.objs.size) ⟨hp.push o, gs, dp, tk, ou⟩ → wpAny (model P w) A1 (pyIter v) Q E ⟨hp, gs, dp, tk, ou⟩ :=
      fun q => B.iter P w _ _ ⟨hp, gs, dp, tk, ou⟩ _ there q
    wp_walk using starts
    refine wpAny_stack_any fun st => wpAny_pure ?_
    split
    · rename_i c _ _ _ _ _
      cases hc : (c == Value.type "enumerate") <;> (wp_walk using starts; exact ⟨_, rfl, goal⟩)
    · wp_walk using starts
      exact ⟨_, rfl, goal⟩
theorem enum_call {P : Program} {w : World} {A : Around} {E : Value → Shared → Prop} {s : Shared} {v : Value} {o : Obj} {Hh : Heap → Prop} {Q : Value → Shared → Prop} (B : Begins v o Hh) (there : Hh s.heap)
    (goal : ∀ h', IsEnum h' (s.heap.objs.size + 1) s.heap.objs.size 0 .none → h'.get? s.heap.objs.size = some o → (∀ b u, s.heap.get? b = some u → h'.get? b = some u) → Q (.ref (s.heap.objs.size + 1)) { s with heap := h' }) :
    wpAny (model P w) A (call (.type "enumerate") [v]) Q E s := by
  have two : (s.heap.push o).objs.size = s.heap.objs.size + 1 := Heap.size_push ..
  have isE : IsEnum ((s.heap.push o).push { cls := .type "enumerate", data := .fields #[.none, .bool false, .ref s.heap.objs.size, rawInt 0, .none, .none] }) (s.heap.objs.size + 1) s.heap.objs.size 0 .none := by
    rw [← two]
    exact Heap.get?_push_size (s.heap.push o) rfl
  refine callType_new F.called_enumerate (by decide) (F.typeCall_enumerate_1 _) (F.newCall_enumerate_1 _) (fun z => F.args_object_init_2 z _) F.entry_enumerate_new (enum_new B) ⟨there, ?_⟩
  show _ ∧ _
  rw [two]
  exact ⟨⟨_, isE, rfl⟩, goal _ isE (Heap.get?_push_of_some _ (Heap.get?_push_size _ B.free)) fun b u z => Heap.get?_push_of_some _ (Heap.get?_push_of_some _ z)⟩
/-- the pairs of index and item of the tuple at a -/
def Itn (K : PySem.W.Frag) (a : Addr) : It where
  go i H := ∃ (xs : List V) (x : V), SqT K H a xs ∧ xs[i]? = some x
  yld i H v H' := ∃ T x, v = .ref T ∧ H T = none ∧ H' = upd H T (.tup [.int (i : Nat), x]) ∧ ∀ xs, SqT K H a xs → xs[i]? = some x
  stop i H := ∃ xs : List V, SqT K H a xs ∧ xs.length ≤ i
theorem turn_enumT {P : Program} {w : World} {K : PySem.W.Frag} {parts : List Expr} {n : Nat} {at_ : Pos} (a e it : Addr) :
    Turn P w K (.Tuple parts n at_) (Itn K a) [e, it] e (fun i h => (∃ old, IsEnum h e it ((i : Nat) : Int) old) ∧ h.IsTupleIter it a i ∧ e ≠ it) where
  mem := List.mem_cons_self ..
  obj := fun i h st b hb => by
    obtain ⟨⟨old, he⟩, ⟨o, ho, hc, hd⟩, _⟩ := st
    rcases (by simpa using hb : b = e ∨ b = it) with z | z
    · rw [z]; exact ⟨_, he, fun v q => nomatch q⟩
    · rw [z]; exact ⟨o, ho, fun v q => by rw [hd] at q; cases q⟩
  keep := fun i h h' st k => ⟨let ⟨old, he⟩ := st.1; ⟨old, k e (by simp) _ he⟩, st.2.1.at fun o q => k it (by simp) o q, st.2.2⟩
  item := by
    intro X hP hw hK hc i pins s σ H E I hf st hg
    subst hP hw hK
    obtain ⟨⟨old, he⟩, hit, hne⟩ := st
    obtain ⟨xs, x, hq, hx⟩ := hg
    obtain ⟨its, rv, p, hz⟩ := I.tuple hq
    obtain ⟨u, hu, ru⟩ := rv.get hx
    have hlen := rv.length
    have hi : i < its.length := (List.getElem?_eq_some_iff.mp hu).1
    have tup : s.heap.IsTuple a its.toArray := p
    have ae : a ≠ e := fun z => by
      obtain ⟨o, ho, hco, _⟩ := tup
      rw [z, he] at ho
      cases ho
      exact absurd (show Value.type "enumerate" = .type "tuple" from hco) (by decide)
    have ait : a ≠ it := fun z => by
      obtain ⟨o, ho, hco, _⟩ := tup
      obtain ⟨o2, ho2, hc2, _⟩ := hit
      rw [z, ho2] at ho
      cases ho
      rw [hc2] at hco
      exact absurd hco (by decide)
    have le : e < s.heap.objs.size := Heap.lt_size he
    have li : it < s.heap.objs.size := by obtain ⟨_, q, _⟩ := hit; exact Heap.lt_size q
    have D := Draws.tuple (prog := X.prog) (w := X.w) (A := X.A.in1) (I.ok.hd hc) it a ait its.toArray
    refine wpAny_pyNext_enum_itemD D he ⟨hit, tup⟩ (by simpa using hi) hne (by simp; exact ⟨hne, fun z => ae z.symm⟩) fun y h' tk hy ho st' hT hsz hk => ?_
    have ey : y = u := by
      have : its[i]? = some y := by simpa using hy
      rw [hu] at this
      exact (Option.some.inj this).symm
    subst ey
    obtain ⟨hit', tup'⟩ := st'
    refine ⟨_, rfl, wpAny_letOwnedTupleGo_enum (s := { s with heap := h', toks := tk + 1 }) ho fun h2 he2 sb => ?_⟩
    have hT2 : h2.get? s.heap.objs.size = some { cls := .type "tuple", data := .seq #[.int i tk, y] } := (sb.2 _ (Nat.ne_of_gt le)).trans hT
    have made : ObjOk X.prog X.w (upd H s.heap.objs.size (.tup [.int (i : Nat), x])) h2 s.heap.objs.size (.tup [.int (i : Nat), x]) :=
      ⟨by show 2 ≤ sizeLine; decide, [.int i tk, y], .cons ⟨_, rfl⟩ (.cons ru .nil), ⟨_, hT2, rfl, _, rfl⟩⟩
    have I1 : Inv X pins σ (upd H s.heap.objs.size (.tup [.int (i : Nat), x])) { s with heap := h2, toks := tk + 1 } :=
      I.turnedNew (ch := [e, it]) (fun b ob hb q => (sb.2 b (fun z => hb (by simp [z]))).trans (hk b ob (fun z => hb (by simp [z])) (fun z => hb (by simp [z])) q)) hf (Nat.le_refl _) made
    refine ⟨.ref s.heap.objs.size, _, I1, rfl, ⟨_, x, rfl, I.hok.fresh (Nat.le_refl _), rfl, fun ys hy => by rw [I.tuple_inj hy hq]; exact hx⟩, ⟨⟨y, ?_⟩, hit'.at fun o q => (sb.2 it (Ne.symm hne)).trans q, hne⟩, fun b hb => ?_⟩
    · rw [show ((i + 1 : Nat) : Int) = (i : Int) + 1 by omega]
      exact he2
    · have lb : b < s.heap.objs.size := by
        rcases (by simpa using hb : b = e ∨ b = it) with z | z
        · rw [z]; exact le
        · rw [z]; exact li
      rw [upd_ne (Nat.ne_of_lt lb)]
      exact (hf b hb).1
  done := by
    intro X hP hw hK hc i pins s σ H E I hf st hg
    subst hP hw hK
    obtain ⟨⟨old, he⟩, hit, hne⟩ := st
    obtain ⟨xs, hq, hx⟩ := hg
    obtain ⟨its, rv, p, hz⟩ := I.tuple hq
    obtain ⟨f0, f1, f2, f3, f4, f5⟩ := hf it (by simp)
    have hl := rv.length
    have tup : s.heap.IsTuple a its.toArray := p
    unfold pyNext
    refine wpAny_bind (wpAny_attempt (wpAny_callSpecial?_slot (name := Str.ofString "__next__") ⟨_, he, rfl⟩ F.slot_enumerate_next
      (wpAny_call_entry F.slot_enumerate_next ⟨_, he, rfl⟩ F.entry_enumerate_next ?_ (F.args_enumerate_next_1 _))))
    show wpAny _ _ (field (.ref e) 2 >>= _) _ _ _
    refine wpAny_bind (wpAny_field he rfl (x := .ref it) rfl ?_)
    refine wpAny_bind (wpAny_nextOf_tuple_end (I.ok.hd hc) hit tup (by simp; omega) fun h' ex eb so => ?_)
    obtain ⟨o, ho, hcs⟩ := so
    refine wpAny_bind (wpAny_isInstance (T := "StopIteration") (b := true) ⟨o, ho, hcs⟩ isSubtype_stop ?_)
    exact wpAny_pure ⟨rfl, I.turned (t' := s.toks) (fun b o hb q => eb b o hb q) f0 f1 f3 f4 f5⟩
  self := fun A i s Q E st h => let ⟨⟨_, he⟩, _⟩ := st; wpAny_pyIter_enum he h
def iEnumT (K : PySem.W.Frag) (ta : TA) : TI := fun σ H R => ta σ H fun vs H1 => ∃ a xs, vs = [.ref a] ∧ SqT K H1 a xs ∧ R (Itn K a) H1
theorem pi_enumT {X : Cx} {e : Expr} {ta : TA} {p pos at_ : Pos} {parts : List Expr} {n : Nat} (hg : Gl X "enumerate") (hm : X.mg "enumerate" = none) (ha : PA X [e] ta) (hs : starEach [e] X.env = [(false, eval e X.env)] := by rfl) :
    PI X (.Tuple parts n at_) (.Call (.Name "enumerate" p) [e] [] pos) (iEnumT X.K ta) := by
  refine ⟨fun pins s σ H R I h => ?_⟩
  refine Call_ (ld_blt I hg hm boot_enumerate (PyProof.Rows.callWith_type1 (thn (ha.run pos pins s σ H _ I h) fun us s1 ⟨vs, H1, I1, r1, a, xs, ex, hq, q⟩ => ?_) hs rfl))
  subst ex
  cases r1 with
  | cons r rr =>
    cases rr
    cases r
    obtain ⟨its, rv, p', hz⟩ := I1.tuple hq
    have tup : s1.heap.IsTuple a its.toArray := p'
    refine enum_call (begins_tuple a its.toArray) tup fun h' he hi hk => wpAny_pyIter_enum he ?_
    have I2 : Inv X pins σ H1 { s1 with heap := h' } := I1.kept (t' := s1.toks) hk
    refine ⟨s1.heap.objs.size + 1, [s1.heap.objs.size + 1, s1.heap.objs.size], _, _, H1, rfl, I2, turn_enumT a (s1.heap.objs.size + 1) s1.heap.objs.size, ⟨⟨.none, he⟩, ⟨_, hi, rfl, rfl⟩, Nat.succ_ne_self _⟩, fun b hb => ?_, q⟩
    have lb : s1.heap.objs.size ≤ b := by
      rcases (by simpa using hb : b = s1.heap.objs.size + 1 ∨ b = s1.heap.objs.size) with z | z
      · rw [z]; exact Nat.le_add_right _ _
      · rw [z]; exact Nat.le_refl _
    exact I1.fpOk lb (I1.hok.fresh lb)
/-- for i, x in enumerate(t): body told by what holds ahead of each turn -/
theorem for_enumT {K : PySem.W.Frag} {a : Addr} {xs : List V} {g : TG} {tb : TS} {D : Ends} {σ : L2.St} {H : Hp} (Pv : Nat → L2.St → Hp → Prop) (h0 : Pv 0 σ H) (hl : ∀ i σ H, i ≤ xs.length → Pv i σ H → SqT K H a xs)
    (hs : ∀ i x σ H T, xs[i]? = some x → Pv i σ H → H T = none → g (.ref T) σ (upd H T (.tup [.int (i : Nat), x])) fun σ2 H2 => tb { D with nx := Pv (i + 1), ct := Pv (i + 1), bk := D.nx } σ2 H2) (hd : ∀ σ H, Pv xs.length σ H → D.nx σ H) :
    ∃ W : Nat → Nat → L2.St → Hp → Prop, (∃ m, W 0 m σ H) ∧ ∀ i m σ H, W i m σ H →
      ((Itn K a).stop i H ∧ D.nx σ H) ∨ ((Itn K a).go i H ∧ ∃ N : L2.St → Hp → Prop, (∀ σ' H', N σ' H' → ∃ m', m' < m ∧ W (i + 1) m' σ' H') ∧ ∀ x H', (Itn K a).yld i H x H' → g x σ H' fun σ2 H2 => tb { D with nx := N, ct := N, bk := D.nx } σ2 H2) := by
  refine ⟨fun i m σ H => m + i = xs.length ∧ Pv i σ H, ⟨xs.length, rfl, h0⟩, fun i m σ H z => ?_⟩
  obtain ⟨hm, p⟩ := z
  have q := hl i σ H (by omega) p
  cases m with
  | zero =>
    have e : i = xs.length := by omega
    subst e
    exact .inl ⟨⟨xs, q, Nat.le_refl _⟩, hd _ _ p⟩
  | succ m =>
    have lt : i < xs.length := by omega
    refine .inr ⟨⟨xs, xs[i], q, by simp [lt]⟩, Pv (i + 1), fun σ' H' p' => ⟨m, Nat.lt_succ_self _, by omega, p'⟩, fun v H' y => ?_⟩
    obtain ⟨T, x, rfl, hT, rfl, hx⟩ := y
    exact hs i x σ H T (hx xs q) p hT
end Lamp
set_option Elab.async false
set_option linter.all false
set_option maxRecDepth 100000
set_option maxHeartbeats 1000000
namespace Lamp
open PySem PySem.Spec PyProof.Rows L2
abbrev sIsInt : Stmt := top 15
abbrev sIsLevels : Stmt := top 16
abbrev sIsLamp : Stmt := top 17
abbrev sWrong : Stmt := top 18
def spIsInt : Sp := fun vs H Q _ => ∃ i : Int, vs = [.int i] ∧ Q (.bl true) H
def goodLv (lv : Int) : Prop := lv = 2 ∨ lv = 3 ∨ lv = 5 ∨ lv = 7
def spIsLevels : Sp := fun vs H Q _ => ∃ lv : Int, vs = [.int lv] ∧ goodLv lv ∧ Q (.bl true) H
def spIsLamp : Sp := fun vs H Q _ => ∃ (lv x y : Int) (a : Addr), vs = [.int lv, .ref a] ∧ H a = some (.tup [.int x, .int y]) ∧ 0 < y ∧ y < lv ∧ Q (.bl true) H
def spWrong (K : PySem.W.Frag) : Sp := fun vs H Q _ => ∃ (lv : Int) (t : Addr) (ls : List (Int × Int)), vs = [.int lv, .ref t] ∧ PicAt K H t ls ∧ IsPicW lv ls ∧ ∀ H', Same H H' → Q .non H'
section
variable {P : Program} {w : World} {K : PySem.W.Frag} {mg : Str → Option Value} {base : Heap}
theorem scIsInt : FnScope ["value"] ["value"] (defScope sIsInt) := ⟨rfl, rfl, rfl, by decide +kernel, rfl, by decide +kernel, by decide +kernel⟩
theorem scIsLevels : FnScope ["value"] ["value"] (defScope sIsLevels) := ⟨rfl, rfl, rfl, by decide +kernel, rfl, by decide +kernel, by decide +kernel⟩
theorem scIsLamp : FnScope ["levels", "value", "place", "level"] ["levels", "value"] (defScope sIsLamp) := ⟨rfl, rfl, rfl, by decide +kernel, rfl, by decide +kernel, by decide +kernel⟩
theorem scWrong : FnScope ["levels", "lamps", "index", "lamp"] ["levels", "lamps"] (defScope sWrong) := ⟨rfl, rfl, rfl, by decide +kernel, rfl, by decide +kernel, by decide +kernel⟩
theorem isi_ii (H : Hp) (i : Int) {Q : VK} (q : Q (.bl true) H) : rIsi K [.int i, .ty "int"] H Q := ⟨_, _, .type "int", .type "int", true, rfl, .ty "int", .base (.int i), kit_ty (by decide +kernel), q⟩
theorem isi_ib (H : Hp) (i : Int) {Q : VK} (q : Q (.bl false) H) : rIsi K [.int i, .ty "bool"] H Q := ⟨_, _, .type "int", .type "bool", false, rfl, .ty "bool", .base (.int i), kit_ty (by decide +kernel), q⟩
theorem isi_tt {H : Hp} {a : Addr} {xs : List V} (h : H a = some (.tup xs)) {Q : VK} (q : Q (.bl true) H) : rIsi K [.ref a, .ty "tuple"] H Q := ⟨_, _, .type "tuple", .type "tuple", true, rfl, .ty "tuple", .base (.tup h), kit_ty (by decide +kernel), q⟩
theorem isi_tR {H : Hp} {a : Addr} {xs : List V} (h : Rd H a (.tup xs)) {Q : VK} (q : Q (.bl true) H) : rIsi K [.ref a, .ty "tuple"] H Q := by
  rcases h with h | ⟨o, h⟩
  · exact isi_tt h q
  · exact ⟨_, _, .type "tuple", .type "tuple", true, rfl, .ty "tuple", .fTuple h, kit_ty (by decide +kernel), q⟩
theorem isi_ss {H : Hp} {x : Str} {Q : VK} (q : Q (.bl true) H) : rIsi K [.str x, .ty "str"] H Q := ⟨_, _, .type "str", .type "str", true, rfl, .ty "str", .base (.str x), kit_ty (by decide +kernel), q⟩
theorem v_isii {te : TE} {σ : L2.St} {H : Hp} {i : Int} (h : Val te σ H (.int i)) : Val (tCB (rIsi K) (tCons te (tCons (tC (.ty "int")) tNil))) σ H (.bl true) := fun Q q => h _ (isi_ii H i q)
theorem v_isib {te : TE} {σ : L2.St} {H : Hp} {i : Int} (h : Val te σ H (.int i)) : Val (tCB (rIsi K) (tCons te (tCons (tC (.ty "bool")) tNil))) σ H (.bl false) := fun Q q => h _ (isi_ib H i q)
theorem ok_isInt {f : Addr} {fd : FuncData} (F : Fun K "is_integer" "is_integer" sIsInt f fd) (mis : mg "isinstance" = none) (mi : mg "int" = none) (mb : mg "bool" = none) : FnOk P w K mg base CX0 1 f fd ["value"] spIsInt := by
  refine F.ok scIsInt (fun vs H Q E h => ?_) (fun cdv A outer s H vs Q E hr h => ?_)
  · obtain ⟨i, rfl, _⟩ := h
    rfl
  · obtain ⟨i, rfl, q⟩ := h
    refine ⟨_, pss_one (ps_ret (pe_and (pe_callB call_isi (by rfl) mis (by decide +kernel) (pa_cons (pv 0) (pa_cons (pe_bltn (v := .ty "int") (by rfl) mi (by decide +kernel) rfl) pa_nil)))
      (pe_one (pe_not (pe_callB call_isi (by rfl) mis (by decide +kernel) (pa_cons (pv 0) (pa_cons (pe_bltn (v := .ty "bool") (by rfl) mb (by decide +kernel) rfl) pa_nil))))))), ?_⟩
    refine v_isii (val_var rfl) _ ⟨true, rfl, iteT ?_⟩
    exact v_isib (val_var rfl) _ ⟨false, rfl, q⟩
theorem ok_isLevels {f aL : Addr} {fd : FuncData} (F : Fun K "is_levels" "is_levels" sIsLevels f fd) (I : Dr P w K mg base spIsInt "is_integer" ["value"] 1) (mL : mg "LEVELS" = some (.ref aL)) (four : ∀ H, SqT K H aL [.int 2, .int 3, .int 5, .int 7]) : FnOk P w K mg base CX0 2 f fd ["value"] spIsLevels := by
  refine F.ok scIsLevels (fun vs H Q E h => ?_) (fun cdv A outer s H vs Q E hr h => ?_)
  · obtain ⟨i, rfl, _⟩ := h
    rfl
  · obtain ⟨i, rfl, hg, q⟩ := h
    refine ⟨_, pss_one (ps_ret (pe_and (pe_dr I (Nat.le_refl _) hr rfl (pa_cons (pv 0) pa_nil)) (pe_one (pe_cmpR op_in_seq (pv 0) (pe_glob (v := .ref aL) rfl mL rfl) (by rfl))))), ?_⟩
    refine ⟨_, rfl, i, rfl, true, rfl, ?_⟩
    show _
    refine ⟨_, rfl, aL, _, rfl, .inr (four H), rfl, by decide, ?_⟩
    have e : inV (V.int i) [.int 2, .int 3, .int 5, .int 7] = true := by
      rcases hg with rfl | rfl | rfl | rfl <;> decide
    rw [e]
    exact q
theorem ok_isLamp {f : Addr} {fd : FuncData} (F : Fun K "is_lamp" "is_lamp" sIsLamp f fd) (I : Dr P w K mg base spIsInt "is_integer" ["value"] 1) (mis : mg "isinstance" = none) (mt : mg "tuple" = none) (ml : mg "len" = none) : FnOk P w K mg base CX0 2 f fd ["levels", "value"] spIsLamp := by
  refine F.ok scIsLamp (fun vs H Q E h => ?_) (fun cdv A outer s H vs Q E hr h => ?_)
  · obtain ⟨lv, x, y, a, rfl, _⟩ := h
    rfl
  · obtain ⟨lv, x, y, a, rfl, ha, h0, h1, q⟩ := h
    refine ⟨_, pss_cons (ps_if (PW.pt (pw_or (pt_not (pt_val (pe_callB call_isi (by rfl) mis (by decide +kernel) (pa_cons (pv 1) (pa_cons (pe_bltn (v := .ty "tuple") (by rfl) mt (by decide +kernel) rfl) pa_nil)))))
          (pw_or1 (pt_cmpR op_ne (pe_callB call_len_seq (by rfl) ml PySem.boot_len (pa_cons (pv 1) pa_nil)) pe_int (nomark _))))) pss_never pss_nil)
      (pss_cons (ps_asg (pv 1) (pg_tup rfl (pgs_cons (pg_name (i := 2) scIsLamp.nd rfl (.inl rfl)) (pgs_cons (pg_name (i := 3) scIsLamp.nd rfl (.inl rfl)) pgs_nil))))
      (pss_one (ps_ret (pe_and (pe_dr I (Nat.le_refl _) hr rfl (pa_cons (pv 2) pa_nil)) (pe_and (pe_dr I (Nat.le_refl _) hr rfl (pa_cons (pv 3) pa_nil)) (pe_one (pe_chain op_lt op_lt pe_int (pv 3) (pv 0)))))))), ?_⟩
    refine sq_no ?_ ?_
    · refine ans_or (ans_not (b := true) (ans_val fun Q q => ⟨_, rfl, isi_tt ha q⟩)) (ans_ne (x := .int 2) (y := .int 2) (fun Q q => ⟨_, rfl, a, _, rfl, .inr (SqT.of ha), q⟩) val_c rfl rfl)
    · refine ⟨_, rfl, a, _, rfl, SqT.of ha, rfl, _, _, rfl, _, _, rfl, rfl, ?_⟩
      refine ⟨_, rfl, x, rfl, true, rfl, ?_⟩
      show _
      refine ⟨_, rfl, y, rfl, true, rfl, ?_⟩
      show _
      refine ⟨_, rfl, 0, y, rfl, rfl, true, ?_, ?_⟩
      · show V.bl (decide (0 < y)) = _
        rw [decide_eq_true h0]
      · show _
        refine ⟨_, rfl, y, lv, rfl, rfl, ?_⟩
        show Q (.bl (decide (y < lv))) H
        rw [decide_eq_true h1]
        exact q
theorem pair_get {K : PySem.W.Frag} {H : Hp} {t : Addr} {ls : List (Int × Int)} (h : PicAt K H t ls) : ∃ as : List Addr, Rd H t (.tup (as.map V.ref)) ∧ as.length = ls.length ∧ ∀ (i : Nat) (a : Addr) (q : Int × Int), as[i]? = some a → ls[i]? = some q → H a = some (.tup [.int q.1, .int q.2]) := by
  obtain ⟨as, h1, h2⟩ := h
  refine ⟨as, h1, Paired.length h2, fun i a q ha hq => ?_⟩
  obtain ⟨q', hq', e⟩ := paired_get h2 ha
  rw [hq] at hq'
  cases hq'
  exact e
theorem asc_at {ls : List (Int × Int)} (h : (ls.map (·.1)).Pairwise (· < ·)) {i : Nat} {q r : Int × Int} (h1 : ls[i]? = some q) (h2 : ls[i + 1]? = some r) : q.1 < r.1 := by
  rw [List.pairwise_iff_getElem] at h
  obtain ⟨l1, e1⟩ := List.getElem?_eq_some_iff.mp h1
  obtain ⟨l2, e2⟩ := List.getElem?_eq_some_iff.mp h2
  have z := h i (i + 1) (by rw [List.length_map]; exact l1) (by rw [List.length_map]; exact l2) (Nat.lt_succ_self i)
  rw [List.getElem_map, List.getElem_map, e1, e2] at z
  exact z
theorem ok_wrong {f : Addr} {fd : FuncData} (F : Fun K "wrong_lamp" "wrong_lamp" sWrong f fd) (L : Dr P w K mg base spIsLamp "is_lamp" ["levels", "value"] 2) (me : mg "enumerate" = none) : FnOk P w K mg base CX0 3 f fd ["levels", "lamps"] (spWrong K) := by
  refine F.ok scWrong (fun vs H Q E h => ?_) (fun cdv A outer s H vs Q E hr h => ?_)
  · obtain ⟨lv, t, ls, rfl, _⟩ := h
    rfl
  · obtain ⟨lv, t, ls, rfl, hp, hi, q⟩ := h
    obtain ⟨as, ht, hlen, hat⟩ := pair_get hp
    refine ⟨_, pss_cons (ps_for PassesOwn.never rfl (pi_enumT rfl me (pa_cons (pv 1) pa_nil)) (pg_tup rfl (pgs_cons (pg_name (i := 2) scWrong.nd rfl (.inl rfl)) (pgs_cons (pg_name (i := 3) scWrong.nd rfl (.inl rfl)) pgs_nil)))
        (pss_cons (ps_if (pt_not (pt_val (pe_dr L (Nat.le_refl _) hr rfl (pa_cons (pv 0) (pa_cons (pv 3) pa_nil))))) pss_never pss_nil)
        (pss_one (ps_if (PW.pt (pw_and (pt_cmpR op_gt (pv 2) pe_int (nomark _)) (pw_and1 (pt_cmpR op_le (pe_ix ix_tup (pv 3) pe_int (fun _ _ => rfl)) (pe_ix ix_tup (pe_ix ix_tup (pv 1) (pe_op op_sub (pv 2) pe_int) (fun _ _ => rfl)) pe_int (fun _ _ => rfl)) (nomark _))))) pss_never pss_nil))))
      (pss_one (ps_ret pe_non)), ?_⟩
    refine ⟨_, rfl, t, _, rfl, .inl ht, for_enumT (xs := as.map V.ref) (fun i σ H' => ∃ x y, σ = [some (.int lv), some (.ref t), x, y] ∧ Same H H') ⟨_, _, rfl, Same.refl H⟩ (fun i σ H' _ z => ?_) (fun i x σ H' T hx z hT => ?_) (fun σ H' z => ?_)⟩
    · obtain ⟨_, _, _, s⟩ := z
      exact .inl (rd_same ht s)
    · obtain ⟨x0, y0, rfl, s⟩ := z
      have s1 := s.trans (same_of (o := .tup [V.int (i : Nat), x]) hT)
      rw [List.getElem?_map] at hx
      cases ea : as[i]? with
      | none => rw [ea] at hx; cases hx
      | some a =>
        rw [ea] at hx
        have ex : x = V.ref a := (Option.some.inj hx).symm
        subst ex
        have li : i < ls.length := by
          rw [← hlen]
          exact (List.getElem?_eq_some_iff.mp ea).1
        have eq := List.getElem?_eq_getElem li
        have lev := hi.lv _ (List.getElem_mem li)
        have h1 := s1 _ _ (hat i a _ ea eq)
        refine ⟨T, _, rfl, SqT.of upd_same, rfl, _, _, rfl, _, _, rfl, rfl, ?_⟩
        refine sq_no ?_ ?_
        · exact ans_not (b := true) (ans_val fun Q q => ⟨_, rfl, _, rfl, lv, _, _, a, rfl, h1, by omega, lev.2, q⟩)
        · refine st_no ?_ ?_
          · cases i with
            | zero => exact ans_and0 (an_gt (val_var rfl) val_c (decide_eq_false (by decide)))
            | succ j =>
              have lj : j < ls.length := by omega
              have ej := List.getElem?_eq_getElem lj
              have lja : j < as.length := by omega
              have eja := List.getElem?_eq_getElem lja
              have h2 := s1 _ _ (hat j _ _ eja ej)
              have lt := asc_at hi.asc ej eq
              refine ans_and (an_gt (val_var rfl) val_c (decide_eq_true (by omega))) (ans_cmp (x := .int ls[j+1].1) (y := .int ls[j].1) (val_op (val_var rfl) val_c fun Q q => ⟨a, _, 0, _, rfl, rfl, SqT.of h1, rfl, q⟩) ?_ fun Q q => ⟨_, _, rfl, rfl, ?_⟩)
              · refine val_op (x := .ref as[j]) (val_op (val_var rfl) (val_op (z := .int (j : Int)) (val_var rfl) val_c fun Q q => ⟨_, _, rfl, rfl, ?_⟩) fun Q q => ⟨t, _, (j : Int), _, rfl, rfl, .inl (rd_same ht s1), L2.at_of (j := j) rfl (by rw [List.getElem?_map, eja]; rfl), q⟩) val_c fun Q q => ⟨_, _, 0, _, rfl, rfl, SqT.of h2, rfl, q⟩
                have e : ((j + 1 : Nat) : Int) - 1 = (j : Int) := by omega
                show Q (.int (((j + 1 : Nat) : Int) - 1)) _
                rw [e]
                exact q
              · show Q (.bl (decide (ls[j+1].1 ≤ ls[j].1))) _
                rw [decide_eq_false (by omega)]
                exact q
          · exact ⟨_, _, rfl, s1⟩
    · obtain ⟨_, _, rfl, s⟩ := z
      exact q _ s
end
end Lamp
set_option Elab.async false
set_option linter.all false
set_option maxRecDepth 100000
set_option maxHeartbeats 1000000
namespace Lamp
open PySem PySem.Spec PyProof.Rows L2
open TL (tl tl_append ext_tl numL tl_ofString len_tl)
/-! numbers and rounds as texts -/
/-- an integer's text -/
def nS (i : Int) : Str := Str.ofString (toString i)
def sg (i : Int) : List Nat := if i < 0 then [45] else []
theorem tl_nS (i : Int) : tl (nS i) = sg i ++ numL i.natAbs := by
  cases i with
  | ofNat n =>
    have e : ¬ Int.ofNat n < 0 := by simp
    unfold sg
    rw [if_neg e]
    exact TL.tl_num n
  | negSucc n =>
    unfold sg
    rw [if_pos (Int.negSucc_lt_zero n)]
    show tl (Str.ofString ("-" ++ Nat.repr (n + 1))) = [45] ++ numL (n + 1)
    rw [tl_ofString, String.toList_append, List.map_append, Nat.toList_repr]
    rfl
theorem nS_sign {i : Int} {c : Nat} (h : c ∈ tl (nS i)) : c = 45 ∨ (48 ≤ c ∧ c ≤ 57) := by
  rw [tl_nS] at h
  rcases List.mem_append.mp h with h | h
  · unfold sg at h
    split at h
    · exact .inl (List.mem_singleton.mp h)
    · cases h
  · exact .inr (TL.numL_digits _ c h)
theorem nS_free {i : Int} {c : Nat} (h1 : c ≠ 45) (h2 : c < 48 ∨ 57 < c) : c ∉ tl (nS i) := fun z => by
  rcases nS_sign z with e | e
  · exact h1 e
  · omega
theorem nS_len {i : Int} (h : i.natAbs < 10 ^ 40) : (nS i).length ≤ 41 := by
  rw [len_tl, tl_nS, List.length_append]
  have h1 := TL.numL_len (by decide : 0 < 40) h
  have h2 : (sg i).length ≤ 1 := by
    unfold sg
    split <;> simp
  omega
theorem nS_read {i : Int} (h : i.natAbs < 10 ^ 40) : intText? (nS i) = some i := by
  have hl : (nS i).length ≤ 4300 := Nat.le_trans (nS_len h) (by decide)
  have e := tl_nS i
  unfold sg at e
  split at e
  · have z := PySem.intText_neg e (TL.numL_digits _) (TL.numL_ne _) hl
    have z2 : intText? (nS i) = some (-((NumText.digitsVal (numL i.natAbs) : Nat) : Int)) := z
    rw [TL.numL_val] at z2
    rw [z2]
    congr 1
    omega
  · rw [List.nil_append] at e
    have z := PySem.intText_digits (x := nS i) (by rw [show (nS i).cps.toList = _ from e]; exact TL.numL_digits _) (by rw [show (nS i).cps.toList = _ from e]; exact TL.numL_ne _) hl
    rw [show (nS i).cps.toList = _ from e, TL.numL_val] at z
    rw [z]
    congr 1
    omega
theorem nS_inj {i j : Int} (h1 : i.natAbs < 10 ^ 40) (h2 : j.natAbs < 10 ^ 40) (h : nS i = nS j) : i = j := by
  have e := nS_read h1
  rw [h, nS_read h2] at e
  exact (Option.some.inj e).symm
/-- without its sign -/
theorem tl_bare (i : Int) : tl (Txt.removeprefix (nS i) "-") = numL i.natAbs := by
  have hs : Builtin.Str.subAt (nS i) "-" 0 = decide (i < 0) := by
    unfold Builtin.Str.subAt
    have e : ((nS i).cps.extract 0 (0 + ("-" : Str).length)).toList = (tl (nS i)).take 1 := by
      rw [Array.toList_extract]
      rfl
    have e2 : (("-" : Str).cps).toList = [45] := rfl
    have e3 : ((nS i).cps.extract 0 (0 + ("-" : Str).length) == ("-" : Str).cps) = ((tl (nS i)).take 1 == [45]) := by
      rw [Bool.eq_iff_iff, beq_iff_eq, beq_iff_eq, ← e, ← e2]
      exact ⟨fun z => by rw [z], fun z => Array.toList_inj.mp z⟩
    rw [e3, tl_nS]
    unfold sg
    by_cases h : i < 0
    · rw [if_pos h, decide_eq_true h]
      rfl
    · rw [if_neg h, decide_eq_false h, List.nil_append]
      cases hn : numL i.natAbs with
      | nil => exact absurd hn (TL.numL_ne _)
      | cons c r =>
        have hd := TL.numL_digits i.natAbs c (by rw [hn]; exact List.mem_cons_self ..)
        show ([c] == [45]) = false
        rw [beq_eq_false_iff_ne]
        intro z
        have := (List.cons.inj z).1
        omega
  unfold Txt.removeprefix
  rw [hs]
  have e := tl_nS i
  unfold sg at e
  by_cases h : i < 0
  · rw [decide_eq_true h, if_pos rfl]
    rw [if_pos h] at e
    show tl (if ((nS i).length - ("-" : Str).length == (nS i).length) = true then nS i else Builtin.Str.strSub (nS i) ("-" : Str).length (nS i).length) = _
    have hl : (nS i).length ≠ 0 := by
      rw [len_tl, e]
      simp
    rw [if_neg (by rw [beq_iff_eq]; show ¬ (nS i).length - 1 = (nS i).length; omega), TL.tl_strSub_end, e]
    rfl
  · rw [decide_eq_false h, if_neg Bool.false_ne_true]
    rw [if_neg h] at e
    exact e
theorem dig_uni : ∀ c, c < 128 → 48 ≤ c → c ≤ 57 → Unicode.isDigit c = true := by decide +kernel
theorem all_tl (x : Str) (p : Nat → Bool) : x.cps.all p = (tl x).all p := by
  show x.cps.all p = x.cps.toList.all p
  simp
theorem bare_ascii (i : Int) : Txt.isascii (Txt.removeprefix (nS i) "-") = true := by
  unfold Txt.isascii
  rw [all_tl, tl_bare, List.all_eq_true]
  intro c hc
  have := TL.numL_digits _ c hc
  exact decide_eq_true (by omega)
theorem bare_digit (i : Int) : Txt.isdigit (Txt.removeprefix (nS i) "-") = true := by
  unfold Txt.isdigit
  rw [all_tl, len_tl, tl_bare, Bool.and_eq_true, List.all_eq_true]
  refine ⟨decide_eq_true ?_, fun c hc => ?_⟩
  · cases hn : numL i.natAbs with
    | nil => exact absurd hn (TL.numL_ne _)
    | cons c r => exact Nat.succ_pos _
  · have := TL.numL_digits _ c hc
    exact dig_uni c (by omega) this.1 this.2
/-- a lamp's word -/
def lampS (q : Int × Int) : Str := nS q.1 ++ ":" ++ nS q.2
theorem tl_lampS (q : Int × Int) : tl (lampS q) = tl (nS q.1) ++ 58 :: tl (nS q.2) := by
  unfold lampS
  rw [tl_append, tl_append, List.append_assoc]
  rfl
theorem lampS_free (q : Int × Int) : 32 ∉ tl (lampS q) := by
  rw [tl_lampS]
  intro h
  rcases List.mem_append.mp h with h | h
  · exact nS_free (by decide) (.inl (by decide)) h
  · rcases List.mem_cons.mp h with h | h
    · cases h
    · exact nS_free (by decide) (.inl (by decide)) h
theorem lampS_len {q : Int × Int} (h1 : q.1.natAbs < 10 ^ 40) (h2 : q.2.natAbs < 10 ^ 40) : (lampS q).length ≤ 83 := by
  rw [len_tl, tl_lampS, List.length_append, List.length_cons]
  have e1 := nS_len h1
  have e2 := nS_len h2
  rw [len_tl] at e1 e2
  omega
/-- the words behind the end -/
def tailWs (ls : List (Int × Int)) : List Str := match ls with
  | [] => ["dark"]
  | l :: r => "lamps" :: (l :: r).map lampS
def wordsS (lv : Int) (ls : List (Int × Int)) (fin : Int) : List Str := [("levels" : Str), nS lv, ("end" : Str), nS fin] ++ tailWs ls
def sheetS (lv : Int) (ls : List (Int × Int)) (fin : Int) : Str := Txt.join " " (wordsS lv ls fin)
theorem wordsS_free (lv : Int) (ls : List (Int × Int)) (fin : Int) : ∀ p ∈ wordsS lv ls fin, 32 ∉ tl p := by
  intro p hp
  unfold wordsS at hp
  rcases List.mem_append.mp hp with h | h
  · simp only [List.mem_cons, List.not_mem_nil, or_false] at h
    rcases h with rfl | rfl | rfl | rfl
    · decide
    · exact nS_free (by decide) (.inl (by decide))
    · decide
    · exact nS_free (by decide) (.inl (by decide))
  · cases ls with
    | nil =>
      rw [show tailWs [] = [("dark" : Str)] from rfl] at h
      rw [List.mem_singleton.mp h]
      decide
    | cons l r =>
      rcases List.mem_cons.mp h with h | h
      · rw [h]; decide
      · obtain ⟨q, _, rfl⟩ := List.mem_map.mp h
        exact lampS_free q
theorem sheet_split (lv : Int) (ls : List (Int × Int)) (fin : Int) : Txt.split (sheetS lv ls fin) " " = wordsS lv ls fin :=
  TL.split_join (y := (" " : Str)) (s := 32) (S := []) rfl (by rw [all_tl]; decide) (by unfold wordsS; simp) (wordsS_free lv ls fin)
theorem lamp_part (q : Int × Int) : Txt.partition (lampS q) ":" = (nS q.1, (":" : Str), nS q.2) :=
  TL.partition_app (y := (":" : Str)) (s := 58) (S := []) rfl (nS_free (by decide) (.inr (by decide)))
end Lamp
set_option Elab.async false
set_option linter.all false
set_option maxRecDepth 100000
set_option maxHeartbeats 1000000
namespace Lamp
open PySem PySem.Spec PyProof.Rows L2
open TL (tl tl_append ext_tl numL tl_ofString len_tl)
abbrev sReadInt : Stmt := top 20
abbrev sRoundText : Stmt := top 21
abbrev sReadLamp : Stmt := top 22
/-! a round's text, put together as the program and as the law do -/
theorem fits {i : Int} (h1 : -big ≤ i) (h2 : i ≤ big) : i.natAbs < 10 ^ 40 := by
  have hb : big = 1000000000000000000000000000000000000000 := by decide
  rw [hb] at h1 h2
  omega
theorem fits_log {i : Int} (h : i.natAbs < 10 ^ 40) : i.natAbs.log2 < 1920 := Nat.lt_trans (PySem.Flt.log2_lt_of (k := 133) (by decide) (Nat.lt_of_lt_of_le h (by decide))) (by decide)
theorem tl_sheet (lv : Int) (ls : List (Int × Int)) (fin : Int) : tl (sheetS lv ls fin) = TL.joinL [32] ((wordsS lv ls fin).map tl) := by
  unfold sheetS
  rw [TL.join_eq, TL.tl_join]
  rfl
theorem tl_levels : tl ("levels " : Str) = tl ("levels" : Str) ++ [32] := rfl
theorem tl_end : tl (" end " : Str) = [32] ++ (tl ("end" : Str) ++ [32]) := rfl
theorem tl_darks : tl (" dark" : Str) = [32] ++ tl ("dark" : Str) := rfl
theorem tl_lampss : tl (" lamps " : Str) = [32] ++ (tl ("lamps" : Str) ++ [32]) := rfl
theorem tl_lamps : tl ("lamps " : Str) = tl ("lamps" : Str) ++ [32] := rfl
theorem tl_space : tl (" " : Str) = [32] := rfl
theorem tl_none : tl Str.empty = [] := rfl
theorem sheet_dark (lv fin : Int) : Str.empty ++ ("levels " : Str) ++ nS lv ++ (" end " : Str) ++ nS fin ++ (" dark" : Str) = sheetS lv [] fin := by
  refine ext_tl ?_
  rw [tl_sheet]
  simp only [tl_append, tl_levels, tl_end, tl_darks, tl_none, List.nil_append, List.append_assoc]
  rfl
theorem sheet_lamps (lv fin : Int) (l : Int × Int) (r : List (Int × Int)) : Str.empty ++ ("levels " : Str) ++ nS lv ++ (" end " : Str) ++ nS fin ++ (" lamps " : Str) ++ Txt.join (" " : Str) ((l :: r).map lampS) = sheetS lv (l :: r) fin := by
  refine ext_tl ?_
  rw [tl_sheet]
  simp only [tl_append, tl_levels, tl_end, tl_lampss, tl_none, List.nil_append, List.append_assoc, TL.join_eq, TL.tl_join, tl_space]
  rfl
theorem empty_app (x : Str) : Str.empty ++ x = x := ext_tl (by rw [tl_append]; rfl)
theorem len_app (x y : Str) : (x ++ y).length = x.length + y.length := by
  rw [len_tl, tl_append, List.length_append, ← len_tl, ← len_tl]
theorem lampsum : ∀ {ls : List (Int × Int)}, (∀ q ∈ ls, q.1.natAbs < 10 ^ 40 ∧ q.2.natAbs < 10 ^ 40) → ((ls.map lampS).map (·.length)).sum ≤ 83 * ls.length
  | [], _ => Nat.zero_le _
  | q :: r, h => by
    have h1 := h q (List.mem_cons_self ..)
    have h2 := lampS_len h1.1 h1.2
    have h3 := lampsum (ls := r) fun p hp => h p (List.mem_cons_of_mem _ hp)
    rw [List.map_cons, List.map_cons, List.sum_cons, List.length_cons]
    omega
theorem joinlen : ∀ (ps : List (List Nat)), (TL.joinL [32] ps).length ≤ (ps.map (·.length)).sum + ps.length
  | [] => Nat.le_refl _
  | [p] => by show p.length ≤ _; simp
  | p :: q :: r => by
    have h := joinlen (q :: r)
    show (p ++ ([32] ++ TL.joinL [32] (q :: r))).length ≤ _
    rw [List.length_append, List.length_append, List.map_cons, List.sum_cons, List.length_cons (a := p)]
    have e : ([32] : List Nat).length = 1 := rfl
    rw [e]
    omega
theorem joined_len {ls : List (Int × Int)} (h : ∀ q ∈ ls, q.1.natAbs < 10 ^ 40 ∧ q.2.natAbs < 10 ^ 40) : (Txt.join (" " : Str) (ls.map lampS)).length ≤ 84 * ls.length := by
  rw [len_tl, TL.join_eq, TL.tl_join, tl_space]
  have h1 := joinlen ((ls.map lampS).map tl)
  have h2 := lampsum h
  have h3 : (((ls.map lampS).map tl).map (·.length)).sum = ((ls.map lampS).map (·.length)).sum := by
    rw [List.map_map]
    congr 1
  rw [h3] at h1
  simp only [List.length_map] at h1
  omega
theorem sheet_len {lv : Int} {ls : List (Int × Int)} {fin : Int} (h0 : lv.natAbs < 10 ^ 40) (h1 : fin.natAbs < 10 ^ 40) (h : ∀ q ∈ ls, q.1.natAbs < 10 ^ 40 ∧ q.2.natAbs < 10 ^ 40) : (sheetS lv ls fin).length ≤ 110 + 84 * ls.length := by
  have e1 := nS_len h0
  have e2 := nS_len h1
  cases ls with
  | nil =>
    rw [← sheet_dark]
    simp only [len_app]
    have c1 : (Str.empty).length = 0 := rfl
    have c2 : ("levels " : Str).length = 7 := rfl
    have c3 : (" end " : Str).length = 5 := rfl
    have c4 : (" dark" : Str).length = 5 := rfl
    omega
  | cons l r =>
    rw [← sheet_lamps]
    have e3 := joined_len h
    simp only [len_app]
    have c1 : (Str.empty).length = 0 := rfl
    have c2 : ("levels " : Str).length = 7 := rfl
    have c3 : (" end " : Str).length = 5 := rfl
    have c4 : (" lamps " : Str).length = 7 := rfl
    omega
theorem le_line {n : Nat} (h : n ≤ 1000) : n ≤ sizeLine := Nat.le_of_lt (small1000 h)
/-- parts whose text is short -/
structure Fit (lv : Int) (ls : List (Int × Int)) (fin : Int) : Prop where
  lv : lv.natAbs < 10 ^ 40
  fin : fin.natAbs < 10 ^ 40
  few : ls.length ≤ 10
  all : ∀ q ∈ ls, q.1.natAbs < 10 ^ 40 ∧ q.2.natAbs < 10 ^ 40
def spReadInt : Sp := fun vs H Q _ => ∃ i : Int, vs = [.str (nS i)] ∧ i.natAbs < 10 ^ 40 ∧ Q (.int i) H
def spRoundText (K : PySem.W.Frag) : Sp := fun vs H Q _ => ∃ (lv fin : Int) (t : Addr) (ls : List (Int × Int)), vs = [.int lv, .ref t, .int fin] ∧ Fit lv ls fin ∧ PicAt K H t ls ∧ ∀ H', Same H H' → Q (.str (sheetS lv ls fin)) H'
def spReadLamp : Sp := fun vs H Q _ => ∃ q : Int × Int, vs = [.str (lampS q)] ∧ q.1.natAbs < 10 ^ 40 ∧ q.2.natAbs < 10 ^ 40 ∧ ∀ a H', Same H H' → H' a = some (.tup [.int q.1, .int q.2]) → Q (.ref a) H'
section
variable {P : Program} {w : World} {K : PySem.W.Frag} {mg : Str → Option Value} {base : Heap}
theorem scReadInt : FnScope ["word", "digits", "number"] ["word"] (defScope sReadInt) := ⟨rfl, rfl, rfl, by decide +kernel, rfl, by decide +kernel, by decide +kernel⟩
theorem scRoundText : FnScope ["levels", "lamps", "end", "words", "place", "level"] ["levels", "lamps", "end"] (defScope sRoundText) := ⟨rfl, rfl, rfl, by decide +kernel, rfl, by decide +kernel, by decide +kernel⟩
theorem scReadLamp : FnScope ["word", "first", "_", "second", "place", "level"] ["word"] (defScope sReadLamp) := ⟨rfl, rfl, rfl, by decide +kernel, rfl, by decide +kernel, by decide +kernel⟩
theorem ok_readInt {f : Addr} {fd : FuncData} (F : Fun K "read_integer" "read_integer" sReadInt f fd) (mi : mg "int" = none) (ms : mg "str" = none) : FnOk P w K mg base CX0 1 f fd ["word"] spReadInt := by
  refine F.ok scReadInt (fun vs H Q E h => ?_) (fun cdv A outer s H vs Q E hr h => ?_)
  · obtain ⟨i, rfl, _⟩ := h
    rfl
  · obtain ⟨i, rfl, hi, q⟩ := h
    have hl : (nS i).length ≤ 41 := nS_len hi
    refine ⟨_, pss_cons (ps_set (i := 1) scReadInt.nd rfl (.inl rfl) (pe_m1 PySem.F.slot_str_removeprefix PySem.F.type_str_removeprefix mt_removeprefix (pv 0) pe_str))
      (pss_cons (ps_if (PW.pt (pw_or (pt_not (pt_val (pe_m0 PySem.F.slot_str_isascii PySem.F.type_str_isascii mt_isascii (pv 1)))) (pw_or1 (pt_not (pt_val (pe_m0 PySem.F.slot_str_isdigit PySem.F.type_str_isdigit mt_isdigit (pv 1))))))) pss_never pss_nil)
      (pss_cons (ps_set (i := 2) scReadInt.nd rfl (.inl rfl) (pe_callTy call_int_str (by rfl) mi (by decide +kernel) (pa_cons (pv 0) pa_nil)))
      (pss_cons (ps_if (pt_cmpR op_ne (pe_callTy call_str_int (by rfl) ms (by decide +kernel) (pa_cons (pv 2) pa_nil)) (pv 0) (nomark _)) pss_never pss_nil)
      (pss_one (ps_ret (pv 2)))))), ?_⟩
    refine sq_set (v := .str (Txt.removeprefix (nS i) "-")) (fun Q q => ⟨_, rfl, ⟨_, rfl⟩, _, _, rfl, rfl, le_line (by omega), q⟩) ?_
    refine sq_no (ans_or (ans_not (b := true) (ans_val fun Q q => ⟨_, rfl, ⟨_, rfl⟩, _, rfl, rfl, trivial, by rw [bare_ascii]; exact q⟩)) (ans_not (b := true) (ans_val fun Q q => ⟨_, rfl, ⟨_, rfl⟩, _, rfl, rfl, trivial, by rw [bare_digit]; exact q⟩))) ?_
    refine sq_set (v := .int i) (fun Q q => ⟨_, rfl, _, i, rfl, nS_read hi, by omega, q⟩) ?_
    refine sq_no (ans_ne (x := .str (nS i)) (y := .str (nS i)) (fun Q q => ⟨_, rfl, i, rfl, fits_log hi, q⟩) (val_var rfl) rfl (by rw [decide_eq_true rfl]; rfl)) ?_
    exact st_ret (val_var rfl) q
section
variable {σ : L2.St} {H : Hp} {te : TE} {ts : List TE} {acc y : Str} {i : Int} {Q : Str → Hp → Prop}
theorem js_c (hl : (acc ++ y).length ≤ sizeLine) (k : tJs ts (acc ++ y) σ H Q) : tJs (tC (.str y) :: ts) acc σ H Q := ⟨y, rfl, hl, k⟩
theorem js_i (h : Val te σ H (.int i)) (hi : i.natAbs < 10 ^ 40) (hl : (acc ++ nS i).length ≤ sizeLine) (k : tJs ts (acc ++ nS i) σ H Q) : tJs (tFmt te :: ts) acc σ H Q := h _ (.inr ⟨i, rfl, fits_log hi, _, rfl, hl, k⟩)
theorem js_s (h : Val te σ H (.str y)) (hy : y.length ≤ sizeLine) (hl : (acc ++ y).length ≤ sizeLine) (k : tJs ts (acc ++ y) σ H Q) : tJs (tFmt te :: ts) acc σ H Q := h _ (.inl ⟨y, rfl, hy, _, rfl, hl, k⟩)
end
/-- the texts one behind the other, as a value -/
def tJ (ts : List TE) : TE := fun σ H Q => tJs ts Str.empty σ H fun out H1 => Q (.str out) H1
theorem pe_js {X : Cx} {v1 v2 : Expr} {rest : List Expr} {ts : List TE} {pos : Pos} (h : PJ X (v1 :: v2 :: rest) ts) : PE X (.JoinedStr (v1 :: v2 :: rest) pos) (tJ ts) := pe_joined h
theorem ok_roundText {f : Addr} {fd : FuncData} (F : Fun K "round_text" "round_text" sRoundText f fd) : FnOk P w K mg base CX0 1 f fd ["levels", "lamps", "end"] (spRoundText K) := by
  refine F.ok scRoundText (fun vs H Q E h => ?_) (fun cdv A outer s H vs Q E hr h => ?_)
  · obtain ⟨lv, fin, t, ls, rfl, _⟩ := h
    rfl
  · obtain ⟨lv, fin, t, ls, rfl, hf, hp, q⟩ := h
    obtain ⟨as, ht, hlen, hat⟩ := pair_get hp
    have e1 := nS_len hf.lv
    have e2 := nS_len hf.fin
    have few := hf.few
    refine ⟨_, pss_cons (ps_if (pt_not (pt_truth (pv 1) (fun _ => rfl))) (pss_one (ps_ret (pe_js (.cons pe_str (.cons (pe_fmt (pv 0)) (.cons pe_str (.cons (pe_fmt (pv 2)) (.cons pe_str .nil)))))))) pss_nil)
      (pss_cons (ps_set (i := 3) scRoundText.nd rfl (.inl rfl) (pe_join pe_str (pe_lc (own := [("place", 4), ("level", 5)]) (g := gTup K 2 (gCons (gName 4) (gCons (gName 5) gNil))) (tt := tYes) rfl scRoundText.nd (pi_tup (pv 1))
          (blkOk_by (own := [("place", 4), ("level", 5)]) (N := ["levels", "lamps", "end", "words", "place", "level"]) (sc := defScope sRoundText) (by decide +kernel))
          (fun _ _ _ _ _ => pg_tup rfl (pgs_cons (pg_name (i := 4) scRoundText.nd rfl (Or.inl rfl)) (pgs_cons (pg_name (i := 5) scRoundText.nd rfl (Or.inl rfl)) pgs_nil))) (fun _ _ _ _ _ => pts_nil)
          (fun _ _ _ _ _ => pe_js (.cons (pe_fmt (pv 4)) (.cons pe_str (.cons (pe_fmt (pv 5)) .nil)))))))
      (pss_one (ps_ret (pe_js (.cons pe_str (.cons (pe_fmt (pv 0)) (.cons pe_str (.cons (pe_fmt (pv 2)) (.cons pe_str (.cons (pe_fmt (pv 3)) .nil)))))))))), ?_⟩
    have c0 : (Str.empty).length = 0 := rfl
    have c1 : ("levels " : Str).length = 7 := rfl
    have c2 : (" end " : Str).length = 5 := rfl
    have c3 : (" dark" : Str).length = 5 := rfl
    have c4 : (" lamps " : Str).length = 7 := rfl
    have c5 : (":" : Str).length = 1 := rfl
    cases ls with
    | nil =>
      have ea : as = [] := List.length_eq_zero_iff.mp hlen
      subst ea
      refine sq_yes (ans_not (b := false) (ans_tru (x := .ref t) (val_var rfl) (.inr (.inl ⟨_, .inl ht, rfl⟩)))) ?_
      refine js_c (by simp only [len_app]; exact le_line (by omega)) (js_i (val_var rfl) hf.lv (by simp only [len_app]; exact le_line (by omega)) (js_c (by simp only [len_app]; exact le_line (by omega))
        (js_i (val_var rfl) hf.fin (by simp only [len_app]; exact le_line (by omega)) (js_c (by simp only [len_app]; exact le_line (by omega)) ?_))))
      show Q (.str _) H
      rw [sheet_dark]
      exact q H (Same.refl H)
    | cons l r =>
      have el : (as.map V.ref).isEmpty = false := by
        cases as with
        | nil => cases hlen
        | cons _ _ => rfl
      refine sq_no (ans_not (b := true) (ans_tru (x := .ref t) (val_var rfl) (.inr (.inl ⟨_, .inl ht, by rw [el]; rfl⟩)))) ?_
      refine ⟨⟨_, rfl⟩, _, rfl, t, rfl, ⟨_, .inl ht⟩, fun D hD => ?_⟩
      refine lc_tup (K := K) (a := t) (xs := as.map V.ref) (fun i H' => Same H H' ∧ H' D = some (.lst ((((l :: r).take i).map lampS).map V.str))) ⟨same_of hD, upd_same⟩ (fun i H' _ z => .inl (rd_same ht z.1)) (fun i x H' hi z => ?_) (fun H' z => ?_)
      · obtain ⟨sb, hl⟩ := z
        rw [List.getElem?_map] at hi
        cases ea : as[i]? with
        | none => rw [ea] at hi; cases hi
        | some a =>
          rw [ea] at hi
          have ex : x = V.ref a := (Option.some.inj hi).symm
          subst ex
          have li : i < (l :: r).length := by
            rw [← hlen]
            exact (List.getElem?_eq_some_iff.mp ea).1
          have eq := List.getElem?_eq_getElem li
          have ha := sb _ _ (hat i a _ ea eq)
          have fq := hf.all _ (List.getElem_mem li)
          have f1 := nS_len fq.1
          have f2 := nS_len fq.2
          refine ⟨a, _, rfl, SqT.of ha, rfl, _, _, rfl, _, _, rfl, rfl, rfl, ?_⟩
          refine js_i (val_var rfl) fq.1 (by simp only [len_app]; exact le_line (by omega)) (js_c (by simp only [len_app]; exact le_line (by omega)) (js_i (val_var rfl) fq.2 (by simp only [len_app]; exact le_line (by omega)) ?_))
          refine ⟨_, hl, ?_, fun b o e => ?_, ?_⟩
          · rw [List.length_map, List.length_map, List.length_take]
            exact small1000 (by omega)
          · have nb : b ≠ D := fun z => by rw [z, hD] at e; cases e
            rw [upd_ne nb]
            exact sb _ _ e
          · rw [upd_same, List.take_add_one, eq, List.map_append, List.map_append, empty_app]
            rfl
      · obtain ⟨sb, hl⟩ := z
        rw [List.length_map, hlen, List.take_length] at hl
        have jl := joined_len hf.all
        refine ⟨_, D, (l :: r).map lampS, rfl, rfl, .inl (SqL.of hl), ?_, ?_⟩
        · have h1 := lampsum hf.all
          have h2 : (" " : Str).length = 1 := rfl
          rw [h2]
          simp only [List.length_map]
          omega
        · refine js_c (by simp only [len_app]; exact le_line (by omega)) (js_i (val_var rfl) hf.lv (by simp only [len_app]; exact le_line (by omega)) (js_c (by simp only [len_app]; exact le_line (by omega))
            (js_i (val_var rfl) hf.fin (by simp only [len_app]; exact le_line (by omega)) (js_c (by simp only [len_app]; exact le_line (by omega)) (js_s (y := Txt.join (" " : Str) ((l :: r).map lampS)) (val_var rfl) (le_line (by omega)) (by simp only [len_app]; exact le_line (by omega)) ?_)))))
          show Q (.str _) H'
          rw [sheet_lamps]
          exact q H' sb
theorem ok_readLamp {f : Addr} {fd : FuncData} (F : Fun K "read_lamp" "read_lamp" sReadLamp f fd) (R : Dr P w K mg base spReadInt "read_integer" ["word"] 1) : FnOk P w K mg base CX0 2 f fd ["word"] spReadLamp := by
  refine F.ok scReadLamp (fun vs H Q E h => ?_) (fun cdv A outer s H vs Q E hr h => ?_)
  · obtain ⟨q, rfl, _⟩ := h
    rfl
  · obtain ⟨⟨x, y⟩, rfl, hx, hy, q⟩ := h
    have hl := lampS_len (q := (x, y)) hx hy
    refine ⟨_, pss_cons (ps_asg (pe_partition (pv 0) pe_str) (pg_tup rfl (pgs_cons (pg_name (i := 1) scReadLamp.nd rfl (.inl rfl)) (pgs_cons (pg_name (i := 2) scReadLamp.nd rfl (.inl rfl)) (pgs_cons (pg_name (i := 3) scReadLamp.nd rfl (.inl rfl)) pgs_nil)))))
      (pss_cons (ps_set (i := 4) scReadLamp.nd rfl (.inl rfl) (pe_dr R (Nat.le_refl _) hr rfl (pa_cons (pv 1) pa_nil)))
      (pss_cons (ps_set (i := 5) scReadLamp.nd rfl (.inl rfl) (pe_dr R (Nat.le_refl _) hr rfl (pa_cons (pv 3) pa_nil)))
      (pss_cons (ps_if (PW.pt (pw_or (pt_cmpR op_isN1 (pv 4) pe_non (nomark _)) (pw_or1 (pt_cmpR op_isN1 (pv 5) pe_non (nomark _))))) pss_never pss_nil)
      (pss_one (ps_ret (pe_tup (pa_cons (pv 4) (pa_cons (pv 5) pa_nil)))))))), ?_⟩
    refine ⟨_, rfl, ⟨_, rfl⟩, _, (":" : Str), rfl, rfl, rfl, le_line (by omega), fun p np => ?_⟩
    rw [lamp_part]
    have s1 := same_of (o := .tup [V.str (nS x), V.str (":" : Str), V.str (nS y)]) np
    refine ⟨p, _, rfl, SqT.of upd_same, rfl, _, _, rfl, _, _, rfl, _, _, rfl, rfl, ?_⟩
    refine ⟨_, rfl, x, rfl, hx, ?_⟩
    refine ⟨_, rfl, y, rfl, hy, ?_⟩
    refine sq_no (ans_or (ans_isN (x := .int x) (val_var rfl) rfl) (ans_isN (x := .int y) (val_var rfl) rfl)) ?_
    refine ⟨_, rfl, _, rfl, le_line (by show 2 ≤ 1000; decide), fun a na => ?_⟩
    exact q a _ (s1.trans (same_of na)) upd_same
end
end Lamp
set_option Elab.async false
set_option linter.all false
set_option maxRecDepth 100000
set_option maxHeartbeats 1000000
namespace Lamp
open PySem PySem.Spec PyProof.Rows L2
open TL (tl tl_append ext_tl numL tl_ofString len_tl)
abbrev sReadLamps : Stmt := top 23
abbrev sReadParts : Stmt := top 24
/-! the texts' signs, the texts as data -/
def Asc (x : Str) : Prop := ∀ c ∈ tl x, c < 128
theorem asc_ok {x : Str} (h : Asc x) : PyData.strOk x = true := by
  unfold PyData.strOk
  rw [all_tl, List.all_eq_true]
  intro c hc
  have := h c hc
  exact decide_eq_true (by omega)
theorem asc_nS (i : Int) : Asc (nS i) := fun c hc => by
  rcases nS_sign hc with e | e <;> omega
theorem asc_app {x y : Str} (h1 : Asc x) (h2 : Asc y) : Asc (x ++ y) := fun c hc => by
  rw [tl_append] at hc
  rcases List.mem_append.mp hc with h | h
  · exact h1 c h
  · exact h2 c h
theorem asc_lampS (q : Int × Int) : Asc (lampS q) := asc_app (asc_app (asc_nS _) (by intro c hc; revert c; decide)) (asc_nS _)
theorem asc_tailWs {ls : List (Int × Int)} : ∀ x ∈ tailWs ls, Asc x := fun x hx => by
  cases ls with
  | nil =>
    rw [List.mem_singleton.mp (show x ∈ [("dark" : Str)] from hx)]
    intro c hc; revert c; decide
  | cons l r =>
    rcases List.mem_cons.mp hx with h | h
    · rw [h]
      intro c hc; revert c; decide
    · obtain ⟨q, _, rfl⟩ := List.mem_map.mp h
      exact asc_lampS q
theorem asc_joinL : ∀ {ps : List (List Nat)}, (∀ p ∈ ps, ∀ c ∈ p, c < 128) → ∀ c ∈ TL.joinL [32] ps, c < 128
  | [], _, c, hc => by cases hc
  | [p], h, c, hc => h p (List.mem_singleton.mpr rfl) c hc
  | p :: q :: r, h, c, hc => by
    rcases List.mem_append.mp (show c ∈ p ++ ([32] ++ TL.joinL [32] (q :: r)) from hc) with h1 | h1
    · exact h p (List.mem_cons_self ..) c h1
    · rcases List.mem_append.mp h1 with h2 | h2
      · rw [List.mem_singleton.mp h2]; decide
      · exact asc_joinL (fun z hz => h z (List.mem_cons_of_mem _ hz)) c h2
theorem asc_words {lv : Int} {ls : List (Int × Int)} {fin : Int} : ∀ x ∈ wordsS lv ls fin, Asc x := fun x hx => by
  unfold wordsS at hx
  rcases List.mem_append.mp hx with h | h
  · simp only [List.mem_cons, List.not_mem_nil, or_false] at h
    rcases h with rfl | rfl | rfl | rfl
    · intro c hc; revert c; decide
    · exact asc_nS _
    · intro c hc; revert c; decide
    · exact asc_nS _
  · exact asc_tailWs x h
theorem asc_sheet (lv : Int) (ls : List (Int × Int)) (fin : Int) : Asc (sheetS lv ls fin) := fun c hc => by
  rw [tl_sheet] at hc
  refine asc_joinL (fun p hp d hd => ?_) c hc
  obtain ⟨x, hx, rfl⟩ := List.mem_map.mp hp
  exact asc_words x hx d hd
def strsD (xs : List Str) : List PyData := xs.map PyData.str
def pairD (q : Int × Int) : PyData := .tuple [.int q.1, .int q.2]
theorem lay_strs : ∀ {xs : List Str}, (∀ x ∈ xs, Asc x) → PyData.canLayAll0 (strsD xs) = true ∧ PyData.depthAll (strsD xs) = 0
  | [], _ => ⟨rfl, rfl⟩
  | x :: xs, h => by
    obtain ⟨h1, h2⟩ := lay_strs (xs := xs) fun y hy => h y (List.mem_cons_of_mem _ hy)
    refine ⟨?_, ?_⟩
    · show (PyData.canLay0 (.str x) && PyData.canLayAll0 (strsD xs)) = true
      rw [h1, Bool.and_true]
      exact asc_ok (h x (List.mem_cons_self ..))
    · show max 0 (PyData.depthAll (strsD xs)) = 0
      rw [h2]
      rfl
theorem lay_pairs : ∀ (ls : List (Int × Int)), PyData.canLayAll0 (ls.map pairD) = true ∧ PyData.depthAll (ls.map pairD) ≤ 1
  | [] => ⟨rfl, Nat.zero_le _⟩
  | q :: r => by
    obtain ⟨h1, h2⟩ := lay_pairs r
    refine ⟨?_, ?_⟩
    · show (PyData.canLay0 (pairD q) && PyData.canLayAll0 (r.map pairD)) = true
      rw [h1, Bool.and_true]
      rfl
    · show max (PyData.depth (pairD q)) (PyData.depthAll (r.map pairD)) ≤ 1
      have e : PyData.depth (pairD q) = 1 := rfl
      rw [e]
      omega
theorem shaped_strs {xs : List Str} (h : ∀ x ∈ xs, Asc x) : SeqAt.shaped (.list (strsD xs)) = true := by
  obtain ⟨h1, h2⟩ := lay_strs h
  unfold SeqAt.shaped
  rw [Bool.and_eq_true]
  refine ⟨h1, decide_eq_true ?_⟩
  show PyData.depthAll (strsD xs) + 1 ≤ 64
  omega
theorem shaped_pairs (ls : List (Int × Int)) : SeqAt.shaped (.list (ls.map pairD)) = true ∧ SeqAt.shaped (.tuple (ls.map pairD)) = true := by
  obtain ⟨h1, h2⟩ := lay_pairs ls
  unfold SeqAt.shaped
  rw [Bool.and_eq_true, Bool.and_eq_true]
  refine ⟨⟨h1, decide_eq_true ?_⟩, ⟨h1, decide_eq_true ?_⟩⟩
  · show PyData.depthAll (ls.map pairD) + 1 ≤ 64
    omega
  · show PyData.depthAll (ls.map pairD) + 1 ≤ 64
    omega
theorem dp_strs {K : PySem.W.Frag} {H : Hp} : ∀ (xs : List Str), DpAll K H (xs.map V.str) (strsD xs)
  | [] => .nil
  | x :: xs => .cons (.str x) (dp_strs xs)
theorem dp_pairs {K : PySem.W.Frag} {H : Hp} : ∀ {as : List Addr} {ls : List (Int × Int)}, Paired (fun a (q : Int × Int) => H a = some (.tup [.int q.1, .int q.2])) as ls → DpAll K H (as.map V.ref) (ls.map pairD)
  | _, _, .nil => .nil
  | _, _, .cons h t => .cons (.tup (SqT.of h) (.cons (.int _) (.cons (.int _) .nil))) (dp_pairs t)
theorem dp_pic {K : PySem.W.Frag} {H : Hp} {t : Addr} {ls : List (Int × Int)} (h : PicAt K H t ls) : Dp K H (.ref t) (.tuple (ls.map pairD)) := by
  obtain ⟨as, h1, h2⟩ := h
  exact .tup (.inl h1) (dp_pairs h2)
theorem no_none (ls : List (Int × Int)) : ((ls.map pairD).any fun z => PyData.eqv z .none) = false := by
  rw [List.any_map]
  exact List.any_eq_false.mpr fun q _ => by simp [pairD, PyData.eqv]
theorem cut1 (x : V) (xs : List V) : cutV (x :: xs) (some 1) none = xs := by
  unfold cutV
  have e1 : HT.sIx (x :: xs).length 0 (some 1) = 1 := by
    rw [show (some (1 : Int)) = some ((1 : Nat) : Int) from rfl, HT.sIx_nat, List.length_cons]
    omega
  rw [e1, HT.sIx_none]
  show xs.take ((x :: xs).length - 1) = xs
  rw [List.length_cons]
  exact List.take_of_length_le (by omega)
def spReadLamps : Sp := fun vs H Q _ => ∃ (wl : Addr) (ls : List (Int × Int)), vs = [.ref wl] ∧ H wl = some (.lst ((tailWs ls).map V.str)) ∧ (∀ q ∈ ls, q.1.natAbs < 10 ^ 40 ∧ q.2.natAbs < 10 ^ 40) ∧ ls.length ≤ 10 ∧
  ∀ t H', Same H H' → (∃ as : List Addr, H' t = some (.tup (as.map V.ref)) ∧ Paired (fun a (q : Int × Int) => H' a = some (.tup [.int q.1, .int q.2])) as ls) → Q (.ref t) H'
def spReadParts : Sp := fun vs H Q _ => ∃ (lv fin : Int) (ls : List (Int × Int)), vs = [.str (sheetS lv ls fin)] ∧ Fit lv ls fin ∧
  ∀ l t H', Same H H' → H' l = some (.tup [.int lv, .ref t, .int fin]) → (∃ as : List Addr, H' t = some (.tup (as.map V.ref)) ∧ Paired (fun a (q : Int × Int) => H' a = some (.tup [.int q.1, .int q.2])) as ls) → Q (.ref l) H'
section
variable {P : Program} {w : World} {K : PySem.W.Frag} {mg : Str → Option Value} {base : Heap}
theorem scReadLamps : FnScope ["words", "lamps", "word"] ["words"] (defScope sReadLamps) := ⟨rfl, rfl, rfl, by decide +kernel, rfl, by decide +kernel, by decide +kernel⟩
theorem scReadParts : FnScope ["text", "words", "levels", "end", "lamps"] ["text"] (defScope sReadParts) := ⟨rfl, rfl, rfl, by decide +kernel, rfl, by decide +kernel, by decide +kernel⟩
theorem ok_readLamps {f : Addr} {fd : FuncData} (F : Fun K "read_lamps" "read_lamps" sReadLamps f fd) (R : Dr P w K mg base spReadLamp "read_lamp" ["word"] 2) (ml : mg "len" = none) (mt : mg "tuple" = none) : FnOk P w K mg base CX0 3 f fd ["words"] spReadLamps := by
  refine F.ok scReadLamps (fun vs H Q E h => ?_) (fun cdv A outer s H vs Q E hr h => ?_)
  · obtain ⟨q, ls, rfl, _⟩ := h
    rfl
  · obtain ⟨wl, ls, rfl, hw, hf, few, q⟩ := h
    have hu := hr.units
    have hu65 := hr.in1.units
    refine ⟨_, pss_cons (ps_if (pt_cmpR (op_eqD hu) (pv 0) (pe_lst (pa_cons pe_str pa_nil)) (nomark _)) (pss_one (ps_ret (pe_tup pa_nil))) pss_nil)
      (pss_cons (ps_if (PW.pt (pw_or (pt_cmpR op_ne (pe_ix ix_list (pv 0) pe_int (fun _ _ => rfl)) pe_str (nomark _)) (pw_or1 (pt_cmpR op_eq (pe_callB call_len_seq (by rfl) ml PySem.boot_len (pa_cons (pv 0) pa_nil)) pe_int (nomark _))))) pss_never pss_nil)
      (pss_cons (ps_setLc (i := 1) (own := [("word", 2)]) (g := gName 2) (tt := tYes) rfl scReadLamps.nd rfl rfl (sw_true rfl rfl rfl rfl) (pi_list (pe_slice (r := rSlL K) sl_list (pv 0) (po_some pe_int) po_none))
          (blkOk_by (own := [("word", 2)]) (N := ["words", "lamps", "word"]) (sc := defScope sReadLamps) (by decide +kernel)) (fun _ _ _ _ _ => pg_name (i := 2) scReadLamps.nd rfl (Or.inl rfl)) (fun _ _ _ _ _ => pts_nil)
          (fun _ _ _ _ _ => pe_dr R (Nat.le_refl _) hr rfl (pa_cons (pv 2) pa_nil)))
      (pss_cons (ps_if (pt_cmpR (op_inD (by exact hu65)) pe_non (pv 1) (by rfl)) pss_never pss_nil)
      (pss_one (ps_ret (pe_callTy call_tuple_of (by rfl) mt (by decide +kernel) (pa_cons (pv 1) pa_nil))))))), ?_⟩
    cases ls with
    | nil =>
      have hw' : H wl = some (.lst [V.str ("dark" : Str)]) := hw
      refine ⟨_, rfl, le_line (by show 1 ≤ 1000; decide), fun p np => ?_⟩
      have s1 := same_of (o := .lst [V.str ("dark" : Str)]) np
      refine ⟨.list [.str ("dark" : Str)], .list [.str ("dark" : Str)], .lst (SqL.of (s1 _ _ hw')) (.cons (.str _) .nil), .lst (SqL.of upd_same) (.cons (.str _) .nil), by decide +kernel, by decide +kernel, true, ?_, ?_⟩
      · show V.bl _ = V.bl true
        congr 1
      · refine iteT ?_
        refine ⟨le_line (by show 0 ≤ 1000; decide), fun t nt => ?_⟩
        exact q t _ (s1.trans (same_of nt)) ⟨[], upd_same, .nil⟩
    | cons l r =>
      have hw' : H wl = some (.lst (V.str ("lamps" : Str) :: ((l :: r).map lampS).map V.str)) := hw
      have hlw : (V.str ("lamps" : Str) :: ((l :: r).map lampS).map V.str).length = r.length + 2 := by simp
      have few' : r.length + 1 ≤ 10 := few
      refine ⟨_, rfl, le_line (by show 1 ≤ 1000; decide), fun p np => ?_⟩
      have s1 := same_of (o := .lst [V.str ("dark" : Str)]) np
      refine ⟨.list (.str ("lamps" : Str) :: strsD ((l :: r).map lampS)), .list [.str ("dark" : Str)], .lst (SqL.of (s1 _ _ hw')) (.cons (.str _) (dp_strs _)), .lst (SqL.of upd_same) (.cons (.str _) .nil),
        shaped_strs (xs := ("lamps" : Str) :: (l :: r).map lampS) (fun x hx => asc_tailWs (ls := l :: r) x hx), by decide +kernel, false, ?_, ?_⟩
      · show V.bl (PyData.eqv (.str ("lamps" : Str)) (.str ("dark" : Str)) && PyData.eqvAll (strsD ((l :: r).map lampS)) []) = V.bl false
        rw [show PyData.eqv (.str ("lamps" : Str)) (.str ("dark" : Str)) = false from by decide +kernel]
        rfl
      · refine iteF ?_
        have hw1 := s1 _ _ hw'
        refine sq_no (ans_or (ans_ne (x := .str ("lamps" : Str)) (y := .str ("lamps" : Str)) (val_op (val_var rfl) val_c (lv_ix hw1 (L2.at_of (j := 0) rfl rfl))) val_c rfl (by rw [decide_eq_true rfl]; rfl)) (ans_eq (x := .int (((V.str ("lamps" : Str) :: ((l :: r).map lampS).map V.str).length : Nat) : Int)) (y := .int 1) (lv_len (val_var rfl) (SqL.of hw1)) val_c rfl ?_)) ?_
        · rw [hlw]
          exact decide_eq_false fun z => by have := V.int.inj z; omega
        refine ⟨_, rfl, 1, rfl, wl, _, rfl, SqL.of hw1, fun c nc => ⟨c, rfl, ⟨_, SqL.of upd_same⟩, fun D hD => ?_⟩⟩
        rw [cut1] at *
        have s2 := s1.trans (same_of (o := .lst (((l :: r).map lampS).map V.str)) nc)
        have hc : (upd (upd H p (.lst [V.str ("dark" : Str)])) c (.lst (((l :: r).map lampS).map V.str))) c = some (.lst (((l :: r).map lampS).map V.str)) := upd_same
        revert hD hc s2
        generalize (upd (upd H p (.lst [V.str ("dark" : Str)])) c (.lst (((l :: r).map lampS).map V.str))) = Hb
        intro hD s2 hc
        refine lc_list (K := K) (a := c) (xs := ((l :: r).map lampS).map V.str) (fun i H' => Same Hb H' ∧ ∃ as : List Addr, H' D = some (.lst (as.map V.ref)) ∧ Paired (fun a (qq : Int × Int) => H' a = some (.tup [.int qq.1, .int qq.2]) ∧ a ≠ D) as ((l :: r).take i))
          ⟨same_of hD, [], upd_same, by rw [List.take_zero]; exact .nil⟩ (fun i H' _ z => SqL.of (z.1 _ _ hc)) (fun i x H' hi z => ?_) (fun H' z => ?_)
        · obtain ⟨sb, as, hlD, hpa⟩ := z
          rw [List.getElem?_map, List.getElem?_map] at hi
          cases eq : (l :: r)[i]? with
          | none => rw [eq] at hi; cases hi
          | some qq =>
            rw [eq] at hi
            have ex : x = V.str (lampS qq) := (Option.some.inj hi).symm
            subst ex
            have hq := hf qq (List.mem_of_getElem? eq)
            refine ⟨rfl, ?_⟩
            refine ⟨_, rfl, qq, rfl, hq.1, hq.2, fun a H2 s3 ha => ?_⟩
            have aD : a ≠ D := fun e => by rw [e, s3 _ _ hlD] at ha; cases ha
            refine ⟨as.map V.ref, s3 _ _ hlD, ?_, fun b' o e => ?_, as ++ [a], ?_, ?_⟩
            · have hl1 := Paired.length hpa
              rw [List.length_take, List.length_cons] at hl1
              rw [List.length_map]
              exact small1000 (by omega)
            · have nb : b' ≠ D := fun z => by rw [z, hD] at e; cases e
              rw [upd_ne nb]
              exact s3 _ _ (sb _ _ e)
            · rw [upd_same, List.map_append]
              rfl
            · rw [List.take_add_one, eq]
              refine paired_app (L2.Paired.mapP hpa fun a' qq hz => ?_) (.cons ⟨?_, aD⟩ .nil)
              · exact ⟨by rw [upd_ne hz.2]; exact s3 _ _ hz.1, hz.2⟩
              · rw [upd_ne aD]
                exact ha
        · obtain ⟨sb, as, hlD, hpa⟩ := z
          rw [List.length_map, List.length_map, List.take_length] at hpa
          have hpb : Paired (fun a (q : Int × Int) => H' a = some (.tup [.int q.1, .int q.2])) as (l :: r) := L2.Paired.mapP hpa fun a qq hz => hz.1
          refine ⟨_, rfl, .none, (l :: r).map pairD, .non, .lst (SqL.of hlD) (dp_pairs hpb), by decide +kernel, (shaped_pairs (l :: r)).1, false, ?_, ?_⟩
          · show V.bl _ = V.bl false
            rw [no_none]
          · refine iteF ?_
            refine ⟨_, rfl, D, as.map V.ref, rfl, .inl ⟨SqL.of hlD, fun t nt => ?_⟩⟩
            have s4 := same_of (o := .tup (as.map V.ref)) nt
            exact q t _ ((s2.trans sb).trans s4) ⟨as, upd_same, L2.Paired.mapP hpb fun a qq hz => s4 _ _ hz⟩
theorem tailWs_ne (ls : List (Int × Int)) : ∃ x xs, tailWs ls = x :: xs := by
  cases ls with
  | nil => exact ⟨_, _, rfl⟩
  | cons l r => exact ⟨_, _, rfl⟩
theorem cut4 (a b c d : V) (xs : List V) : cutV (a :: b :: c :: d :: xs) (some 4) none = xs := by
  unfold cutV
  have e1 : HT.sIx (a :: b :: c :: d :: xs).length 0 (some 4) = 4 := by
    rw [show (some (4 : Int)) = some ((4 : Nat) : Int) from rfl, HT.sIx_nat]
    simp only [List.length_cons]
    omega
  rw [e1, HT.sIx_none]
  show xs.take ((a :: b :: c :: d :: xs).length - 4) = xs
  simp only [List.length_cons]
  exact List.take_of_length_le (by omega)
theorem ok_readParts {f : Addr} {fd : FuncData} (F : Fun K "read_parts" "read_parts" sReadParts f fd) (R : Dr P w K mg base spReadInt "read_integer" ["word"] 1) (Ls : Dr P w K mg base spReadLamps "read_lamps" ["words"] 3) (ml : mg "len" = none) : FnOk P w K mg base CX0 4 f fd ["text"] spReadParts := by
  refine F.ok scReadParts (fun vs H Q E h => ?_) (fun cdv A outer s H vs Q E hr h => ?_)
  · obtain ⟨lv, fin, ls, rfl, _⟩ := h
    rfl
  · obtain ⟨lv, fin, ls, rfl, hf, q⟩ := h
    have few := hf.few
    have hlen := sheet_len hf.lv hf.fin hf.all
    refine ⟨_, pss_cons (ps_set (i := 1) scReadParts.nd rfl (.inl rfl) (pe_split (pv 0) pe_str))
      (pss_cons (ps_if (PW.pt (pw_or (pt_cmpR op_lt (pe_callB call_len_seq (by rfl) ml PySem.boot_len (pa_cons (pv 1) pa_nil)) pe_int (nomark _)) (pw_or (pt_cmpR op_ne (pe_ix ix_list (pv 1) pe_int (fun _ _ => rfl)) pe_str (nomark _)) (pw_or1 (pt_cmpR op_ne (pe_ix ix_list (pv 1) pe_int (fun _ _ => rfl)) pe_str (nomark _)))))) pss_never pss_nil)
      (pss_cons (ps_set (i := 2) scReadParts.nd rfl (.inl rfl) (pe_dr R (by decide) hr rfl (pa_cons (pe_ix ix_list (pv 1) pe_int (fun _ _ => rfl)) pa_nil)))
      (pss_cons (ps_set (i := 3) scReadParts.nd rfl (.inl rfl) (pe_dr R (by decide) hr rfl (pa_cons (pe_ix ix_list (pv 1) pe_int (fun _ _ => rfl)) pa_nil)))
      (pss_cons (ps_set (i := 4) scReadParts.nd rfl (.inl rfl) (pe_dr Ls (Nat.le_refl _) hr rfl (pa_cons (pe_slice (r := rSlL K) sl_list (pv 1) (po_some pe_int) po_none) pa_nil)))
      (pss_cons (ps_if (PW.pt (pw_or (pt_cmpR op_isN1 (pv 2) pe_non (nomark _)) (pw_or (pt_cmpR op_isN1 (pv 3) pe_non (nomark _)) (pw_or1 (pt_cmpR op_isN1 (pv 4) pe_non (nomark _)))))) pss_never pss_nil)
      (pss_one (ps_ret (pe_tup (pa_cons (pv 2) (pa_cons (pv 4) (pa_cons (pv 3) pa_nil))))))))))), ?_⟩
    refine ⟨_, rfl, ⟨_, rfl⟩, _, (" " : Str), rfl, rfl, rfl, ?_, ?_⟩
    · have : (1000 : Nat) ≤ sizeLine := by decide
      omega
    rw [sheet_split]
    intro wl nwl
    obtain ⟨x0, xs0, etl⟩ := tailWs_ne ls
    have s1 := same_of (o := .lst ((wordsS lv ls fin).map V.str)) nwl
    have ew : (wordsS lv ls fin).map V.str = V.str ("levels" : Str) :: V.str (nS lv) :: V.str ("end" : Str) :: V.str (nS fin) :: (tailWs ls).map V.str := rfl
    have h1 : (upd H wl (.lst ((wordsS lv ls fin).map V.str))) wl = some (.lst (V.str ("levels" : Str) :: V.str (nS lv) :: V.str ("end" : Str) :: V.str (nS fin) :: (tailWs ls).map V.str)) := by
      rw [upd_same, ew]
    revert s1 h1
    generalize (upd H wl (.lst ((wordsS lv ls fin).map V.str))) = H1
    intro s1 h1
    have n0 : (V.str ("levels" : Str) :: V.str (nS lv) :: V.str ("end" : Str) :: V.str (nS fin) :: (tailWs ls).map V.str).length = xs0.length + 5 := by
      rw [etl]
      simp
    refine sq_no (ans_or (an_lt (lv_len (val_var rfl) (SqL.of h1)) val_c ?_) (ans_or (ans_ne (x := .str ("levels" : Str)) (y := .str ("levels" : Str)) (val_op (val_var rfl) val_c (lv_ix h1 (L2.at_of (j := 0) rfl rfl))) val_c rfl (by rw [decide_eq_true rfl]; rfl))
      (ans_ne (x := .str ("end" : Str)) (y := .str ("end" : Str)) (val_op (val_var rfl) val_c (lv_ix h1 (L2.at_of (j := 2) rfl rfl))) val_c rfl (by rw [decide_eq_true rfl]; rfl)))) ?_
    · rw [n0]
      exact decide_eq_false (by omega)
    refine ⟨_, rfl, wl, _, 1, .str (nS lv), rfl, rfl, SqL.of h1, L2.at_of (j := 1) rfl rfl, lv, rfl, hf.lv, ?_⟩
    refine ⟨_, rfl, wl, _, 3, .str (nS fin), rfl, rfl, SqL.of h1, L2.at_of (j := 3) rfl rfl, fin, rfl, hf.fin, ?_⟩
    refine ⟨_, rfl, 4, rfl, wl, _, rfl, SqL.of h1, fun c nc => ?_⟩
    rw [cut4]
    have s2 := s1.trans (same_of (o := .lst ((tailWs ls).map V.str)) nc)
    refine ⟨c, ls, rfl, upd_same, hf.all, few, fun t H2 s3 ht => ?_⟩
    refine sq_no (ans_or (ans_isN (x := .int lv) (val_var rfl) rfl) (ans_or (ans_isN (x := .int fin) (val_var rfl) rfl) (ans_isN (x := .ref t) (val_var rfl) rfl))) ?_
    refine ⟨_, rfl, _, rfl, _, rfl, le_line (by show 3 ≤ 1000; decide), fun l nl => ?_⟩
    have s4 := same_of (o := .tup [V.int lv, V.ref t, V.int fin]) nl
    obtain ⟨as, ht1, ht2⟩ := ht
    exact q l t _ ((s2.trans s3).trans s4) upd_same ⟨as, s4 _ _ ht1, L2.Paired.mapP ht2 fun a qq hz => s4 _ _ hz⟩
end
end Lamp
set_option Elab.async false
set_option linter.all false
set_option maxRecDepth 100000
set_option maxHeartbeats 1000000
namespace Lamp
open PySem PySem.Spec PyProof.Rows L2
/-! len, str, repr, bool of an instance by its own methods -/
/-- the class at C has m as a def at f that keeps sp -/
structure OwnM (P : Program) (w : World) (K : PySem.W.Frag) (mg : Str → Option Value) (base : Heap) (C : Addr) (m : Str) (sp : Sp) (k : Nat) : Prop where
  ex : ∃ (f : Addr) (fd : FuncData), PySem.W.findIn K (.ref C) m = some (some (.ref f)) ∧ PySem.W.isFn K (.ref f) = true ∧ FnOk P w K mg base CX0 k f fd ["self"] sp ∧ Binds K fd ["self"] []
section
variable {X : Cx} {pins : List (Addr × Obj)} {σ : L2.St} {H : Hp} {s : Shared} {Q : VK} {a f : Addr} {k : Nat} {sp : Sp} {fd : FuncData} {A' : Around}
theorem run_self (F : FnOk X.prog X.w X.K X.mg X.base CX0 k f fd ["self"] sp) (hr : Room k A') (hf : A'.frames = X.A.frames) (hb : Binds X.K fd ["self"] []) (I : Inv X pins σ H s) (h : sp [.ref a] H Q E0) :
    wpAny (model X.prog X.w) A' (call (.ref f) [.ref a]) (EP X pins σ Q) X.xe s := by
  have e0 := I.env0
  have e1 : Env0 X.prog X.w X.K X.mg X.base A' X.stack s H := ⟨hf.trans e0.frames, e0.mod, e0.bs, e0.bsz, e0.funs, e0.frf, e0.hok, e0.bare⟩
  have bb := hb s [.ref a] I.kIn rfl
  refine wpAny_call (codeAny_mono (F.run A' X.stack s H ⟨[.ref a], []⟩ [.ref a] [.ref a] Q E0 hr e1 bb (.cons (show RelV (V.ref a) (Value.ref a) from rfl) .nil) h) fun res s' told => ?_)
  match res, told with
  | .error _, told => exact False.elim told
  | .ok (.ret u), told => exact I.after told
  | .ok .next, told => exact False.elim told
  | .ok .brk, told => exact False.elim told
  | .ok .cont, told => exact False.elim told
theorem ins_inst {C dx : Addr} {fs : List (Str × V)} (I : Inv X pins σ H s) (h : H a = some (.ins C dx fs)) : ∃ od, PySem.W.InstAt s.heap a (PySem.W.instObj C dx) C (some od) := by
  obtain ⟨mA, O, _⟩ := ins_get I.hok h
  obtain ⟨od, J, _⟩ := O.look
  exact ⟨od, J⟩
end
section
variable {X : Cx} {C : Addr} {sp : Sp} {k : Nat}
/-- the reading of such a call: what the method hands back, as ok says, is the answer -/
def rOwn (C : Addr) (sp : Sp) (ok : V → Prop) : List V → Hp → VK → Prop := fun xs H Q => ∃ (a dx : Addr) (fs : List (Str × V)), xs = [.ref a] ∧ H a = some (.ins C dx fs) ∧ sp [.ref a] H (fun v H' => ok v ∧ Q v H') E0
def okLen (v : V) : Prop := ∃ n : Int, v = .int n ∧ 0 ≤ n ∧ n < 2 ^ 63
def okStr (v : V) : Prop := ∃ x : Str, v = .str x
def okBool (v : V) : Prop := ∃ b : Bool, v = .bl b
theorem call_lenO (Z : OwnM X.prog X.w X.K X.mg X.base C "__len__" sp k) (hr : Room (k + 1) X.A) : CallR X (.builtin "len") (rOwn C sp okLen) := by
  intro pins s σ H xs us Q I r h
  obtain ⟨a, dx, fs, rfl, ha, hs⟩ := h
  obtain ⟨f, fd, h1, h2, F, b⟩ := Z.ex
  have e := Vals.ref1 r
  subst e
  obtain ⟨od, J⟩ := ins_inst I ha
  obtain ⟨m, fr⟩ := I.fr
  refine PySem.W.len_K fr I.ok.mod.kin J h1 h2 (wpAny_mono (run_self F hr.in1 rfl b I hs) (fun u s' told => ?_) fun _ _ z => z)
  obtain ⟨v, H1, I1, rv, ⟨n, ev, n0, n1⟩, q⟩ := told
  subst ev
  obtain ⟨t, eu⟩ := rv
  subst eu
  exact ⟨⟨n0, n1⟩, ⟨.int n, H1, I1.tok _, ⟨_, rfl⟩, q⟩⟩
theorem call_reprO (Z : OwnM X.prog X.w X.K X.mg X.base C "__repr__" sp k) (hr : Room (k + 1) X.A) : CallR X (.builtin "repr") (rOwn C sp okStr) := by
  intro pins s σ H xs us Q I r h
  obtain ⟨a, dx, fs, rfl, ha, hs⟩ := h
  obtain ⟨f, fd, h1, h2, F, b⟩ := Z.ex
  have e := Vals.ref1 r
  subst e
  obtain ⟨od, J⟩ := ins_inst I ha
  obtain ⟨m, fr⟩ := I.fr
  refine PySem.W.repr_K hr.in1.units0 fr I.ok.mod.kin J h1 h2 (wpAny_mono (run_self F hr.in1 rfl b I hs) (fun u s' told => ?_) fun _ _ z => z)
  obtain ⟨v, H1, I1, rv, ⟨x, ev⟩, q⟩ := told
  subst ev
  obtain ⟨t, eu⟩ := rv
  subst eu
  exact ⟨.str x, H1, I1, ⟨_, rfl⟩, q⟩
theorem call_strO (Z : OwnM X.prog X.w X.K X.mg X.base C "__str__" sp k) (hr : Room (k + 2) X.A) : CallR X (.type "str") (rOwn C sp okStr) := by
  intro pins s σ H xs us Q I r h
  obtain ⟨a, dx, fs, rfl, ha, hs⟩ := h
  obtain ⟨f, fd, h1, h2, F, b⟩ := Z.ex
  have e := Vals.ref1 r
  subst e
  obtain ⟨od, J⟩ := ins_inst I ha
  refine PySem.W.kso_call hr.in1.in1.units0 I.kIn J h1 h2 (wpAny_mono (run_self F hr.in1.in1 rfl b I hs) (fun u s' told => ?_) fun _ _ z => z)
  obtain ⟨v, H1, I1, rv, ⟨x, ev⟩, q⟩ := told
  subst ev
  obtain ⟨t, eu⟩ := rv
  subst eu
  exact ⟨.str x, H1, I1, ⟨_, rfl⟩, q⟩
theorem call_boolO (Z : OwnM X.prog X.w X.K X.mg X.base C "__bool__" sp k) (hr : Room (k + 2) X.A) : CallR X (.type "bool") (rOwn C sp okBool) := by
  intro pins s σ H xs us Q I r h
  obtain ⟨a, dx, fs, rfl, ha, hs⟩ := h
  obtain ⟨f, fd, h1, h2, F, b⟩ := Z.ex
  have e := Vals.ref1 r
  subst e
  obtain ⟨od, J⟩ := ins_inst I ha
  obtain ⟨m, fr⟩ := I.fr
  refine callType_codes (T := "bool") (Bi := Builtin.«object.__init__») (Q₁ := fun r s₁ => ∃ y, r = .bool y ∧ EP X pins σ Q r s₁) PySem.F.called_bool (PySem.F.typeCall_bool_1 _) PySem.F.entry_object_init ?_ ?_
  · refine codeAny_of_tree ?_
    show wpAny _ X.A.in1.in1 (do checkBuiltinCall "bool.__new__" ⟨[.type "bool", .ref a], []⟩; again (.builtin "bool.__new__" ⟨[.type "bool", .ref a], []⟩)) _ _ s
    refine PySem.wpAny_bind (wpAny_of_eq (PySem.F.newCall_bool_1 _) (PySem.wpAny_pure ⟨plainId_quiet (by decide +kernel) _, codeAny_builtin PySem.F.entry_bool_new ?_⟩))
    rw [Around.under_plainId (by decide +kernel) _]
    refine PySem.wpAny_bind (PySem.wpAny_pure ?_)
    refine PySem.wpAny_bind (wpAny_of_eq PySem.F.conv_sub_bool ?_)
    refine PySem.wpAny_bind (PySem.wpAny_pure ?_)
    refine PySem.wpAny_bind (PySem.W.truthy_K fr I.ok.mod.kin J h1 h2 (wpAny_mono (run_self F hr.in1.in1 rfl b I hs) (fun u s' told => ?_) fun _ _ z => z))
    obtain ⟨v, H1, I1, rv, ⟨x, ev⟩, q⟩ := told
    subst ev
    have eu : u = Value.bool x := rv
    subst eu
    exact PySem.wpAny_pure ⟨x, rfl, .bl x, H1, I1, rfl, q⟩
  · rintro obj s₁ ⟨y, rfl, hq⟩
    exact ⟨rfl, PySem.F.args_object_init_2 _ _, object_init_meets PySem.F.called_bool.init.lookup PySem.F.called_bool.made (by decide) X.prog X.w X.A.in1 _ s₁ ⟨rfl, rfl, hq⟩⟩
end
end Lamp
set_option Elab.async false
set_option linter.all false
set_option maxRecDepth 100000
set_option maxHeartbeats 1000000
namespace Lamp
open PySem PySem.Spec PyProof.Rows L2
abbrev sRound : Stmt := top 26
abbrev sInit : Stmt := inClass sRound 0
abbrev sRead : Stmt := inClass sRound 1
/-! rounds as objects -/
def fldR (lv : Int) (t : Addr) (fin : Int) : List (Str × V) := [("_levels", .int lv), ("_lamps", .ref t), ("_end", .int fin)]
/-- at a: the round with these parts, its picture at t -/
def RoundAt (C : Addr) (H : Hp) (a : Addr) (lv : Int) (t : Addr) (fin : Int) : Prop := ∃ dx, H a = some (.ins C dx (fldR lv t fin))
theorem RoundAt.same {C : Addr} {H H' : Hp} {a t : Addr} {lv fin : Int} (h : RoundAt C H a lv t fin) (e : Same H H') : RoundAt C H' a lv t fin := by
  obtain ⟨dx, h⟩ := h
  exact ⟨dx, e _ _ h⟩
/-- what of the text the class must have -/
structure RCls (K : PySem.W.Frag) (C : Addr) : Prop where
  cl : Cls K C
  n1 : NoAttr K C "_levels"
  n2 : NoAttr K C "_lamps"
  n3 : NoAttr K C "_end"
def spInitR (K : PySem.W.Frag) (C : Addr) : Sp := fun vs H Q _ => ∃ (a t : Addr) (lv fin : Int) (dx : Addr) (ls : List (Int × Int)), vs = [.ref a, .int lv, .ref t, .int fin] ∧ H a = some (.ins C dx []) ∧ goodLv lv ∧ PicAt K H t ls ∧ IsPicW lv ls ∧
  ∀ H', But a H H' → H' a = some (.ins C dx (fldR lv t fin)) → Q .non H'
section
variable {P : Program} {w : World} {K : PySem.W.Frag} {mg : Str → Option Value} {base : Heap} {C : Addr}
theorem scInit : FnScope ["self", "levels", "lamps", "end", "index"] ["self", "levels", "lamps", "end"] (defScope sInit) := ⟨rfl, rfl, rfl, by decide +kernel, rfl, by decide +kernel, by decide +kernel⟩
theorem ok_initR {f : Addr} {fd : FuncData} {t1 : Tok} (F : Fun K "__init__" "Round.__init__" sInit f fd) (R : RCls K C) (Ii : Dr P w K mg base spIsInt "is_integer" ["value"] 1) (Il : Dr P w K mg base spIsLevels "is_levels" ["value"] 2)
    (Wr : Dr P w K mg base (spWrong K) "wrong_lamp" ["levels", "lamps"] 3) (mML : mg "MOST_LAMPS" = some (.int 400 t1)) (mis : mg "isinstance" = none) (mt : mg "tuple" = none) (ml : mg "len" = none) :
    FnOk P w K mg base CX0 4 f fd ["self", "levels", "lamps", "end"] (spInitR K C) := by
  refine F.ok scInit (fun vs H Q E h => ?_) (fun cdv A outer s H vs Q E hr h => ?_)
  · obtain ⟨a, t, lv, fin, dx, ls, rfl, _⟩ := h
    rfl
  · obtain ⟨a, t, lv, fin, dx, ls, rfl, ha, hg, hp, hi, q⟩ := h
    obtain ⟨as, ht, hlen, hat⟩ := pair_get hp
    have few := hi.few
    refine ⟨_, pss_cons (ps_if (pt_not (pt_val (pe_dr Il (by decide) hr rfl (pa_cons (pv 1) pa_nil)))) pss_never pss_nil)
      (pss_cons (ps_if (pt_not (pt_val (pe_callB call_isi (by rfl) mis (by decide +kernel) (pa_cons (pv 2) (pa_cons (pe_bltn (v := .ty "tuple") (by rfl) mt (by decide +kernel) rfl) pa_nil))))) pss_never pss_nil)
      (pss_cons (ps_set (i := 4) scInit.nd rfl (.inl rfl) (pe_dr Wr (Nat.le_refl _) hr rfl (pa_cons (pv 1) (pa_cons (pe_slice (r := rSlA K) sl_tupA (pv 2) po_none (po_some (pe_glob (v := .int 400) rfl mML ⟨_, rfl⟩))) pa_nil))))
      (pss_cons (ps_if (pt_cmpR op_notN1 (pv 4) pe_non (nomark _)) pss_never pss_nil)
      (pss_cons (ps_if (pt_cmpR op_gt (pe_callB call_len_seq (by rfl) ml PySem.boot_len (pa_cons (pv 2) pa_nil)) (pe_glob (v := .int 400) rfl mML ⟨_, rfl⟩) (nomark _)) pss_never pss_nil)
      (pss_cons (ps_if (pt_not (pt_val (pe_dr Ii (by decide) hr rfl (pa_cons (pv 3) pa_nil)))) pss_never pss_nil)
      (pss_cons (ps_fld (pv 0) (pv 1) (by rfl)) (pss_cons (ps_fld (pv 0) (pv 2) (by rfl)) (pss_one (ps_fld (pv 0) (pv 3) (by rfl)))))))))), ?_⟩
    refine sq_no (ans_not (b := true) (ans_val fun Q q => ⟨_, rfl, lv, rfl, hg, q⟩)) ?_
    refine sq_no (ans_not (b := true) (ans_val fun Q q => ⟨_, rfl, isi_tR ht q⟩)) ?_
    refine ⟨_, rfl, _, rfl, 400, rfl, t, _, rfl, .inl ht, fun _ => ?_, fun hn => absurd ⟨rfl, ?_⟩ hn⟩
    · refine ⟨lv, t, ls, rfl, hp, hi, fun H1 s1 => ?_⟩
      refine sq_no (ans_notN (x := .non) (val_var rfl) (by rw [decide_eq_true rfl]; rfl)) ?_
      refine sq_no (an_gt (x := ((as.map V.ref).length : Nat)) (fun Q q => ⟨_, rfl, t, _, rfl, .inr (.inl (rd_same ht s1)), q⟩) val_c ?_) ?_
      · rw [List.length_map]
        exact decide_eq_false (by omega)
      refine sq_no (ans_not (b := true) (ans_val fun Q q => ⟨_, rfl, fin, rfl, q⟩)) ?_
      refine st_seq (st_fld (y := .int lv) (val_var rfl) (val_var rfl) (s1 _ _ ha) R.cl R.n1 (by show 0 < 1000; decide) ?_)
      refine st_seq (st_fld (y := .ref t) (val_var rfl) (val_var rfl) upd_same R.cl R.n2 (by show 1 < 1000; decide) ?_)
      refine st_fld (y := .int fin) (val_var rfl) (val_var rfl) upd_same R.cl R.n3 (by show 2 < 1000; decide) ?_
      exact q _ (((But.of s1).trans But.at).trans (But.at.trans But.at)) upd_same
    · rw [List.length_map, show (some (400 : Int)) = some ((400 : Nat) : Int) from rfl, HT.sIx_nat]
      omega
end
end Lamp
set_option Elab.async false
set_option linter.all false
set_option maxRecDepth 100000
set_option maxHeartbeats 1000000
namespace Lamp
open PySem PySem.Spec PyProof.Rows L2
open TL (tl tl_append ext_tl numL tl_ofString len_tl)
/-! making rounds -/
/-- the class made with three values: what is told of it -/
structure MkR (P : Program) (w : World) (K : PySem.W.Frag) (mg : Str → Option Value) (base : Heap) (C : Addr) : Prop where
  ex : ∃ (f : Addr) (fd : FuncData), Mk K C f ∧ FnOk P w K mg base CX0 4 f fd ["self", "levels", "lamps", "end"] (spInitR K C) ∧ Binds K fd ["self", "levels", "lamps", "end"] [] ∧
    ∀ (s : Shared) (x u1 u2 u3 : Value), BindsTo s fd ⟨[x], [("end", u1), ("levels", u2), ("lamps", u3)]⟩ [("self", x), ("levels", u2), ("lamps", u3), ("end", u1)]
def rMkR (K : PySem.W.Frag) (C : Addr) (lv : Int) (t : Addr) (fin : Int) (H : Hp) (Q : VK) : Prop := ∃ ls : List (Int × Int), goodLv lv ∧ PicAt K H t ls ∧ IsPicW lv ls ∧ ∀ a H', Same H H' → H a = none → RoundAt C H' a lv t fin → Q (.ref a) H'
theorem mk_init {K : PySem.W.Frag} {C : Addr} {lv fin : Int} {t : Addr} {H : Hp} {Q : VK} (h : rMkR K C lv t fin H Q) {x dx : Addr} (hx : H x = none) (hd : H dx = none) (hne : dx ≠ x) :
    spInitR K C [.ref x, .int lv, .ref t, .int fin] (upd (upd H dx (.own x)) x (.ins C dx [])) (fun v H2 => v = .non ∧ Q (.ref x) H2) E0 := by
  obtain ⟨ls, hg, hp, hi, q⟩ := h
  have s1 : Same H (upd (upd H dx (.own x)) x (.ins C dx [])) := fun b o e => by rw [upd_ne (ne_of_none e hx), upd_ne (ne_of_none e hd)]; exact e
  refine ⟨x, t, lv, fin, dx, ls, rfl, upd_same, hg, hp.same s1, hi, fun H' bt hr => ⟨rfl, q x H' (fun b o e => ?_) hx ⟨dx, hr⟩⟩⟩
  exact bt b o (ne_of_none e hx) (s1 b o e)
/-- Round(a, b, c) -/
def tMkR (K : PySem.W.Frag) (C : Addr) (ta : TA) : TE := fun σ H Q => ta σ H fun vs H1 => ∃ (lv : Int) (t : Addr) (fin : Int), vs = [.int lv, .ref t, .int fin] ∧ rMkR K C lv t fin H1 Q
section
variable {X : Cx} {C : Addr} {x : Str} {e : Expr} {es : List Expr} {ta tk : TA} {p pos : Pos} {kws : List Keyword} {i : Nat}
theorem pe_mkR (Z : MkR X.prog X.w X.K X.mg X.base C) (hr : Room 5 X.A) (hg : Gl X x) (hm : X.mg x = some (.ref C)) (ha : PA X (e :: es) ta) (hdb : (x == ("__debug__" : Str)) = false := by decide)
    (he : starEach (e :: es) X.env = (false, eval e X.env) :: starEach es X.env := by rfl) (hpl : (backTo pos (starEach es X.env)).any (·.1) = false := by rfl) : PE X (.Call (.Name x p) (e :: es) [] pos) (tMkR X.K C ta) := by
  obtain ⟨f, fd, M, F, b, _⟩ := Z.ex
  refine ⟨fun pins s σ H Q I h => ?_⟩
  refine wpAny_Call_Name_kw (ld_glob I hg hm ?_ hdb)
  refine PySem.W.callWith_K (h₀ := X.base) I.ok.mod.kin M.kp (thn (ha.run pos pins s σ H _ I h) fun us s1 ⟨vs, H1, I1, r, lv, t, fin, ev, q⟩ => ⟨I1.kIn, ?_⟩) he hpl
  subst ev
  exact run_make M F hr b .nil pass0 I1 r fun y dx hy hd hne => mk_init q hy hd hne
/-- cls(a, b, c), the i-th name holding the class -/
def tMkL (K : PySem.W.Frag) (C : Addr) (i : Nat) (ta : TA) : TE := fun σ H Q => σ[i]? = some (some (.ref C)) ∧ tMkR K C ta σ H Q
theorem pe_mkL (Z : MkR X.prog X.w X.K X.mg X.base C) (hr : Room 5 X.A) (hN : X.N[i]? = some x) (hv : Vis X.env.scope x) (ha : PA X (e :: es) ta) (hdb : (x == ("__debug__" : Str)) = false := by decide) (hcd : (x == ("__classdict__" : Str)) = false := by decide)
    (he : starEach (e :: es) X.env = (false, eval e X.env) :: starEach es X.env := by rfl) (hpl : (backTo pos (starEach es X.env)).any (·.1) = false := by rfl) : PE X (.Call (.Name x p) (e :: es) [] pos) (tMkL X.K C i ta) := by
  obtain ⟨f, fd, M, F, b, _⟩ := Z.ex
  refine ⟨fun pins s σ H Q I h => ?_⟩
  obtain ⟨hs, h⟩ := h
  refine wpAny_Call_Name_kw (thn ((pe_var (pos := p) hN hv hdb hcd).run pins s σ H (fun v H1 => v = .ref C ∧ H1 = H) I ⟨.ref C, hs, rfl, rfl⟩) fun u s0 ⟨v, H0, I0, r0, q0⟩ => ?_)
  obtain ⟨rfl, rfl⟩ := q0
  cases r0
  refine PySem.W.callWith_K (h₀ := X.base) I.ok.mod.kin M.kp (thn (ha.run pos pins s0 σ _ _ I0 h) fun us s1 ⟨vs, H1, I1, r, lv, t, fin, ev, q⟩ => ⟨I1.kIn, ?_⟩) he hpl
  subst ev
  exact run_make M F hr b .nil pass0 I1 r fun y dx hy hd hne => mk_init q hy hd hne
/-- Round(end=c, levels=a, lamps=b) -/
def tMkRK (K : PySem.W.Frag) (C : Addr) (tk : TA) : TE := fun σ H Q => tk σ H fun zs H1 => ∃ (lv : Int) (t : Addr) (fin : Int), zs = [.int fin, .int lv, .ref t] ∧ rMkR K C lv t fin H1 Q
def gK {α : Type} : List α → List α → List α
  | [x], [u1, u2, u3] => [x, u2, u3, u1]
  | _, _ => []
theorem three {α : Type} : ∀ {l : List α}, l.length = 3 → ∃ a b c, l = [a, b, c]
  | [a, b, c], _ => ⟨a, b, c, rfl⟩
theorem gK_rel : ∀ {vs : List V} {us : List Value} {zs : List V} {ws : List Value}, Vals vs us → Vals zs ws → Vals (gK vs zs) (gK us ws)
  | _, _, _, _, .cons r .nil, .cons r1 (.cons r2 (.cons r3 .nil)) => .cons r (.cons r2 (.cons r3 (.cons r1 .nil)))
  | _, _, _, _, .nil, _ => .nil
  | _, _, _, _, .cons _ (.cons _ _), _ => .nil
  | _, _, _, _, .cons _ .nil, .nil => .nil
  | _, _, _, _, .cons _ .nil, .cons _ .nil => .nil
  | _, _, _, _, .cons _ .nil, .cons _ (.cons _ .nil) => .nil
  | _, _, _, _, .cons _ .nil, .cons _ (.cons _ (.cons _ (.cons _ _))) => .nil
theorem pe_mkRK (Z : MkR X.prog X.w X.K X.mg X.base C) (hr : Room 5 X.A) (hg : Gl X x) (hm : X.mg x = some (.ref C)) (hkw : PK X kws tk)
    (hall : (backToKw pos (keywordEach kws X.env)).all (·.1.isSome) = true := by rfl) (hks : (backToKw pos (keywordEach kws X.env)).filterMap (·.1) = (["end", "levels", "lamps"] : List Str) := by rfl) (hdb : (x == ("__debug__" : Str)) = false := by decide)
    (hpl : ((backTo pos (starEach [] X.env)).any (·.1) || (backToKw pos (keywordEach kws X.env)).any (·.1.isNone)) = false := by rfl) : PE X (.Call (.Name x p) [] kws pos) (tMkRK X.K C tk) := by
  obtain ⟨f, fd, M, F, _, b⟩ := Z.ex
  have kb : KBn X.K fd ["self", "levels", "lamps", "end"] 1 ["end", "levels", "lamps"] gK gK := ⟨fun s us ws _ l1 l2 => by
    obtain ⟨x, rfl⟩ := List.length_eq_one_iff.mp l1
    obtain ⟨u1, u2, u3, rfl⟩ := three l2
    exact b s x u1 u2 u3, gK_rel⟩
  refine ⟨fun pins s σ H Q I h => ?_⟩
  refine wpAny_Call_Name_kw (ld_glob I hg hm ?_ hdb)
  refine PySem.W.callWith_KW0 (h₀ := X.base) I.ok.mod.kin M.kp hall ?_ hpl
  refine thn (hkw.run pos pins s σ H _ I h) fun ws s2 ⟨zs, H2, I2, rz, lv, t, fin, ev, q2⟩ => ⟨I2.kIn, ?_⟩
  subst ev
  rw [hks]
  exact run_makeK (us := []) (vs := []) M F hr kb pass0 I2 .nil rz rfl rfl fun y dx hy hd hne => mk_init q2 hy hd hne
end
def spRead (K : PySem.W.Frag) (C : Addr) : Sp := fun vs H Q _ => ∃ (lv fin : Int) (ls : List (Int × Int)), vs = [.ref C, .str (sheetS lv ls fin)] ∧ Fit lv ls fin ∧ goodLv lv ∧ IsPic lv ls ∧
  ∀ a t H', Same H H' → H a = none → RoundAt C H' a lv t fin → PicAt K H' t ls → Q (.ref a) H'
def spLevels (C : Addr) : Sp := fun vs H Q _ => ∃ (a t : Addr) (lv fin : Int), vs = [.ref a] ∧ RoundAt C H a lv t fin ∧ Q (.int lv) H
def spLamps (C : Addr) : Sp := fun vs H Q _ => ∃ (a t : Addr) (lv fin : Int), vs = [.ref a] ∧ RoundAt C H a lv t fin ∧ Q (.ref t) H
def spEnd (C : Addr) : Sp := fun vs H Q _ => ∃ (a t : Addr) (lv fin : Int), vs = [.ref a] ∧ RoundAt C H a lv t fin ∧ Q (.int fin) H
def spBool : Sp := fun vs H Q _ => ∃ (a : Addr), vs = [.ref a] ∧ Q (.bl true) H
def spLen (K : PySem.W.Frag) (C : Addr) : Sp := fun vs H Q _ => ∃ (a t : Addr) (lv fin : Int) (ls : List (Int × Int)), vs = [.ref a] ∧ RoundAt C H a lv t fin ∧ PicAt K H t ls ∧ Q (.int (ls.length : Int)) H
def spText (K : PySem.W.Frag) (C : Addr) : Sp := fun vs H Q _ => ∃ (a t : Addr) (lv fin : Int) (ls : List (Int × Int)), vs = [.ref a] ∧ RoundAt C H a lv t fin ∧ PicAt K H t ls ∧ Fit lv ls fin ∧ ∀ H', Same H H' → Q (.str (sheetS lv ls fin)) H'
def reprS (n : Nat) : Str := ("Round of " : Str) ++ nS (n : Int) ++ (" lamps" : Str)
def spRepr (K : PySem.W.Frag) (C : Addr) : Sp := fun vs H Q _ => ∃ (a t : Addr) (lv fin : Int) (ls : List (Int × Int)), vs = [.ref a] ∧ RoundAt C H a lv t fin ∧ PicAt K H t ls ∧ ls.length ≤ 10 ∧ Q (.str (reprS ls.length)) H
abbrev sLevels : Stmt := inClass sRound 2
abbrev sLampsP : Stmt := inClass sRound 3
abbrev sEnd : Stmt := inClass sRound 4
abbrev sText : Stmt := inClass sRound 5
abbrev sBool : Stmt := inClass sRound 7
abbrev sLen : Stmt := inClass sRound 8
abbrev sStr : Stmt := inClass sRound 9
abbrev sRepr : Stmt := inClass sRound 10
section
variable {P : Program} {w : World} {K : PySem.W.Frag} {mg : Str → Option Value} {base : Heap} {C : Addr}
theorem scRead : FnScope ["cls", "text", "parts", "levels", "lamps", "end"] ["cls", "text"] (defScope sRead) := ⟨rfl, rfl, rfl, by decide +kernel, rfl, by decide +kernel, by decide +kernel⟩
theorem scLevels : FnScope ["self"] ["self"] (defScope sLevels) := ⟨rfl, rfl, rfl, by decide +kernel, rfl, by decide +kernel, by decide +kernel⟩
theorem scLampsP : FnScope ["self"] ["self"] (defScope sLampsP) := ⟨rfl, rfl, rfl, by decide +kernel, rfl, by decide +kernel, by decide +kernel⟩
theorem scEnd : FnScope ["self"] ["self"] (defScope sEnd) := ⟨rfl, rfl, rfl, by decide +kernel, rfl, by decide +kernel, by decide +kernel⟩
theorem scText : FnScope ["self"] ["self"] (defScope sText) := ⟨rfl, rfl, rfl, by decide +kernel, rfl, by decide +kernel, by decide +kernel⟩
theorem scBool : FnScope ["self"] ["self"] (defScope sBool) := ⟨rfl, rfl, rfl, by decide +kernel, rfl, by decide +kernel, by decide +kernel⟩
theorem scLen : FnScope ["self"] ["self"] (defScope sLen) := ⟨rfl, rfl, rfl, by decide +kernel, rfl, by decide +kernel, by decide +kernel⟩
theorem scStr : FnScope ["self"] ["self"] (defScope sStr) := ⟨rfl, rfl, rfl, by decide +kernel, rfl, by decide +kernel, by decide +kernel⟩
theorem scRepr : FnScope ["self"] ["self"] (defScope sRepr) := ⟨rfl, rfl, rfl, by decide +kernel, rfl, by decide +kernel, by decide +kernel⟩
theorem v_lv {σ : L2.St} {H : Hp} {a t : Addr} {lv fin : Int} {ta : TE} (R : RCls K C) (h : Val ta σ H (.ref a)) (hr : RoundAt C H a lv t fin) : Val (tFld K ta "_levels") σ H (.int lv) := by
  obtain ⟨dx, hr⟩ := hr
  exact val_fld h hr R.cl R.n1 rfl
theorem v_la {σ : L2.St} {H : Hp} {a t : Addr} {lv fin : Int} {ta : TE} (R : RCls K C) (h : Val ta σ H (.ref a)) (hr : RoundAt C H a lv t fin) : Val (tFld K ta "_lamps") σ H (.ref t) := by
  obtain ⟨dx, hr⟩ := hr
  exact val_fld h hr R.cl R.n2 rfl
theorem v_en {σ : L2.St} {H : Hp} {a t : Addr} {lv fin : Int} {ta : TE} (R : RCls K C) (h : Val ta σ H (.ref a)) (hr : RoundAt C H a lv t fin) : Val (tFld K ta "_end") σ H (.int fin) := by
  obtain ⟨dx, hr⟩ := hr
  exact val_fld h hr R.cl R.n3 rfl
theorem ok_levels {f : Addr} {fd : FuncData} (F : Fun K "levels" "Round.levels" sLevels f fd) (R : RCls K C) : FnOk P w K mg base CX0 1 f fd ["self"] (spLevels C) := by
  refine F.ok scLevels (fun vs H Q E h => ?_) (fun cdv A outer s H vs Q E hr h => ?_)
  · obtain ⟨a, t, lv, fin, rfl, _⟩ := h
    rfl
  · obtain ⟨a, t, lv, fin, rfl, h, q⟩ := h
    exact ⟨_, pss_one (ps_ret (pe_fld (pv 0) rfl)), st_ret (v_lv R (val_var rfl) h) q⟩
theorem ok_lamps {f : Addr} {fd : FuncData} (F : Fun K "lamps" "Round.lamps" sLampsP f fd) (R : RCls K C) : FnOk P w K mg base CX0 1 f fd ["self"] (spLamps C) := by
  refine F.ok scLampsP (fun vs H Q E h => ?_) (fun cdv A outer s H vs Q E hr h => ?_)
  · obtain ⟨a, t, lv, fin, rfl, _⟩ := h
    rfl
  · obtain ⟨a, t, lv, fin, rfl, h, q⟩ := h
    exact ⟨_, pss_one (ps_ret (pe_fld (pv 0) rfl)), st_ret (v_la R (val_var rfl) h) q⟩
theorem ok_end {f : Addr} {fd : FuncData} (F : Fun K "end" "Round.end" sEnd f fd) (R : RCls K C) : FnOk P w K mg base CX0 1 f fd ["self"] (spEnd C) := by
  refine F.ok scEnd (fun vs H Q E h => ?_) (fun cdv A outer s H vs Q E hr h => ?_)
  · obtain ⟨a, t, lv, fin, rfl, _⟩ := h
    rfl
  · obtain ⟨a, t, lv, fin, rfl, h, q⟩ := h
    exact ⟨_, pss_one (ps_ret (pe_fld (pv 0) rfl)), st_ret (v_en R (val_var rfl) h) q⟩
theorem ok_bool {f : Addr} {fd : FuncData} (F : Fun K "__bool__" "Round.__bool__" sBool f fd) : FnOk P w K mg base CX0 1 f fd ["self"] spBool := by
  refine F.ok scBool (fun vs H Q E h => ?_) (fun cdv A outer s H vs Q E hr h => ?_)
  · obtain ⟨a, rfl, _⟩ := h
    rfl
  · obtain ⟨a, rfl, q⟩ := h
    exact ⟨_, pss_one (ps_ret pe_bl), st_ret val_c q⟩
theorem len_t {σ : L2.St} {H : Hp} {t : Addr} {ls : List (Int × Int)} {ta : TE} (h : Val ta σ H (.ref t)) (hp : PicAt K H t ls) : Val (tCB (fun xs H Q => ∃ p ys, xs = [.ref p] ∧ (SqL K H p ys ∨ SqT K H p ys) ∧ Q (.int ys.length) H) (tCons ta tNil)) σ H (.int (ls.length : Int)) := by
  obtain ⟨as, h1, hlen, _⟩ := pair_get hp
  intro Q q
  refine h _ ⟨t, _, rfl, .inr (.inl h1), ?_⟩
  rw [List.length_map, hlen]
  exact q
theorem ok_len {f : Addr} {fd : FuncData} (F : Fun K "__len__" "Round.__len__" sLen f fd) (R : RCls K C) (ml : mg "len" = none) : FnOk P w K mg base CX0 1 f fd ["self"] (spLen K C) := by
  refine F.ok scLen (fun vs H Q E h => ?_) (fun cdv A outer s H vs Q E hr h => ?_)
  · obtain ⟨a, t, lv, fin, ls, rfl, _⟩ := h
    rfl
  · obtain ⟨a, t, lv, fin, ls, rfl, h, hp, q⟩ := h
    exact ⟨_, pss_one (ps_ret (pe_callB call_len_seq (by rfl) ml PySem.boot_len (pa_cons (pe_fld (pv 0) rfl) pa_nil))), st_ret (len_t (v_la R (val_var rfl) h) hp) q⟩
theorem rt_callG {sp : Sp} {ta : TA} {D : Ends} {σ : L2.St} {H : Hp} {vs : List V} (h : VA ta σ H vs) (q : sp vs H D.rt E0) : tRet (tCallG sp ta) D σ H := h _ q
theorem ok_text {f : Addr} {fd : FuncData} (F : Fun K "text" "Round.text" sText f fd) (R : RCls K C) (T : Dr P w K mg base (spRoundText K) "round_text" ["levels", "lamps", "end"] 1) : FnOk P w K mg base CX0 2 f fd ["self"] (spText K C) := by
  refine F.ok scText (fun vs H Q E h => ?_) (fun cdv A outer s H vs Q E hr h => ?_)
  · obtain ⟨a, t, lv, fin, ls, rfl, _⟩ := h
    rfl
  · obtain ⟨a, t, lv, fin, ls, rfl, h, hp, hf, q⟩ := h
    refine ⟨_, pss_one (ps_ret (pe_dr T (Nat.le_refl _) hr rfl (pa_cons (pe_fld (pv 0) rfl) (pa_cons (pe_fld (pv 0) rfl) (pa_cons (pe_fld (pv 0) rfl) pa_nil))))), ?_⟩
    exact rt_callG (va_cons (v_lv R (val_var rfl) h) (va_cons (v_la R (val_var rfl) h) (va_cons (v_en R (val_var rfl) h) va_nil))) ⟨lv, fin, t, ls, rfl, hf, hp, q⟩
theorem ok_repr {f : Addr} {fd : FuncData} (F : Fun K "__repr__" "Round.__repr__" sRepr f fd) (R : RCls K C) (ml : mg "len" = none) : FnOk P w K mg base CX0 1 f fd ["self"] (spRepr K C) := by
  refine F.ok scRepr (fun vs H Q E h => ?_) (fun cdv A outer s H vs Q E hr h => ?_)
  · obtain ⟨a, t, lv, fin, ls, rfl, _⟩ := h
    rfl
  · obtain ⟨a, t, lv, fin, ls, rfl, h, hp, few, q⟩ := h
    have hn : ((ls.length : Int)).natAbs < 10 ^ 40 := by omega
    have e1 := nS_len hn
    have c0 : (Str.empty).length = 0 := rfl
    have c1 : ("Round of " : Str).length = 9 := rfl
    have c2 : (" lamps" : Str).length = 6 := rfl
    refine ⟨_, pss_one (ps_ret (pe_js (.cons pe_str (.cons (pe_fmt (pe_callB call_len_seq (by rfl) ml PySem.boot_len (pa_cons (pe_fld (pv 0) rfl) pa_nil))) (.cons pe_str .nil))))), ?_⟩
    refine js_c (by simp only [len_app]; exact le_line (by omega)) (js_i (len_t (v_la R (val_var rfl) h) hp) hn (by simp only [len_app]; exact le_line (by omega)) (js_c (by simp only [len_app]; exact le_line (by omega)) ?_))
    show Q (.str _) H
    rw [empty_app]
    exact q
/-- a property of rounds -/
structure PrR (P : Program) (w : World) (K : PySem.W.Frag) (mg : Str → Option Value) (base : Heap) (C : Addr) (x : Str) (sp : Sp) (k : Nat) : Prop where
  ex : ∃ (p g : Addr) (fd : FuncData), PropOf K C x p g ∧ FnOk P w K mg base CX0 k g fd ["self"] sp ∧ Binds K fd ["self"] []
theorem pe_prR {X : Cx} {k j : Nat} {x : Str} {sp : Sp} {e : Expr} {ta : TE} {pos : Pos} (Z : PrR X.prog X.w X.K X.mg X.base C x sp k) (R : RCls X.K C) (hk : k + 1 ≤ j) (hr : Room j X.A) (he : PE X e ta) (hab : attributeBase e x X.env (eval e X.env) = eval e X.env := by rfl) :
    PE X (.Attribute e x pos) (tProp C sp [] E0 ta) := by
  obtain ⟨p, g, fd, hp, F, b⟩ := Z.ex
  exact pe_prop he R.cl hp F (hr.mono hk) b .nil pass0 hab
theorem ok_str {f : Addr} {fd : FuncData} (F : Fun K "__str__" "Round.__str__" sStr f fd) (R : RCls K C) (T : PrR P w K mg base C "text" (spText K C) 2) (ms : mg "str" = none) : FnOk P w K mg base CX0 4 f fd ["self"] (spText K C) := by
  refine F.ok scStr (fun vs H Q E h => ?_) (fun cdv A outer s H vs Q E hr h => ?_)
  · obtain ⟨a, t, lv, fin, ls, rfl, _⟩ := h
    rfl
  · obtain ⟨a, t, lv, fin, ls, rfl, h, hp, hf, q⟩ := h
    refine ⟨_, pss_one (ps_ret (pe_callTy SkE.call_str_str (by rfl) ms (by decide +kernel) (pa_cons (pe_prR T R (Nat.le_refl _) hr (pv 0)) pa_nil))), ?_⟩
    have h' := h
    obtain ⟨dx, ha⟩ := h
    exact ⟨_, rfl, a, dx, _, rfl, ha, a, t, lv, fin, ls, rfl, h', hp, hf, fun H' s => ⟨_, rfl, q H' s⟩⟩
theorem ok_read {f : Addr} {fd : FuncData} (F : Fun K "read" "Round.read" sRead f fd) (M : MkR P w K mg base C) (Rp : Dr P w K mg base spReadParts "read_parts" ["text"] 4) (mis : mg "isinstance" = none) (ms : mg "str" = none) : FnOk P w K mg base CX0 6 f fd ["cls", "text"] (spRead K C) := by
  refine F.ok scRead (fun vs H Q E h => ?_) (fun cdv A outer s H vs Q E hr h => ?_)
  · obtain ⟨lv, fin, ls, rfl, _⟩ := h
    rfl
  · obtain ⟨lv, fin, ls, rfl, hf, hg, hi, q⟩ := h
    refine ⟨_, pss_cons (ps_if (pt_not (pt_val (pe_callB call_isi (by rfl) mis (by decide +kernel) (pa_cons (pv 1) (pa_cons (pe_bltn (v := .ty "str") (by rfl) ms (by decide +kernel) rfl) pa_nil))))) pss_never pss_nil)
      (pss_cons (ps_set (i := 2) scRead.nd rfl (.inl rfl) (pe_dr Rp (by decide) hr rfl (pa_cons (pv 1) pa_nil)))
      (pss_cons (ps_if (pt_cmpR op_isN1 (pv 2) pe_non (nomark _)) pss_never pss_nil)
      (pss_cons (ps_asg (pv 2) (pg_tup rfl (pgs_cons (pg_name (i := 3) scRead.nd rfl (.inl rfl)) (pgs_cons (pg_name (i := 4) scRead.nd rfl (.inl rfl)) (pgs_cons (pg_name (i := 5) scRead.nd rfl (.inl rfl)) pgs_nil)))))
      (pss_one (ps_try_thru0 (pss_one (ps_ret (pe_mkL M hr (i := 0) rfl (.inl rfl) (pa_cons (pv 3) (pa_cons (pv 4) (pa_cons (pv 5) pa_nil))))))))))), ?_⟩
    refine sq_no (ans_not (b := true) (ans_val fun Q q => ⟨_, rfl, isi_ss q⟩)) ?_
    refine ⟨_, rfl, lv, fin, ls, rfl, hf, fun l t H1 s1 hl ht => ?_⟩
    refine sq_no (ans_isN (x := .ref l) (val_var rfl) rfl) ?_
    refine ⟨_, rfl, l, _, rfl, SqT.of hl, rfl, _, _, rfl, _, _, rfl, _, _, rfl, rfl, ?_⟩
    obtain ⟨as, h1, h2⟩ := ht
    refine ⟨rfl, _, rfl, _, rfl, _, rfl, lv, t, fin, rfl, ls, hg, ⟨as, .inl h1, h2⟩, hi.w, fun a H2 s2 na hr2 => ?_⟩
    refine q a t H2 (s1.trans s2) (s1.free na) hr2 ?_
    exact PicAt.same (H := H1) ⟨as, .inl h1, h2⟩ s2
end
end Lamp
set_option Elab.async false
set_option linter.all false
set_option maxRecDepth 100000
set_option maxHeartbeats 1000000
namespace Lamp
open PySem PySem.Spec PyProof.Rows L2
open TL (tl tl_append ext_tl numL tl_ofString len_tl)
theorem sheet_dark2 (lv fin : Int) : ("levels " : Str) ++ nS lv ++ (" end " : Str) ++ nS fin ++ (" " : Str) ++ ("dark" : Str) = sheetS lv [] fin := by
  refine ext_tl ?_
  rw [tl_sheet]
  simp only [tl_append, tl_levels, tl_end, tl_space, List.nil_append, List.append_assoc]
  rfl
theorem sheet_lamps2 (lv fin : Int) (l : Int × Int) (r : List (Int × Int)) : ("levels " : Str) ++ nS lv ++ (" end " : Str) ++ nS fin ++ (" " : Str) ++ (("lamps " : Str) ++ Txt.join (" " : Str) ((l :: r).map lampS)) = sheetS lv (l :: r) fin := by
  refine ext_tl ?_
  rw [tl_sheet]
  simp only [tl_append, tl_levels, tl_end, tl_lamps, tl_space, List.nil_append, List.append_assoc, TL.join_eq, TL.tl_join]
  rfl
def rAddS : R2 := fun x y H Q => ∃ i j, x = .str i ∧ y = .str j ∧ i.length + j.length ≤ sizeLine ∧ Q (.str (i ++ j)) H
theorem op_addS {X : Cx} : OpR X (binaryOp .Add) rAddS := op_add_str
theorem v_cat {ta tb : TE} {σ : L2.St} {H : Hp} {x y : Str} (h1 : Val ta σ H (.str x)) (h2 : Val tb σ H (.str y)) (hl : x.length + y.length ≤ sizeLine) : Val (tOp rAddS ta tb) σ H (.str (x ++ y)) := val_op h1 h2 fun Q q => ⟨x, y, rfl, rfl, hl, q⟩
theorem v_str {ta : TE} {σ : L2.St} {H : Hp} {i : Int} (h : Val ta σ H (.int i)) (hi : i.natAbs < 10 ^ 40) : Val (tCB (fun xs H Q => ∃ i, xs = [.int i] ∧ i.natAbs.log2 < 1920 ∧ Q (.str (toString i)) H) (tCons ta tNil)) σ H (.str (nS i)) := fun Q q => h _ ⟨i, rfl, fits_log hi, q⟩
theorem Parts.Ok.fit {r : Parts} (h : r.Ok) : Fit r.lv r.ls r.fin := by
  have hb : (7 : Int) ≤ big := by decide
  have hn : -big ≤ 1 := by decide
  refine ⟨fits (by rcases h.lv with e | e | e | e <;> omega) (by rcases h.lv with e | e | e | e <;> omega), fits h.lo h.hi, Nat.le_trans h.pic.few (by decide), fun q hq => ⟨fits (h.pic.pl q hq).1 (h.pic.pl q hq).2, ?_⟩⟩
  have z := h.pic.lv q hq
  exact fits (by omega) (by rcases h.lv with e | e | e | e <;> omega)
section
variable {P : Program} {w : World} {K : PySem.W.Frag} {mg : Str → Option Value} {base : Heap} {C : Addr}
end
end Lamp
set_option Elab.async false
set_option linter.all false
set_option maxRecDepth 100000
set_option maxHeartbeats 1000000
namespace Lamp
open PySem PySem.Spec PyProof.Rows L2 ClX
section
variable {P : Program} {w : World} {K : PySem.W.Frag} {mg : Str → Option Value} {base : Heap} {C : Addr}
theorem round_del {C p : Addr} {H : Hp} {a t : Addr} {lv fin : Int} (h : RoundAt C H a lv t fin) (hp : Pail H p) : RoundAt C (delH H p) a lv t fin := by
  obtain ⟨dx, h⟩ := h
  have ne : a ≠ p := fun e => by
    obtain ⟨x, y, z, hz, _⟩ := hp
    rw [e, hz] at h
    cases h
  exact ⟨dx, by rw [delH_ne ne]; exact h⟩
theorem pic_del {p : Addr} {H : Hp} {t : Addr} {ls : List (Int × Int)} (h : PicAt K H t ls) (hp : Pail H p) : PicAt K (delH H p) t ls := by
  obtain ⟨as, h1, h2⟩ := h
  obtain ⟨x, y, z, hz, _⟩ := hp
  refine ⟨as, ?_, L2.Paired.mapP h2 fun a q ha => ?_⟩
  · rcases h1 with h1 | ⟨o, h1⟩
    · exact .inl (by rw [delH_ne (fun e => by rw [e, hz] at h1; cases h1)]; exact h1)
    · exact .inr ⟨o, by rw [delH_ne (fun e => by rw [e, hz] at h1; cases h1)]; exact h1⟩
  · rw [delH_ne (fun e => by rw [e, hz] at ha; cases ha)]
    exact ha
end
end Lamp
set_option Elab.async false
set_option linter.all false
set_option maxRecDepth 100000
set_option maxHeartbeats 1000000
namespace Lamp
open PySem PySem.Spec PyProof.Rows L2
/-! comprehensions whose list tells what `out` makes of each thing -/
def TupStay (H H' : Hp) : Prop := ∀ b xs, H b = some (.tup xs) → H' b = some (.tup xs)
theorem stay_same {H H' : Hp} (s : Same H H') : TupStay H H' := fun b xs h => s b _ h
theorem stay_lst {H : Hp} {D : Addr} {ys zs : List V} (h : H D = some (.lst ys)) : TupStay H (upd H D (.lst zs)) := fun b xs e => by
  rw [upd_ne (fun z => by rw [z, h] at e; cases e)]
  exact e
theorem few_line {n : Nat} (h : n < 10000) : n < sizeLine := Nat.lt_trans h (by decide)
section
variable {α β : Type} {K : PySem.W.Frag} {a : Addr} {us : List α} {enc : α → V} {g : TG} {tt : TT} {te : TE} {vs : List Nat} {σ : L2.St} {H1 : Hp} {D : Addr} {Qd : Hp → Prop}
/-- a turn of such a comprehension -/
def Turn (H1 : Hp) (out : α → Option β) (Rel : β → V → Hp → Prop) (enc : α → V) (us : List α) (g : TG) (tt : TT) (te : TE) (vs : List Nat) (σ : L2.St) : Prop :=
  ∀ (i : Nat) (u : α) (H : Hp), us[i]? = some u → Same H1 H → ∀ (R : VK) (Z : Hp → Prop), (∀ v H' b, out u = some b → Same H H' → Rel b v H' → R v H') → (∀ H', out u = none → Same H H' → Z H') →
    g (enc u) (wipe σ vs) H fun σ2 H2 => wipe σ2 vs = wipe σ vs ∧ tt σ2 H2 fun b H3 => if b = true then te σ2 H3 R else Z H3
def Inv9 (H1 : Hp) (D : Addr) (out : α → Option β) (Rel : β → V → Hp → Prop) (us : List α) (i : Nat) (H' : Hp) : Prop :=
  Same H1 H' ∧ ∃ ys, H' D = some (.lst ys) ∧ ys.length ≤ i ∧ Paired (fun v b => Rel b v H') ys ((us.take i).filterMap out)
theorem inv9_0 {out : α → Option β} {Rel : β → V → Hp → Prop} (hD : H1 D = none) : Inv9 H1 D out Rel us 0 (upd H1 D (.lst [])) := ⟨same_of hD, [], upd_same, Nat.le_refl _, by rw [List.take_zero]; exact .nil⟩
theorem inv9_turn {out : α → Option β} {Rel : β → V → Hp → Prop} (st : ∀ b v H H', TupStay H H' → Rel b v H → Rel b v H') (hD : H1 D = none) (hz : us.length ≤ 9000) (hs : Turn H1 out Rel enc us g tt te vs σ) {i : Nat} {u : α} {H' : Hp} (eu : us[i]? = some u) (z : Inv9 H1 D out Rel us i H') :
    g (enc u) (wipe σ vs) H' fun σ2 H2 => wipe σ2 vs = wipe σ vs ∧ tt σ2 H2 fun b H3 => if b = true then te σ2 H3 fun y H4 => ∃ acc, H4 D = some (.lst acc) ∧ acc.length < sizeLine ∧ Inv9 H1 D out Rel us (i + 1) (upd H4 D (.lst (acc ++ [y]))) else Inv9 H1 D out Rel us (i + 1) H3 := by
  obtain ⟨sb, ys, hD', hl, hp⟩ := z
  have li := (List.getElem?_eq_some_iff.mp eu).1
  refine hs i u H' eu sb _ _ (fun v H2 b eb s2 r => ⟨ys, s2 _ _ hD', few_line (by omega), fun b' o e => ?_, ys ++ [v], upd_same, by rw [List.length_append]; show ys.length + 1 ≤ i + 1; omega, ?_⟩) (fun H2 eb s2 => ⟨sb.trans s2, ys, s2 _ _ hD', by omega, ?_⟩)
  · have nb : b' ≠ D := fun z => by rw [z, hD] at e; cases e
    rw [upd_ne nb]
    exact s2 _ _ (sb _ _ e)
  · have t1 : TupStay H2 (upd H2 D (.lst (ys ++ [v]))) := stay_lst (s2 _ _ hD')
    rw [List.take_add_one, eu, List.filterMap_append]
    have e1 : ([u] : List α).filterMap out = [b] := by simp [eb]
    show Paired _ _ (_ ++ ([u] : List α).filterMap out)
    rw [e1]
    exact paired_app (L2.Paired.mapP hp fun v' b' hz => st _ _ _ _ t1 (st _ _ _ _ (stay_same s2) hz)) (.cons (st _ _ _ _ t1 r) .nil)
  · rw [List.take_add_one, eu, List.filterMap_append]
    have e1 : ([u] : List α).filterMap out = [] := by simp [eb]
    show Paired _ _ (_ ++ ([u] : List α).filterMap out)
    rw [e1, List.append_nil]
    exact L2.Paired.mapP hp fun v' b' hz => st _ _ _ _ (stay_same s2) hz
theorem lc_genT {out : α → Option β} {Rel : β → V → Hp → Prop} (st : ∀ b v H H', TupStay H H' → Rel b v H → Rel b v H') (hD : H1 D = none) (hsq : SqT K H1 a (us.map enc)) (hz : us.length ≤ 9000) (hs : Turn H1 out Rel enc us g tt te vs σ)
    (hd : ∀ H' ys, Same H1 H' → H' D = some (.lst ys) → Paired (fun v b => Rel b v H') ys (us.filterMap out) → Qd H') :
    ∃ W : Nat → Nat → Hp → Prop, (∃ m, W 0 m (upd H1 D (.lst []))) ∧ ∀ i m H, W i m H →
      ((Itt K a).stop i H ∧ Qd H) ∨ ((Itt K a).go i H ∧ ∃ Nx : Hp → Prop, (∀ H', Nx H' → ∃ m', m' < m ∧ W (i + 1) m' H') ∧ ∀ x H', (Itt K a).yld i H x H' → g x (wipe σ vs) H' fun σ2 H2 => wipe σ2 vs = wipe σ vs ∧ tt σ2 H2 fun b H3 =>
        if b = true then te σ2 H3 fun y H4 => ∃ acc, H4 D = some (.lst acc) ∧ acc.length < sizeLine ∧ Nx (upd H4 D (.lst (acc ++ [y]))) else Nx H3) := by
  refine lc_tup (K := K) (a := a) (xs := us.map enc) (Inv9 H1 D out Rel us) (inv9_0 hD) (fun i H' _ z => same_seqT z.1 hsq) (fun i x H' hi z => ?_) (fun H' z => ?_)
  · rw [List.getElem?_map] at hi
    cases eu : us[i]? with
    | none => rw [eu] at hi; cases hi
    | some u =>
      rw [eu] at hi
      have ex : enc u = x := Option.some.inj hi
      rw [← ex]
      exact inv9_turn st hD hz hs eu z
  · obtain ⟨sb, ys, hD', _, hp⟩ := z
    rw [List.length_map, List.take_length] at hp
    exact hd H' ys sb hD' hp
theorem lc_genL {out : α → Option β} {Rel : β → V → Hp → Prop} (st : ∀ b v H H', TupStay H H' → Rel b v H → Rel b v H') (hD : H1 D = none) (hsq : SqL K H1 a (us.map enc)) (hz : us.length ≤ 9000) (hs : Turn H1 out Rel enc us g tt te vs σ)
    (hd : ∀ H' ys, Same H1 H' → H' D = some (.lst ys) → Paired (fun v b => Rel b v H') ys (us.filterMap out) → Qd H') :
    ∃ W : Nat → Nat → Hp → Prop, (∃ m, W 0 m (upd H1 D (.lst []))) ∧ ∀ i m H, W i m H →
      ((Itl K a).stop i H ∧ Qd H) ∨ ((Itl K a).go i H ∧ ∃ Nx : Hp → Prop, (∀ H', Nx H' → ∃ m', m' < m ∧ W (i + 1) m' H') ∧ ∀ x H', (Itl K a).yld i H x H' → g x (wipe σ vs) H' fun σ2 H2 => wipe σ2 vs = wipe σ vs ∧ tt σ2 H2 fun b H3 =>
        if b = true then te σ2 H3 fun y H4 => ∃ acc, H4 D = some (.lst acc) ∧ acc.length < sizeLine ∧ Nx (upd H4 D (.lst (acc ++ [y]))) else Nx H3) := by
  refine lc_list (K := K) (a := a) (xs := us.map enc) (Inv9 H1 D out Rel us) (inv9_0 hD) (fun i H' _ z => z.1.seq hsq) (fun i x H' hi z => ?_) (fun H' z => ?_)
  · rw [List.getElem?_map] at hi
    cases eu : us[i]? with
    | none => rw [eu] at hi; cases hi
    | some u =>
      rw [eu] at hi
      have ex : enc u = x := Option.some.inj hi
      rw [← ex]
      exact inv9_turn st hD hz hs eu z
  · obtain ⟨sb, ys, hD', _, hp⟩ := z
    rw [List.length_map, List.take_length] at hp
    exact hd H' ys sb hD' hp
end
/-- what is made is a value -/
def IsV (b v : V) (_ : Hp) : Prop := v = b
theorem isv_st : ∀ (b v : V) (H H' : Hp), TupStay H H' → IsV b v H → IsV b v H' := fun _ _ _ _ _ h => h
theorem isv_all : ∀ {ys zs : List V} {H : Hp}, Paired (fun v b => IsV b v H) ys zs → ys = zs
  | _, _, _, .nil => rfl
  | _, _, _, .cons (h : _ = _) t => by rw [h, isv_all t]
/-- what is made is a pair of ints -/
def IsP (b : Int × Int) (v : V) (H : Hp) : Prop := ∃ a, v = .ref a ∧ H a = some (.tup [.int b.1, .int b.2])
theorem isp_st : ∀ (b : Int × Int) (v : V) (H H' : Hp), TupStay H H' → IsP b v H → IsP b v H' := fun _ _ _ _ s ⟨a, e, h⟩ => ⟨a, e, s _ _ h⟩
theorem isp_all : ∀ {ys : List V} {qs : List (Int × Int)} {H : Hp}, Paired (fun v b => IsP b v H) ys qs → ∃ as : List Addr, ys = as.map V.ref ∧ Paired (fun a (q : Int × Int) => H a = some (.tup [.int q.1, .int q.2])) as qs
  | _, _, _, .nil => ⟨[], rfl, .nil⟩
  | _, _, _, .cons h t => by
    obtain ⟨as, e, p⟩ := isp_all t
    obtain ⟨a, ea, ha⟩ := h
    exact ⟨a :: as, by rw [List.map_cons, ea, e], .cons ha p⟩
/-- the places of a picture's pairs beside the pairs -/
theorem zip_fst : ∀ {as : List Addr} {ls : List (Int × Int)}, as.length = ls.length → (as.zip ls).map (fun p => V.ref p.1) = as.map V.ref
  | [], [], _ => rfl
  | [], _ :: _, h => by cases h
  | _ :: _, [], h => by cases h
  | a :: as, q :: ls, h => by
    rw [List.zip_cons_cons, List.map_cons, List.map_cons, zip_fst (Nat.succ.inj h)]
theorem zip_out {β : Type} (out : Int × Int → Option β) : ∀ {as : List Addr} {ls : List (Int × Int)}, as.length = ls.length → (as.zip ls).filterMap (fun p => out p.2) = ls.filterMap out
  | [], [], _ => rfl
  | [], _ :: _, h => by cases h
  | _ :: _, [], h => by cases h
  | a :: as, q :: ls, h => by
    rw [List.zip_cons_cons]
    simp only [List.filterMap_cons]
    rw [zip_out out (Nat.succ.inj h)]
theorem zip_at {as : List Addr} {ls : List (Int × Int)} {i : Nat} {p : Addr × (Int × Int)} (h : (as.zip ls)[i]? = some p) : as[i]? = some p.1 ∧ ls[i]? = some p.2 := by
  rw [List.getElem?_zip_eq_some] at h
  exact h
end Lamp
set_option Elab.async false
set_option linter.all false
set_option maxRecDepth 100000
set_option maxHeartbeats 1000000
namespace Lamp
/-! how often a lamp counts at a distance; sums of levels there -/
def doings (e n d : Int) : Int := if e = 0 then (if d = 0 then n else 0) else if d.fmod e = 0 then (if 0 ≤ d.fdiv e ∧ d.fdiv e < n then 1 else if n ≤ d.fdiv e ∧ d.fdiv e < 0 then -1 else 0) else 0
def after (lv : Int) (ls : List (Int × Int)) (e n p : Int) : Int := (ls.map fun q => q.2 * doings e n (p - q.1)).sum % lv
/-- a lamp's part as the law counts it, for no number below 0 -/
def counts (e n p : Int) (q : Int × Int) : Int := if e = 0 then n * q.2 * (if q.1 = p then 1 else 0) else if (p - q.1) % (if e < 0 then -e else e) = 0 ∧ 0 ≤ (p - q.1).fdiv e ∧ (p - q.1).fdiv e < n then q.2 else 0
def undo (lv e : Int) (ls : List (Int × Int)) : List (Int × Int) := ls.map fun q => (q.1 - e, lv - q.2)
theorem fmod_abs {d e : Int} (h : e ≠ 0) : d.fmod e = 0 ↔ d % (if e < 0 then -e else e) = 0 := by
  rw [← Int.dvd_iff_fmod_eq_zero, ← Int.dvd_iff_emod_eq_zero]
  split
  · rw [Int.neg_dvd]
  · exact Iff.rfl
theorem counts_eq {e n p : Int} (hn : 0 ≤ n) (q : Int × Int) : counts e n p q = q.2 * doings e n (p - q.1) := by
  unfold counts doings
  by_cases he : e = 0
  · rw [if_pos he, if_pos he]
    by_cases hp : q.1 = p
    · rw [if_pos hp, if_pos (by omega), Int.mul_one, Int.mul_comm]
    · rw [if_neg hp, if_neg (by omega), Int.mul_zero, Int.mul_zero]
  · rw [if_neg he, if_neg he]
    by_cases hm : (p - q.1).fmod e = 0
    · have hm' := (fmod_abs he).mp hm
      rw [if_pos hm]
      by_cases h1 : 0 ≤ (p - q.1).fdiv e ∧ (p - q.1).fdiv e < n
      · rw [if_pos ⟨hm', h1⟩, if_pos h1, Int.mul_one]
      · rw [if_neg (fun z => h1 z.2), if_neg h1, if_neg (fun z => by omega), Int.mul_zero]
    · rw [if_neg hm, if_neg (fun z => hm ((fmod_abs he).mpr z.1)), Int.mul_zero]
theorem undo_doings {e n d : Int} : doings (-e) (-n) (d + e) = - doings e n d := by
  unfold doings
  by_cases he : e = 0
  · subst he
    rw [if_pos (by decide), if_pos rfl]
    by_cases hd : d = 0
    · rw [if_pos (by omega), if_pos hd]
    · rw [if_neg (by omega), if_neg hd]
      rfl
  · rw [if_neg (by omega), if_neg he]
    by_cases hm : d.fmod e = 0
    · obtain ⟨k, hk⟩ := Int.dvd_of_fmod_eq_zero hm
      subst hk
      have e1 : e * k + e = (-e) * (-(k + 1)) := by rw [Int.neg_mul_neg, Int.mul_add, Int.mul_one]
      have q1 : (e * k).fdiv e = k := Int.mul_fdiv_cancel_left _ he
      have q2 : (e * k + e).fdiv (-e) = -(k + 1) := by rw [e1]; exact Int.mul_fdiv_cancel_left _ (by omega)
      have m2 : (e * k + e).fmod (-e) = 0 := by rw [e1]; exact Int.mul_fmod_right _ _
      rw [if_pos hm, if_pos m2, q1, q2]
      by_cases h1 : 0 ≤ k ∧ k < n
      · rw [if_pos h1, if_neg (by omega), if_pos (by omega)]
      · rw [if_neg h1]
        by_cases h2 : n ≤ k ∧ k < 0
        · rw [if_pos h2, if_pos (by omega)]
          rfl
        · rw [if_neg h2, if_neg (by omega), if_neg (by omega)]
          rfl
    · rw [if_neg hm, if_neg ?_]
      · rfl
      · intro z
        apply hm
        have h1 : -e ∣ d + e := Int.dvd_of_fmod_eq_zero z
        rw [Int.neg_dvd] at h1
        have h2 : e ∣ d := (Int.dvd_add_left (Int.dvd_refl e)).mp h1
        exact Int.fmod_eq_zero_of_dvd h2
theorem sum_mod {lv : Int} : ∀ {ls : List (Int × Int)} {f g : Int × Int → Int}, (∀ q ∈ ls, f q % lv = g q % lv) → (ls.map f).sum % lv = (ls.map g).sum % lv
  | [], _, _, _ => rfl
  | q :: ls, f, g, h => by
    rw [List.map_cons, List.map_cons, List.sum_cons, List.sum_cons, Int.add_emod, h q (List.mem_cons_self ..), sum_mod (ls := ls) (fun r hr => h r (List.mem_cons_of_mem _ hr)), ← Int.add_emod]
theorem after_counts {lv : Int} {ls : List (Int × Int)} {e n p : Int} (hn : 0 ≤ n) : (ls.map (counts e n p)).sum % lv = after lv ls e n p := sum_mod fun q _ => by rw [counts_eq hn]
theorem after_undo {lv : Int} {ls : List (Int × Int)} {e n p : Int} (hn : n < 0) : ((undo lv e ls).map (counts (0 - e) (0 - n) p)).sum % lv = after lv ls e n p := by
  rw [after_counts (by omega)]
  unfold after undo
  rw [List.map_map]
  refine sum_mod fun q _ => ?_
  show ((lv - q.2) * doings (0 - e) (0 - n) (p - (q.1 - e))) % lv = _
  rw [show (0 : Int) - e = -e by omega, show (0 : Int) - n = -n by omega, show p - (q.1 - e) = (p - q.1) + e by omega, undo_doings, Int.sub_mul, Int.mul_neg q.2, Int.sub_neg, Int.add_emod, Int.mul_emod_right, Int.zero_add, Int.emod_emod_of_dvd _ (Int.dvd_refl _)]
theorem doings_0 (e d : Int) : doings e 0 d = 0 := by
  unfold doings
  split
  · split <;> rfl
  · split
    · rw [if_neg (by omega), if_neg (by omega)]
    · rfl
theorem doings_1 (e d : Int) : doings e 1 d = if d = 0 then 1 else 0 := by
  unfold doings
  by_cases he : e = 0
  · rw [if_pos he]
  · rw [if_neg he]
    by_cases hd : d = 0
    · subst hd
      rw [if_pos rfl, if_pos (Int.zero_fmod e), Int.zero_fdiv, if_pos (by omega)]
    · rw [if_neg hd]
      by_cases hm : d.fmod e = 0
      · obtain ⟨k, rfl⟩ := Int.dvd_of_fmod_eq_zero hm
        rw [if_pos hm, Int.mul_fdiv_cancel_left _ he]
        have : k ≠ 0 := fun z => hd (by rw [z, Int.mul_zero])
        rw [if_neg (by omega), if_neg (by omega)]
      · rw [if_neg hm]
theorem after_0 {lv : Int} {ls : List (Int × Int)} {e p : Int} : after lv ls e 0 p = 0 := by
  unfold after
  rw [show (ls.map fun q => q.2 * doings e 0 (p - q.1)) = ls.map fun _ => (0 : Int) from List.map_congr_left fun q _ => by rw [doings_0, Int.mul_zero]]
  have : ∀ ls : List (Int × Int), (ls.map fun _ => (0 : Int)).sum = 0 := fun ls => by
    induction ls with
    | nil => rfl
    | cons q ls ih => rw [List.map_cons, List.sum_cons, ih]; rfl
  rw [this]
  exact Int.zero_emod lv
/-- the level that a picture tells of a place -/
def levelAt : List (Int × Int) → Int → Int
  | [], _ => 0
  | q :: ls, p => if q.1 = p then q.2 else levelAt ls p
theorem levelAt_cons (q : Int × Int) (ls : List (Int × Int)) (p : Int) : levelAt (q :: ls) p = if q.1 = p then q.2 else levelAt ls p := rfl
theorem level_out {p : Int} : ∀ {ls : List (Int × Int)}, p ∉ ls.map (·.1) → levelAt ls p = 0
  | [], _ => rfl
  | q :: ls, h => by
    rw [levelAt_cons, if_neg (fun z => h (by rw [List.map_cons, z]; exact List.mem_cons_self ..)), level_out fun z => h (by rw [List.map_cons]; exact List.mem_cons_of_mem _ z)]
theorem sum_level {e p : Int} : ∀ {ls : List (Int × Int)}, (ls.map (·.1)).Nodup → (ls.map fun q => q.2 * doings e 1 (p - q.1)).sum = levelAt ls p
  | [], _ => rfl
  | q :: ls, h => by
    rw [List.map_cons] at h
    cases h with
    | cons h1 h2 =>
      rw [List.map_cons, List.sum_cons, sum_level h2, doings_1]
      rw [levelAt_cons]
      by_cases hq : q.1 = p
      · rw [if_pos hq, if_pos (by omega), Int.mul_one]
        have : levelAt ls p = 0 := level_out fun z => h1 p z hq
        rw [this, Int.add_zero]
      · rw [if_neg hq, if_neg (by omega), Int.mul_zero, Int.zero_add]
theorem level_in {p : Int} : ∀ {ls : List (Int × Int)}, levelAt ls p = 0 ∨ (p, levelAt ls p) ∈ ls
  | [] => .inl rfl
  | q :: ls => by
    rw [levelAt_cons]
    by_cases hq : q.1 = p
    · rw [if_pos hq, ← hq]
      exact .inr (List.mem_cons_self ..)
    · rw [if_neg hq]
      rcases level_in (p := p) (ls := ls) with z | z
      · exact .inl z
      · exact .inr (List.mem_cons_of_mem _ z)
theorem after_1 {lv : Int} {ls : List (Int × Int)} {e p : Int} (nd : (ls.map (·.1)).Nodup) (h : ∀ q ∈ ls, 1 ≤ q.2 ∧ q.2 < lv) (h0 : 0 < lv) : after lv ls e 1 p = levelAt ls p := by
  unfold after
  rw [sum_level nd]
  rcases level_in (p := p) (ls := ls) with z | z
  · rw [z]; exact Int.zero_emod lv
  · have := h _ z
    exact Int.emod_eq_of_lt (by omega) this.2
theorem after_range {lv : Int} {ls : List (Int × Int)} {e n p : Int} (h0 : 0 < lv) : 0 ≤ after lv ls e n p ∧ after lv ls e n p < lv := ⟨Int.emod_nonneg _ (by omega), Int.emod_lt_of_pos _ h0⟩
end Lamp
set_option Elab.async false
set_option linter.all false
set_option maxRecDepth 100000
set_option maxHeartbeats 1000000
namespace Lamp
/-! pictures, told by the levels of all places -/
def sumAt (ls : List (Int × Int)) (p : Int) : Int := (ls.map fun q => if q.1 = p then q.2 else 0).sum
theorem sumAt_nil (p : Int) : sumAt [] p = 0 := rfl
theorem sumAt_cons (q : Int × Int) (ls : List (Int × Int)) (p : Int) : sumAt (q :: ls) p = (if q.1 = p then q.2 else 0) + sumAt ls p := by unfold sumAt; rw [List.map_cons, List.sum_cons]
theorem sumAt_app (ls ms : List (Int × Int)) (p : Int) : sumAt (ls ++ ms) p = sumAt ls p + sumAt ms p := by unfold sumAt; rw [List.map_append, List.sum_append]
theorem sum_out {p : Int} : ∀ {ls : List (Int × Int)}, p ∉ ls.map (·.1) → sumAt ls p = 0
  | [], _ => rfl
  | q :: ls, h => by
    rw [sumAt_cons, if_neg (fun z => h (by rw [List.map_cons, z]; exact List.mem_cons_self ..)), sum_out fun z => h (by rw [List.map_cons]; exact List.mem_cons_of_mem _ z)]
    rfl
theorem sum_levelAt {p : Int} : ∀ {ls : List (Int × Int)}, (ls.map (·.1)).Nodup → sumAt ls p = levelAt ls p
  | [], _ => rfl
  | q :: ls, h => by
    rw [List.map_cons] at h
    cases h with
    | cons h1 h2 =>
      rw [sumAt_cons, levelAt_cons]
      by_cases hq : q.1 = p
      · rw [if_pos hq, if_pos hq, sum_out fun z => h1 p z hq, Int.add_zero]
      · rw [if_neg hq, if_neg hq, Int.zero_add, sum_levelAt h2]
/-- a picture: places ascending, levels from 1 to lv - 1 -/
structure Rising (lv : Int) (ls : List (Int × Int)) : Prop where
  asc : (ls.map (·.1)).Pairwise (· < ·)
  lv : ∀ q ∈ ls, 1 ≤ q.2 ∧ q.2 < lv
theorem Rising.nd {lv : Int} {ls : List (Int × Int)} (h : Rising lv ls) : (ls.map (·.1)).Nodup := h.asc.imp fun z => Int.ne_of_lt z
theorem Rising.tail {lv : Int} {q : Int × Int} {ls : List (Int × Int)} (h : Rising lv (q :: ls)) : Rising lv ls := by
  have a := h.asc
  rw [List.map_cons] at a
  cases a with
  | cons _ a2 => exact ⟨a2, fun r hr => h.lv r (List.mem_cons_of_mem _ hr)⟩
theorem Rising.head {lv : Int} {q : Int × Int} {ls : List (Int × Int)} (h : Rising lv (q :: ls)) : ∀ r ∈ ls, q.1 < r.1 := by
  have a := h.asc
  rw [List.map_cons] at a
  cases a with
  | cons a1 _ => exact fun r hr => a1 _ (List.mem_map.mpr ⟨r, hr, rfl⟩)
theorem Rising.range {lv : Int} {ls : List (Int × Int)} (h : Rising lv ls) (h0 : 0 < lv) (p : Int) : 0 ≤ sumAt ls p ∧ sumAt ls p < lv := by
  rw [sum_levelAt h.nd]
  rcases level_in (p := p) (ls := ls) with z | z
  · rw [z]; omega
  · have := h.lv _ z
    exact ⟨by omega, this.2⟩
theorem Rising.before {lv : Int} {q : Int × Int} {ls : List (Int × Int)} (h : Rising lv (q :: ls)) {p : Int} (hp : p ≤ q.1) : sumAt ls p = 0 := sum_out fun z => by
  obtain ⟨r, hr, e⟩ := List.mem_map.mp z
  have := h.head r hr
  omega
theorem Rising.at0 {lv : Int} {q : Int × Int} {ls : List (Int × Int)} (h : Rising lv (q :: ls)) : sumAt (q :: ls) q.1 = q.2 := by
  rw [sumAt_cons, if_pos rfl, h.before (Int.le_refl _), Int.add_zero]
/-- the levels of all places tell the picture -/
theorem Rising.ext {lv : Int} : ∀ {ls ms : List (Int × Int)}, Rising lv ls → Rising lv ms → (∀ p, sumAt ls p = sumAt ms p) → ls = ms
  | [], [], _, _, _ => rfl
  | [], r :: ms, _, h2, e => by
    have z := e r.1
    rw [h2.at0, sumAt_nil] at z
    have := h2.lv r (List.mem_cons_self ..)
    omega
  | q :: ls, [], h1, _, e => by
    have z := e q.1
    rw [h1.at0, sumAt_nil] at z
    have := h1.lv q (List.mem_cons_self ..)
    omega
  | q :: ls, r :: ms, h1, h2, e => by
    have a1 := h1.lv q (List.mem_cons_self ..)
    have a2 := h2.lv r (List.mem_cons_self ..)
    have hpl : q.1 = r.1 := by
      by_cases lt : q.1 < r.1
      · have z := e q.1
        rw [h1.at0, sumAt_cons, if_neg (by omega), h2.before (by omega)] at z
        omega
      · by_cases gt : r.1 < q.1
        · have z := e r.1
          rw [h2.at0, sumAt_cons, if_neg (by omega), h1.before (by omega)] at z
          omega
        · omega
    have hlv : q.2 = r.2 := by
      have z := e q.1
      rw [h1.at0, hpl, h2.at0] at z
      exact z
    have hq : q = r := Prod.ext hpl hlv
    subst hq
    rw [Rising.ext h1.tail h2.tail fun p => by
      have z := e p
      rw [sumAt_cons, sumAt_cons] at z
      omega]
theorem Rising.mem {lv : Int} {ls : List (Int × Int)} (h : Rising lv ls) {q : Int × Int} (hq : q ∈ ls) : sumAt ls q.1 = q.2 := by
  rw [sum_levelAt h.nd]
  have nd := h.nd
  clear h
  induction ls with
  | nil => cases hq
  | cons r ls ih =>
    rw [List.map_cons] at nd
    cases nd with
    | cons n1 n2 =>
      rw [levelAt_cons]
      rcases List.mem_cons.mp hq with e | e
      · rw [e, if_pos rfl]
      · rw [if_neg (fun z => n1 _ (List.mem_map.mpr ⟨q, e, rfl⟩) z)]
        exact ih e n2
theorem sum_mem {ls : List (Int × Int)} {p : Int} (h : sumAt ls p ≠ 0) : ∃ q ∈ ls, q.1 = p := by
  by_cases z : p ∈ ls.map (·.1)
  · obtain ⟨q, hq, e⟩ := List.mem_map.mp z
    exact ⟨q, hq, e⟩
  · exact absurd (sum_out z) h
/-! a part of a sum: a picture, moved and multiplied -/
structure Part where
  ls : List (Int × Int)
  mv : Int
  tm : Int
def partAt (x : Part) (p : Int) : Int := x.tm * sumAt x.ls (p - x.mv)
def partsAt (xs : List Part) (p : Int) : Int := (xs.map fun x => partAt x p).sum
def partsLen (xs : List Part) : Nat := (xs.map fun x => x.ls.length).sum
theorem partsAt_app (xs ys : List Part) (p : Int) : partsAt (xs ++ ys) p = partsAt xs p + partsAt ys p := by unfold partsAt; rw [List.map_append, List.sum_append]
theorem partsAt_one (x : Part) (p : Int) : partsAt [x] p = partAt x p := by unfold partsAt; rw [List.map_cons, List.map_nil, List.sum_cons, List.sum_nil, Int.add_zero]
theorem partsLen_take {xs : List Part} {i : Nat} {x : Part} (h : xs[i]? = some x) : partsLen (xs.take i) + x.ls.length ≤ partsLen xs := by
  obtain ⟨li, e⟩ := List.getElem?_eq_some_iff.mp h
  have a : partsLen xs = partsLen (xs.take (i + 1)) + partsLen (xs.drop (i + 1)) := by
    unfold partsLen
    rw [← List.sum_append, ← List.map_append, List.take_append_drop]
  have b : partsLen (xs.take (i + 1)) = partsLen (xs.take i) + x.ls.length := by
    unfold partsLen
    rw [List.take_add_one, h, List.map_append, List.sum_append]
    show _ + ([x].map fun x => x.ls.length).sum = _
    rw [List.map_cons, List.map_nil, List.sum_cons, List.sum_nil, Nat.add_zero]
  omega
/-- what a chart tells: the levels other than 0, by ascending places -/
def tidy (lv : Int) (F : Int → Int) (ns : List Int) : List (Int × Int) := ns.filterMap fun n => if F n % lv = 0 then none else some (n, F n % lv)
theorem tidy_mem {lv : Int} {F : Int → Int} {ns : List Int} {q : Int × Int} (h : q ∈ tidy lv F ns) : q.1 ∈ ns ∧ q.2 = F q.1 % lv ∧ F q.1 % lv ≠ 0 := by
  unfold tidy at h
  obtain ⟨n, hn, e⟩ := List.mem_filterMap.mp h
  by_cases z : F n % lv = 0
  · rw [if_pos z] at e; cases e
  · rw [if_neg z] at e
    have e' := Option.some.inj e
    subst e'
    exact ⟨hn, rfl, z⟩
theorem tidy_asc {lv : Int} (h0 : 0 < lv) {F : Int → Int} : ∀ {ns : List Int}, ns.Pairwise (· < ·) → Rising lv (tidy lv F ns)
  | [], _ => ⟨.nil, fun q h => (nomatch h)⟩
  | n :: ns, h => by
    cases h with
    | cons h1 h2 =>
      have ih := tidy_asc h0 (F := F) h2
      unfold tidy
      rw [List.filterMap_cons]
      by_cases z : F n % lv = 0
      · rw [if_pos z]
        exact ih
      · rw [if_neg z]
        refine ⟨?_, fun q hq => ?_⟩
        · show ((n, F n % lv) :: tidy lv F ns).map (·.1) |>.Pairwise (· < ·)
          rw [List.map_cons]
          exact .cons (fun p hp => by
            obtain ⟨q, hq, e⟩ := List.mem_map.mp hp
            rw [← e]
            exact h1 _ (tidy_mem hq).1) ih.asc
        · rcases List.mem_cons.mp hq with e | e
          · subst e
            have a := Int.emod_nonneg (F n) (show lv ≠ 0 by omega)
            have b := Int.emod_lt_of_pos (F n) h0
            exact ⟨by show 1 ≤ F n % lv; omega, b⟩
          · exact ih.lv q e
theorem tidy_at {lv : Int} {F : Int → Int} (p : Int) : ∀ {ns : List Int}, ns.Nodup → sumAt (tidy lv F ns) p = if p ∈ ns then F p % lv else 0
  | [], _ => rfl
  | n :: ns, h => by
    cases h with
    | cons h1 h2 =>
      have ih := tidy_at (lv := lv) (F := F) p h2
      unfold tidy
      rw [List.filterMap_cons]
      by_cases z : F n % lv = 0
      · rw [if_pos z]
        show sumAt (tidy lv F ns) p = _
        rw [ih]
        by_cases e : p = n
        · subst e
          rw [if_neg (fun hp => h1 p hp rfl), if_pos (List.mem_cons_self ..), z]
        · by_cases hp : p ∈ ns
          · rw [if_pos hp, if_pos (List.mem_cons_of_mem _ hp)]
          · rw [if_neg hp, if_neg (fun k => (List.mem_cons.mp k).elim e hp)]
      · rw [if_neg z]
        show sumAt ((n, F n % lv) :: tidy lv F ns) p = _
        rw [sumAt_cons, ih]
        by_cases e : p = n
        · subst e
          rw [if_pos rfl, if_neg (fun hp => h1 p hp rfl), if_pos (List.mem_cons_self ..), Int.add_zero]
        · rw [if_neg (fun k => e k.symm), Int.zero_add]
          by_cases hp : p ∈ ns
          · rw [if_pos hp, if_pos (List.mem_cons_of_mem _ hp)]
          · rw [if_neg hp, if_neg (fun k => (List.mem_cons.mp k).elim e hp)]
theorem tidy_len {lv : Int} {F : Int → Int} (ns : List Int) : (tidy lv F ns).length ≤ ns.length := List.length_filterMap_le _ _
theorem level_key {cs : List (Int × Int)} {p : Int} (h : p ∉ cs.map (·.1)) : levelAt cs p = 0 := level_out h
end Lamp
set_option Elab.async false
set_option linter.all false
set_option maxRecDepth 100000
set_option maxHeartbeats 1000000
namespace Lamp
open PySem PySem.Spec PyProof.Rows L2
/-! == and != of two instances by an own __eq__ -/
structure EqO (P : Program) (w : World) (K : PySem.W.Frag) (mg : Str → Option Value) (base : Heap) (C : Addr) (sp : Sp) (k : Nat) : Prop where
  ex : ∃ (f : Addr) (fd : FuncData), PySem.W.findIn K (.ref C) "__eq__" = some (some (.ref f)) ∧ PySem.W.isFn K (.ref f) = true ∧ FnOk P w K mg base CX0 k f fd ["self", "other"] sp ∧ Binds K fd ["self", "other"] []
  ne : PySem.W.findIn K (.ref C) "__ne__" = some (some (.builtin "object.__ne__"))
  mro : PySem.W.mroIn K C (.type "object") = some true
def rOwn2 (C : Addr) (sp : Sp) (neg : Bool) : R2 := fun x y H Q => ∃ (a b dx dy : Addr) (fs gs : List (Str × V)), x = .ref a ∧ y = .ref b ∧ H a = some (.ins C dx fs) ∧ H b = some (.ins C dy gs) ∧ sp [.ref a, .ref b] H (fun v H' => ∃ k, v = .bl k ∧ Q (.bl (if neg then !k else k)) H') E0
section
variable {X : Cx} {pins : List (Addr × Obj)} {σ : L2.St} {H : Hp} {s : Shared} {Q : VK} {a b f C : Addr} {k : Nat} {sp : Sp} {fd : FuncData} {A' : Around}
theorem run_two (F : FnOk X.prog X.w X.K X.mg X.base CX0 k f fd ["self", "other"] sp) (hr : Room k A') (hf : A'.frames = X.A.frames) (hb : Binds X.K fd ["self", "other"] []) (I : Inv X pins σ H s) (h : sp [.ref a, .ref b] H Q E0) :
    wpAny (model X.prog X.w) A' (call (.ref f) [.ref a, .ref b]) (EP X pins σ Q) X.xe s := by
  have e0 := I.env0
  have e1 : Env0 X.prog X.w X.K X.mg X.base A' X.stack s H := ⟨hf.trans e0.frames, e0.mod, e0.bs, e0.bsz, e0.funs, e0.frf, e0.hok, e0.bare⟩
  have bb := hb s [.ref a, .ref b] I.kIn rfl
  refine wpAny_call (codeAny_mono (F.run A' X.stack s H ⟨[.ref a, .ref b], []⟩ [.ref a, .ref b] [.ref a, .ref b] Q E0 hr e1 bb (.cons (show RelV (V.ref a) (Value.ref a) from rfl) (.cons (show RelV (V.ref b) (Value.ref b) from rfl) .nil)) h) fun res s' told => ?_)
  match res, told with
  | .error _, told => exact False.elim told
  | .ok (.ret u), told => exact I.after told
  | .ok .next, told => exact False.elim told
  | .ok .brk, told => exact False.elim told
  | .ok .cont, told => exact False.elim told
end
section
variable {X : Cx} {C : Addr} {sp : Sp} {k : Nat}
theorem op_eqO (Z : EqO X.prog X.w X.K X.mg X.base C sp k) (hr : Room k X.A) : OpR X (compareOp .Eq) (rOwn2 C sp false) := by
  intro pins s σ H x y v u Q I rx ry h
  obtain ⟨a, b, dx, dy, fs, gs, rfl, rfl, ha, hb, hs⟩ := h
  obtain ⟨f, fd, h1, h2, F, bb⟩ := Z.ex
  cases rx
  cases ry
  obtain ⟨od, J⟩ := ins_inst I ha
  obtain ⟨od', J'⟩ := ins_inst I hb
  obtain ⟨m, fr⟩ := I.fr
  unfold compareOp
  refine PySem.W.cmp_K (op := .Eq) (tb := .ref C) hr.units0 fr I.ok.mod.kin J J'.type (by simp [PySem.W.notFirst]) h1 h2 (wpAny_mono (run_two F hr rfl bb I hs) (fun r s' told => ?_) fun _ _ z => z)
  obtain ⟨v, H1, I1, rv, ⟨n, ev, q⟩⟩ := told
  subst ev
  have eu : r = Value.bool n := rv
  subst eu
  exact ⟨.bl n, H1, I1, rfl, q⟩
end
section
variable {M : Model} {prog : Program} {w : World} {A : Around} {E : Value → Shared → Prop} {s : Shared} {K : PySem.W.Frag} {x y C f : Addr} {ox : Obj} {od : Option Obj}
theorem ne_bound {args : List Value} {Q : Option Value → Shared → Prop} (X : K.In s.heap) (I : PySem.W.InstAt s.heap x ox C od) (hs : PySem.W.findIn K (.ref C) "__ne__" = some (some (.builtin "object.__ne__")))
    (h : wpAny M A (call (.builtin "object.__ne__") (.ref x :: args)) (fun v => Q (some v)) E s) : wpAny M A (callSpecialIfBound? (.ref x) "__ne__" args) Q E s := by
  have done : wpAny M A (call (.builtin "object.__ne__") ([.ref x] ++ args) >>= fun v => pure (some v)) Q E s := wpAny_bind (wpAny_mono h (fun v s' h' => wpAny_pure h') fun _ _ h' => h')
  simp only [callSpecialIfBound?, bindSpecialIfBound?]
  refine wpAny_holding (wpAny_bind (wpAny_bind (wpAny_bind (I.type.here ((PySem.W.looks_findIn X hs).here ?_)))))
  refine wpAny_bind (wpAny_askSetting (wpAny_ite ?_))
  split
  · exact wpAny_bind (wpAny_of_eq (F.cmp_object.ne.bind _) (wpAny_pure (by exact done)))
  · exact wpAny_tryCatch (wpAny_bind (wpAny_of_eq (F.cmp_object.ne.bind _) (wpAny_pure (by exact done))))
theorem ne_entry {Q : Fin → Shared → Prop} (X : K.In s.heap) (I : PySem.W.InstAt s.heap x ox C od) (hu : A.units < cLine) (h1 : PySem.W.findIn K (.ref C) "__eq__" = some (some (.ref f))) (h2 : PySem.W.isFn K (.ref f) = true)
    (h : wpAny (model prog w) A (call (.ref f) [.ref x, .ref y]) (fun v s' => ∃ b, v = .bool b ∧ Q (.done (.ret (.bool (!b)))) s') E s) :
    wpAny (model prog w) A (Builtin.«object.__ne__» ⟨[.ref x, .ref y], []⟩) Q E s := by
  unfold Builtin.«object.__ne__»
  repeat (first
    | with_reducible refine wpAny_cRoomFor hu ?_
    | (refine wpAny_bind (m := callSpecialIfBound? (.ref x) (Str.ofString "__eq__") [.ref y])
        (PySem.W.ifBound_K X I h1 h2 (wpAny_mono h (fun r s' hr => by
          obtain ⟨b, rfl, hq⟩ := hr
          repeat (first | exact hq | exact wpAny_pure hq | exact wpAny_truthy_bool hq | (refine wpAny_bind (m := truthy (.bool _)) (wpAny_truthy_bool ?_)) | wp_step)) fun _ _ e => e)))
    | wp_step)
theorem ne_call {Q : Value → Shared → Prop} (X : K.In s.heap) (I : PySem.W.InstAt s.heap x ox C od) (hm : PySem.W.mroIn K C (.type "object") = some true) (hu : A.in1.units < cLine) (h1 : PySem.W.findIn K (.ref C) "__eq__" = some (some (.ref f))) (h2 : PySem.W.isFn K (.ref f) = true)
    (h : wpAny (model prog w) A.in1 (call (.ref f) [.ref x, .ref y]) (fun v s' => ∃ b, v = .bool b ∧ Q (.bool (!b)) s') E s) :
    wpAny (model prog w) A (call (.builtin "object.__ne__") [.ref x, .ref y]) Q E s := by
  refine wpAny_call (codeAny_call_builtin F.cmp_object.ne.plain F.cmpEntry_ne (PySem.W.check_slot F.cmpKind_ne F.cmpSplit_ne (I.type.andThen (PySem.W.looks_mroIn X hm)) (F.cmpArgs_ne _ _) (ne_entry (A := A.in1) X I hu h1 h2 (wpAny_mono h (fun v s' told => ?_) fun _ _ e => e))))
  obtain ⟨b, rfl, hq⟩ := told
  exact ⟨b, rfl, hq⟩
end
section
variable {X : Cx} {C : Addr} {sp : Sp} {k : Nat}
theorem op_neO (Z : EqO X.prog X.w X.K X.mg X.base C sp k) (hr : Room (k + 1) X.A) : OpR X (compareOp .NotEq) (rOwn2 C sp true) := by
  intro pins s σ H x y v u Q I rx ry h
  obtain ⟨a, b, dx, dy, fs, gs, rfl, rfl, ha, hb, hs⟩ := h
  obtain ⟨f, fd, h1, h2, F, bb⟩ := Z.ex
  cases rx
  cases ry
  obtain ⟨od, J⟩ := ins_inst I ha
  obtain ⟨od', J'⟩ := ins_inst I hb
  have main : wpAny (model X.prog X.w) X.A (tryCompare (.ref a) "__ne__" (.ref b)) (fun r s' => ∃ n, r = some (Value.bool n) ∧ EP X pins σ Q (.bool n) s') X.xe s := by
    unfold tryCompare
    refine wpAny_bind (ne_bound I.kIn J Z.ne (ne_call I.kIn J Z.mro hr.in1.units0 h1 h2 (wpAny_mono (run_two F hr.in1 rfl bb I hs) (fun r s' told => ?_) fun _ _ z => z)))
    obtain ⟨v, H1, I1, rv, ⟨n, ev, q⟩⟩ := told
    subst ev
    have eu : r = Value.bool n := rv
    subst eu
    exact ⟨n, rfl, wpAny_pure ⟨!n, rfl, .bl (!n), H1, I1, rfl, q⟩⟩
  unfold compareOp richCompare
  simp only [oneThing_ref]
  refine wpAny_holding (wpAny_bind (wpAny_cRoomFor hr.units0 ?_))
  rw [cmpInfo_NotEq]
  dsimp only
  refine wpAny_bind (J.type.here (wpAny_bind (J'.type.here ?_)))
  rw [show (Value.ref C != Value.ref C) = false from by simp]
  simp only [Bool.false_eq_true, if_false]
  refine wpAny_bind (wpAny_pure ?_)
  simp only [Bool.false_eq_true, if_false]
  refine wpAny_bind (wpAny_mono main (fun r s' told => ?_) fun _ _ z => z)
  obtain ⟨n, rfl, q⟩ := told
  exact wpAny_pure q
end
end Lamp
set_option Elab.async false
set_option linter.all false
set_option maxRecDepth 100000
set_option maxHeartbeats 1000000
namespace Lamp
open PySem PySem.Spec PyProof.Rows L2
abbrev sEqR : Stmt := inClass sRound 6
abbrev sCkR : Stmt := top 29
def partsD (lv : Int) (ls : List (Int × Int)) (fin : Int) : PyData := .list [.int lv, .tuple (ls.map pairD), .int fin]
theorem eqv_pairs : ∀ (ls ms : List (Int × Int)), PyData.eqvAll (ls.map pairD) (ms.map pairD) = decide (ls = ms)
  | [], [] => rfl
  | [], _ :: _ => rfl
  | _ :: _, [] => rfl
  | q :: ls, r :: ms => by
    show (PyData.eqv (pairD q) (pairD r) && PyData.eqvAll (ls.map pairD) (ms.map pairD)) = _
    rw [eqv_pairs ls ms]
    show (((q.1 == r.1) && ((q.2 == r.2) && true)) && decide (ls = ms)) = decide (q :: ls = r :: ms)
    rw [Bool.eq_iff_iff]
    simp only [Bool.and_eq_true, beq_iff_eq, decide_eq_true_eq, List.cons.injEq, and_true]
    constructor
    · rintro ⟨⟨a, b⟩, c⟩
      exact ⟨Prod.ext a b, c⟩
    · rintro ⟨a, c⟩
      rw [a]
      exact ⟨⟨rfl, rfl⟩, c⟩
theorem wt_i {i : Int} (h : i.natAbs < 10 ^ 40) : PyData.weight (.int i) ≤ 134 := by
  unfold PyData.weight
  split
  · omega
  · have : i.natAbs.log2 < 133 := PySem.Flt.log2_lt_of (by decide) (Nat.lt_of_lt_of_le h (by decide))
    omega
theorem pairs_facts : ∀ {ls : List (Int × Int)}, (∀ q ∈ ls, q.1.natAbs < 10 ^ 40 ∧ q.2.natAbs < 10 ^ 40) → PyData.leavesShortAll 41 (ls.map pairD) = true ∧ PyData.weightAll (ls.map pairD) ≤ 271 * ls.length ∧ PyData.showableAll (ls.map pairD) = true
  | [], _ => ⟨rfl, Nat.zero_le _, rfl⟩
  | q :: r, h => by
    obtain ⟨h1, h2, h3⟩ := pairs_facts (ls := r) fun p hp => h p (List.mem_cons_of_mem _ hp)
    obtain ⟨a1, a2⟩ := h q (List.mem_cons_self ..)
    have w1 := wt_i a1
    have w2 := wt_i a2
    refine ⟨?_, ?_, ?_⟩
    · show (PyData.leavesShort 41 (pairD q) && PyData.leavesShortAll 41 (r.map pairD)) = true
      rw [h1, Bool.and_true]
      show (decide ((nS q.1).length ≤ 41) && (decide ((nS q.2).length ≤ 41) && true)) = true
      rw [decide_eq_true (nS_len a1), decide_eq_true (nS_len a2)]
      rfl
    · show PyData.weight (pairD q) + 1 + PyData.weightAll (r.map pairD) ≤ 271 * (r.length + 1)
      have e : PyData.weight (pairD q) = PyData.weight (.int q.1) + 1 + (PyData.weight (.int q.2) + 1 + 0) := rfl
      omega
    · show (PyData.showable (pairD q) && PyData.showableAll (r.map pairD)) = true
      rw [h3, Bool.and_true]
      show (decide (q.1.natAbs.log2 < 1920) && (decide (q.2.natAbs.log2 < 1920) && true)) = true
      rw [decide_eq_true (fits_log a1), decide_eq_true (fits_log a2)]
      rfl
theorem parts_short {lv : Int} {ls : List (Int × Int)} {fin : Int} (hf : Fit lv ls fin) : (partsD lv ls fin).showable = true ∧ (partsD lv ls fin).depth ≤ 50 ∧ PyData.leavesShort 41 (partsD lv ls fin) = true ∧ (partsD lv ls fin).weight ≤ 6000 := by
  have few := hf.few
  obtain ⟨h1, h2, h3⟩ := pairs_facts hf.all
  have w1 := wt_i hf.lv
  have w2 := wt_i hf.fin
  refine ⟨?_, ?_, ?_, ?_⟩
  · show (decide (lv.natAbs.log2 < 1920) && (PyData.showableAll (ls.map pairD) && (decide (fin.natAbs.log2 < 1920) && true))) = true
    rw [h3, decide_eq_true (fits_log hf.lv), decide_eq_true (fits_log hf.fin)]
    rfl
  · have hd := (lay_pairs ls).2
    show max 0 (max (PyData.depthAll (ls.map pairD) + 1) (max 0 0)) + 1 ≤ 50
    omega
  · show (decide ((nS lv).length ≤ 41) && (PyData.leavesShortAll 41 (ls.map pairD) && (decide ((nS fin).length ≤ 41) && true))) = true
    rw [h1, decide_eq_true (nS_len hf.lv), decide_eq_true (nS_len hf.fin)]
    rfl
  · show PyData.weight (.int lv) + 1 + (PyData.weightAll (ls.map pairD) + 1 + (PyData.weight (.int fin) + 1 + 0)) ≤ 6000
    omega
def twoP (lv : Int) (ls : List (Int × Int)) (fin : Int) : PyData := .list [partsD lv ls fin, partsD lv ls fin]
theorem twoP_ok {lv : Int} {ls : List (Int × Int)} {fin : Int} (hf : Fit lv ls fin) : (twoP lv ls fin).showable = true ∧ (twoP lv ls fin).depth ≤ 60 ∧ (twoP lv ls fin).shown.length ≤ sizeLine := by
  obtain ⟨h1, h2, h3, h4⟩ := parts_short hf
  refine ⟨?_, ?_, ?_⟩
  · show ((partsD lv ls fin).showable && ((partsD lv ls fin).showable && true)) = true
    rw [h1]
    rfl
  · show max (partsD lv ls fin).depth (max (partsD lv ls fin).depth 0) + 1 ≤ 60
    omega
  · have hs : PyData.leavesShort 41 (twoP lv ls fin) = true := by
      show (PyData.leavesShort 41 (partsD lv ls fin) && (PyData.leavesShort 41 (partsD lv ls fin) && true)) = true
      rw [h3]
      rfl
    have z := PyData.shown_le 41 (by decide) _ hs
    have e : (twoP lv ls fin).weight = (partsD lv ls fin).weight + 1 + ((partsD lv ls fin).weight + 1 + 0) := rfl
    have hl : (1000000 : Nat) ≤ sizeLine := by decide
    have hw : (twoP lv ls fin).weight ≤ 12002 := by omega
    have : (41 + 2) * (twoP lv ls fin).weight ≤ 43 * 12002 := Nat.mul_le_mul (Nat.le_refl _) hw
    omega
/-- isinstance(x, Round) of a round -/
structure IsR (K : PySem.W.Frag) (C : Addr) : Prop where
  cls : PySem.W.findIn K (.ref C) "__class__" = some (some (.builtin "object.__class__"))
  get : PySem.W.specialIn K (.builtin "object.__class__") "__get__" = some (some (.builtin "getset_descriptor.__get__"))
  tak : PySem.W.takesIn K (.builtin "object.__class__") = some true
  mro : PySem.W.mroIn K C (.type "object") = some true
  kit : PySem.W.kitOne K (.ref C) (.ref C) = some true
def spEqR (K : PySem.W.Frag) (C : Addr) : Sp := fun vs H Q _ => ∃ (a b t t' : Addr) (lv fin lv' fin' : Int) (ls ls' : List (Int × Int)), vs = [.ref a, .ref b] ∧ RoundAt C H a lv t fin ∧ RoundAt C H b lv' t' fin' ∧ PicAt K H t ls ∧ PicAt K H t' ls' ∧ Q (.bl (decide (lv = lv' ∧ ls = ls' ∧ fin = fin'))) H
section
variable {P : Program} {w : World} {K : PySem.W.Frag} {mg : Str → Option Value} {base : Heap} {C : Addr}
theorem scEqR : FnScope ["self", "other"] ["self", "other"] (defScope sEqR) := ⟨rfl, rfl, rfl, by decide +kernel, rfl, by decide +kernel, by decide +kernel⟩
theorem v_isR {σ : L2.St} {H : Hp} {b t : Addr} {lv fin : Int} {te : TE} (R : RCls K C) (S : IsR K C) (h : Val te σ H (.ref b)) (hr : RoundAt C H b lv t fin) : Val (tCB (rIsi K) (tCons te (tCons (tC (.ref C)) tNil))) σ H (.bl true) := by
  obtain ⟨dx, hr⟩ := hr
  exact fun Q q => h _ ⟨_, _, .ref C, .ref C, true, rfl, .own C, .base (.ins hr R.cl S.cls S.get S.tak S.mro), S.kit, q⟩
theorem ok_eqR {f : Addr} {fd : FuncData} (F : Fun K "__eq__" "Round.__eq__" sEqR f fd) (R : RCls K C) (S : IsR K C) (mR : mg "Round" = some (.ref C)) (mis : mg "isinstance" = none) : FnOk P w K mg base CX0 1 f fd ["self", "other"] (spEqR K C) := by
  refine F.ok scEqR (fun vs H Q E h => ?_) (fun cdv A outer s H vs Q E hr h => ?_)
  · obtain ⟨a, b, t, t', lv, fin, lv', fin', ls, ls', rfl, _⟩ := h
    rfl
  · obtain ⟨a, b, t, t', lv, fin, lv', fin', ls, ls', rfl, ha, hb, hp, hp', q⟩ := h
    have hu := hr.units
    refine ⟨_, pss_one (ps_ret (pe_and (pe_callB call_isi (by rfl) mis (by decide +kernel) (pa_cons (pv 1) (pa_cons (pe_glob (v := .ref C) rfl mR rfl) pa_nil)))
      (pe_and (pe_cmpR op_eq (pe_fld (pv 0) rfl) (pe_fld (pv 1) rfl) (nomark _)) (pe_and (pe_cmpR (op_eqD hu) (pe_fld (pv 0) rfl) (pe_fld (pv 1) rfl) (nomark _)) (pe_one (pe_cmpR op_eq (pe_fld (pv 0) rfl) (pe_fld (pv 1) rfl) (nomark _))))))), ?_⟩
    refine v_isR R S (val_var rfl) hb _ ⟨true, rfl, iteT ?_⟩
    have h1 : decide (V.int lv = V.int lv') = decide (lv = lv') := by
      rw [Bool.eq_iff_iff, decide_eq_true_eq, decide_eq_true_eq]
      exact ⟨V.int.inj, fun e => by rw [e]⟩
    have h3 : decide (V.int fin = V.int fin') = decide (fin = fin') := by
      rw [Bool.eq_iff_iff, decide_eq_true_eq, decide_eq_true_eq]
      exact ⟨V.int.inj, fun e => by rw [e]⟩
    have v1 : Val (tOp rEq (tFld K (tVar 0) "_levels") (tFld K (tVar 1) "_levels")) (L2.start ["self", "other"] [V.ref a, V.ref b]) H (.bl (decide (lv = lv'))) := val_op (v_lv R (val_var rfl) ha) (v_lv R (val_var rfl) hb) fun Q q => ⟨rfl, by rw [h1]; exact q⟩
    have v2 : Val (tOp (rEqD K) (tFld K (tVar 0) "_lamps") (tFld K (tVar 1) "_lamps")) (L2.start ["self", "other"] [V.ref a, V.ref b]) H (.bl (decide (ls = ls'))) := val_op (v_la R (val_var rfl) ha) (v_la R (val_var rfl) hb) fun Q q => ⟨_, _, dp_pic hp, dp_pic hp', (shaped_pairs ls).2, (shaped_pairs ls').2, by
      show Q (.bl (PyData.eqvAll (ls.map pairD) (ls'.map pairD))) H
      rw [eqv_pairs]
      exact q⟩
    have v3 : Val (tOp rEq (tFld K (tVar 0) "_end") (tFld K (tVar 1) "_end")) (L2.start ["self", "other"] [V.ref a, V.ref b]) H (.bl (decide (fin = fin'))) := val_op (v_en R (val_var rfl) ha) (v_en R (val_var rfl) hb) fun Q q => ⟨rfl, by rw [h3]; exact q⟩
    refine v1 _ ⟨_, rfl, ?_⟩
    by_cases e1 : lv = lv'
    · rw [decide_eq_true e1]
      refine iteT ?_
      refine v2 _ ⟨_, rfl, ?_⟩
      by_cases e2 : ls = ls'
      · rw [decide_eq_true e2]
        refine iteT ?_
        refine v3 _ ?_
        have : decide (lv = lv' ∧ ls = ls' ∧ fin = fin') = decide (fin = fin') := by
          rw [Bool.eq_iff_iff, decide_eq_true_eq, decide_eq_true_eq]
          exact ⟨fun z => z.2.2, fun z => ⟨e1, e2, z⟩⟩
        rw [this] at q
        exact q
      · rw [decide_eq_false e2]
        refine iteF ?_
        rw [decide_eq_false fun z => e2 z.2.1] at q
        exact q
    · rw [decide_eq_false e1]
      refine iteF ?_
      rw [decide_eq_false fun z => e1 z.1] at q
      exact q
end
/-- what a round's properties tell -/
structure Ask3 (P : Program) (w : World) (K : PySem.W.Frag) (mg : Str → Option Value) (base : Heap) (C : Addr) : Prop where
  lv : PrR P w K mg base C "levels" (spLevels C) 1
  la : PrR P w K mg base C "lamps" (spLamps C) 1
  en : PrR P w K mg base C "end" (spEnd C) 1
def spCkR (C : Addr) : Sp := fun vs H Q _ => ∃ (a t : Addr) (lv fin : Int), vs = [.ref a] ∧ RoundAt C H a lv t fin ∧ Q .non H
section
variable {P : Program} {w : World} {K : PySem.W.Frag} {mg : Str → Option Value} {base : Heap} {C : Addr}
theorem scCkR : FnScope ["value"] ["value"] (defScope sCkR) := ⟨rfl, rfl, rfl, by decide +kernel, rfl, by decide +kernel, by decide +kernel⟩
theorem ok_ckR {f : Addr} {fd : FuncData} (F : Fun K "check_round" "check_round" sCkR f fd) (R : RCls K C) (S : IsR K C) (mR : mg "Round" = some (.ref C)) (mis : mg "isinstance" = none) : FnOk P w K mg base CX0 1 f fd ["value"] (spCkR C) := by
  refine F.ok scCkR (fun vs H Q E h => ?_) (fun cdv A outer s H vs Q E hr h => ?_)
  · obtain ⟨a, t, lv, fin, rfl, _⟩ := h
    rfl
  · obtain ⟨a, t, lv, fin, rfl, ha, q⟩ := h
    refine ⟨_, pss_one (ps_if (pt_not (pt_val (pe_callB call_isi (by rfl) mis (by decide +kernel) (pa_cons (pv 0) (pa_cons (pe_glob (v := .ref C) rfl mR rfl) pa_nil))))) pss_never pss_nil), ?_⟩
    exact st_no (ans_not (b := true) (ans_val (v_isR R S (val_var rfl) ha))) q
end
end Lamp
set_option Elab.async false
set_option linter.all false
set_option maxRecDepth 100000
set_option maxHeartbeats 1000000
namespace Lamp
open PySem PySem.Spec PyProof.Rows L2
/-- sorted(d) of a dict whose keys are ints, any number of them -/
def rSortDW : List V → Hp → VK → Prop := fun xs H Q => ∃ (a : Addr) (kvs : List (Key × V)) (ks : List Int), xs = [.ref a] ∧ Rd H a (.dK kvs) ∧ kvs.map (·.1) = ks.map Sum.inl ∧
  ∀ (ys : List Int) (p : Addr), ys.Perm ks → ys.Pairwise (· ≤ ·) → H p = none → Q (.ref p) (upd H p (.lst (ys.map V.int)))
theorem keys_ints {vs : List (Key × Value)} {acc : Array Value} {ks : List Int} (hk : vs.map (·.1) = ks.map Sum.inl) (hn : acc.size = vs.length) (h : ∀ (j : Nat) (v : Value), acc[j]? = some v → ∃ (k : Key) (x : Value), vs[j]? = some (k, x) ∧ keyIs k v = true) : IntsAre acc.toList ks := by
  have hl : vs.length = ks.length := by simpa using congrArg List.length hk
  refine ints_each (by rw [Array.length_toList, hn, hl]) fun j v e => ?_
  obtain ⟨k, x, e1, e2⟩ := h j v (by rw [← Array.getElem?_toList]; exact e)
  have e3 : (ks.map Sum.inl)[j]? = some k := by rw [← hk, List.getElem?_map, e1]; rfl
  rw [List.getElem?_map] at e3
  cases e4 : ks[j]? with
  | none => rw [e4] at e3; cases e3
  | some y =>
    rw [e4] at e3
    cases Option.some.inj e3
    rcases keyIs_shape e2 with ⟨i, t, ek, ev⟩ | ⟨z, t, ek, ev⟩
    · cases ek
      exact ⟨_, t, rfl, ev⟩
    · cases ek
theorem call_sortedDW {X : Cx} (hcalm : X.calm = true) : CallR X (.builtin "sorted") rSortDW := by
  intro pins s σ H xs us Q I r q
  obtain ⟨a, kvs, ks, rfl, hd, hks, q⟩ := q
  rw [Vals.ref1 r]
  obtain ⟨z, lo, vs, rel, dd⟩ := dk_rd I.hok hd
  obtain ⟨ep, hat⟩ := dd.dictAt
  have hkeys : vs.map (·.1) = ks.map Sum.inl := rel.keys.symm.trans hks
  have hz : vs.length ≤ sizeLine := by rw [← rel.length]; exact z
  refine Calls.call_function_entry PyProof.Rows.kind_sorted PyProof.Rows.plain_sorted PyProof.Rows.entry_sorted (PyProof.Rows.args_sorted1 _) ?_
  unfold Builtin.«sorted»
  refine wpAny_bind (m := checkCount "sorted" 1 1 _) (wpAny_pure ?_)
  refine wpAny_bind (PySem.W.kdu_collect (A := X.A.in1) (PySem.W.kdl_dict (knd := mixKind X.prog X.w) (kvs := vs) (ep := ep) lo) (I.ok.hd hcalm) hat hz fun h' tk acc hk hacc => ?_)
  have hS : IntsAre acc.toList ks := keys_ints hkeys hacc.1 fun j v e => by
    obtain ⟨k, x, e1, e2⟩ := hacc.2 j v e
    exact ⟨k, x, e1, e2⟩
  have hz2 : acc.toList.length ≤ sizeLine := by rw [Array.length_toList, hacc.1]; exact hz
  have I1 : Inv X pins σ H { s with heap := h', toks := tk } := I.kept hk
  refine wpAny_bind (wpAny_newList ?_ hz2)
  have hoL : (h'.push (seqObj "list" acc.toList.toArray 0)).get? h'.objs.size = some (seqObj "list" acc.toList.toArray 0) := Heap.get?_push_size _ rfl
  show wpAny _ _ _ _ _ { s with heap := h'.push (seqObj "list" acc.toList.toArray 0), toks := tk }
  refine wpAny_bind (wpAny_holding (wpAny_call_entry PyProof.Rows.slot_list_sort ⟨_, hoL, rfl⟩ PyProof.Rows.entry_list_sort
    (SrtO.list_sort_ord (s := { s with heap := h'.push (seqObj "list" acc.toList.toArray 0), toks := tk }) SrtO.swo_int hoL hz2 (fun h2 => SrtO.ints_sortable hS h2) fun out g1 g2 => ⟨_, rfl, ?_⟩) (PyProof.Rows.args_list_sort _)))
  obtain ⟨k1, k2, k3⟩ := SrtO.ints_out hS g1 g2
  obtain ⟨e', he'⟩ := PyProof.Rows.sortedHeap_at (vs := acc.toList) (out := out.toArray) hoL
  have hlen : ((out.map SrtO.iv).map V.int).length ≤ sizeLine := by
    rw [List.length_map, List.length_map, ← List.length_map (f := SrtO.iv), k2.length_eq]
    have e := congrArg List.length hkeys
    rw [List.length_map, List.length_map] at e
    omega
  refine wpAny_pure ⟨_, rfl, .ref h'.objs.size, upd H h'.objs.size (.lst ((out.map SrtO.iv).map V.int)), I1.laid (t' := tk) (fun b u e => ?_) (Nat.le_refl _)
    (show ObjOk X.prog X.w _ _ _ (.lst ((out.map SrtO.iv).map V.int)) from ⟨hlen, out, e', vals_of_ints k1, he'⟩), rfl, q _ _ k2 k3 (I1.hok.fresh (Nat.le_refl _))⟩
  have hb : b < h'.objs.size := Heap.lt_size e
  rw [PyProof.Rows.sortedHeap_old (Nat.ne_of_lt hb) (by rw [size_push']; exact Nat.lt_succ_of_lt hb)]
  exact Heap.get?_push_of_some _ e
end Lamp
set_option Elab.async false
set_option linter.all false
set_option maxRecDepth 100000
set_option maxHeartbeats 1000000
namespace Lamp
open PySem PySem.Spec PyProof.Rows L2
abbrev sTotal : Stmt := top 34
/-! charts -/
theorem nodup_put {cs : List (Int × Int)} (h : (cs.map (·.1)).Nodup) (k v : Int) : ((putI cs k v).map (·.1)).Nodup ∧ (putI cs k v).length ≤ cs.length + 1 := by
  unfold putI
  split
  · refine ⟨?_, by rw [List.length_map]; omega⟩
    rw [List.map_map]
    have e : ((fun q : Int × Int => q.1) ∘ fun q => if q.1 = k then (q.1, v) else q) = fun q => q.1 := by
      funext q
      show (if q.1 = k then (q.1, v) else q).1 = q.1
      split <;> rfl
    rw [e]
    exact h
  · rename_i hn
    have hk : k ∉ cs.map (·.1) := fun z => by
      obtain ⟨q, hq, e⟩ := List.mem_map.mp z
      exact hn (List.any_eq_true.mpr ⟨q, hq, decide_eq_true e⟩)
    refine ⟨?_, by rw [List.length_append]; exact Nat.le_refl _⟩
    rw [List.map_append]
    exact List.nodup_append.mpr ⟨h, by simp, fun a ha b hb => by simp at hb; subst hb; exact fun e => hk (e ▸ ha)⟩
theorem level_app {k v p : Int} : ∀ {cs : List (Int × Int)}, k ∉ cs.map (·.1) → levelAt (cs ++ [(k, v)]) p = if p = k then v else levelAt cs p
  | [], _ => by
    show levelAt [(k, v)] p = _
    rw [levelAt_cons]
    by_cases h : p = k
    · rw [if_pos h, if_pos h.symm]
    · rw [if_neg h, if_neg fun z => h z.symm]
  | q :: cs, h => by
    show levelAt (q :: (cs ++ [(k, v)])) p = _
    rw [levelAt_cons, levelAt_cons, level_app fun z => h (by rw [List.map_cons]; exact List.mem_cons_of_mem _ z)]
    by_cases e : q.1 = p
    · rw [if_pos e, if_neg fun z => h (by rw [List.map_cons, ← z, e]; exact List.mem_cons_self ..), if_pos e]
    · rw [if_neg e, if_neg e]
theorem level_set {k v p : Int} : ∀ {cs : List (Int × Int)}, k ∈ cs.map (·.1) → levelAt (cs.map fun q => if q.1 = k then (q.1, v) else q) p = if p = k then v else levelAt cs p
  | q :: cs, h => by
    rw [List.map_cons, levelAt_cons, levelAt_cons]
    by_cases e : q.1 = k
    · rw [if_pos e]
      show (if q.1 = p then v else _) = _
      by_cases e2 : q.1 = p
      · rw [if_pos e2, if_pos (by rw [← e2, e])]
      · have np : p ≠ k := fun z => e2 (by rw [e, z])
        rw [if_neg e2, if_neg np, if_neg e2]
        by_cases hk : k ∈ cs.map (·.1)
        · rw [level_set hk, if_neg np]
        · have same : ∀ {ds : List (Int × Int)}, k ∉ ds.map (·.1) → (ds.map fun q => if q.1 = k then (q.1, v) else q) = ds := fun {ds} hd => by
            rw [List.map_congr_left (g := id) fun q hq => by
              rw [if_neg fun z => hd (List.mem_map.mpr ⟨q, hq, z⟩)]
              rfl, List.map_id]
          rw [same hk]
    · have hk : k ∈ cs.map (·.1) := by
        rcases List.mem_cons.mp (by rw [List.map_cons] at h; exact h) with z | z
        · exact absurd z.symm e
        · exact z
      rw [if_neg e]
      by_cases e2 : q.1 = p
      · rw [if_pos e2, if_neg (fun z => e (by rw [e2, z])), if_pos e2]
      · rw [if_neg e2, if_neg e2, level_set hk]
theorem level_put {cs : List (Int × Int)} (k v p : Int) : levelAt (putI cs k v) p = if p = k then v else levelAt cs p := by
  unfold putI
  split
  · rename_i h
    obtain ⟨q, hq, e⟩ := List.any_eq_true.mp h
    exact level_set (List.mem_map.mpr ⟨q, hq, of_decide_eq_true e⟩)
  · rename_i h
    exact level_app fun z => by
      obtain ⟨q, hq, e⟩ := List.mem_map.mp z
      exact h (List.any_eq_true.mpr ⟨q, hq, decide_eq_true e⟩)
theorem val_enc (p : Int) : ∀ ls : List (Int × Int), (valV (enc ls) (Sum.inl p)).getD (.int 0) = .int (levelAt ls p)
  | [] => rfl
  | q :: ls => by
    rw [levelAt_cons]
    by_cases h : q.1 = p
    · rw [if_pos h, show valV (enc (q :: ls)) (Sum.inl p) = some (V.int q.2) from valV_pos (p := (Sum.inl q.1, V.int q.2)) (by show (Sum.inl q.1 : Key) = Sum.inl p; rw [h])]
      rfl
    · rw [if_neg h, show valV (enc (q :: ls)) (Sum.inl p) = valV (enc ls) (Sum.inl p) from valV_neg (p := (Sum.inl q.1, V.int q.2)) (fun z => h (Sum.inl.inj z)), val_enc p ls]
theorem val_some {p : Int} {ls : List (Int × Int)} (h : p ∈ ls.map (·.1)) : valV (enc ls) (Sum.inl p) = some (.int (levelAt ls p)) := by
  obtain ⟨v, e, _⟩ := enc_get h
  have z := val_enc p ls
  rw [e] at z
  rw [e]
  exact congrArg some z
theorem enc_keys (ls : List (Int × Int)) : (enc ls).map (·.1) = (ls.map (·.1)).map Sum.inl := by
  unfold enc
  rw [List.map_map, List.map_map]
  rfl
theorem merge_enc : ∀ {ls acc : List (Int × Int)}, ((acc ++ ls).map (·.1)).Nodup → mergeK (enc acc) (enc ls) = enc (acc ++ ls)
  | [], acc, _ => by rw [List.append_nil]; rfl
  | q :: ls, acc, h => by
    show mergeK (putK (enc acc) (Sum.inl q.1) (V.int q.2)) (enc ls) = _
    have hk : q.1 ∉ acc.map (·.1) := fun z => by
      rw [List.map_append, List.nodup_append] at h
      exact h.2.2 _ z _ (by rw [List.map_cons]; exact List.mem_cons_self ..) rfl
    have e : putI acc q.1 q.2 = acc ++ [q] := by
      unfold putI
      rw [if_neg (fun z => by
        obtain ⟨r, hr, e⟩ := List.any_eq_true.mp z
        exact hk (List.mem_map.mpr ⟨r, hr, of_decide_eq_true e⟩))]
    rw [enc_put, e, merge_enc (by rw [List.append_assoc]; exact h), List.append_assoc]
    rfl
theorem pairs_keys {K : PySem.W.Frag} {H : Hp} : ∀ {as : List Addr} {ls : List (Int × Int)}, Paired (fun a (q : Int × Int) => H a = some (.tup [.int q.1, .int q.2])) as ls → Paired (fun p (kv : Key × V) => SqT K H p [kV kv.1, kv.2]) as (enc ls)
  | _, _, .nil => .nil
  | _, _, .cons h t => .cons (SqT.of h) (pairs_keys t)
/-- at r: a picture, how far it is moved, how often it counts -/
def PartAt (K : PySem.W.Frag) (H : Hp) (r : Addr) (x : Part) : Prop := ∃ t, H r = some (.tup [.ref t, .int x.mv, .int x.tm]) ∧ PicAt K H t x.ls
theorem PartAt.same {K : PySem.W.Frag} {H H' : Hp} {r : Addr} {x : Part} (h : PartAt K H r x) (s : Same H H') : PartAt K H' r x := by
  obtain ⟨t, h1, h2⟩ := h
  exact ⟨t, s _ _ h1, h2.same s⟩
def spTotal (K : PySem.W.Frag) : Sp := fun vs H Q _ => ∃ (lv : Int) (pt : Addr) (rs : List Addr) (xs : List Part), vs = [.int lv, .ref pt] ∧ H pt = some (.tup (rs.map V.ref)) ∧ Paired (PartAt K H) rs xs ∧ 0 < lv ∧
  (∀ x ∈ xs, ∀ q ∈ x.ls, -100 ≤ q.2 ∧ q.2 ≤ 100) ∧ partsLen xs < 8000 ∧ ∀ (t : Addr) (ms : List (Int × Int)) H', Same H H' → PicB K H' t ms → Rising lv ms → (∀ p, sumAt ms p = partsAt xs p % lv) → ms.length ≤ partsLen xs → Q (.ref t) H'
theorem same_at {H H' : Hp} {c : Addr} {o : HO} (s : Same H H') (hc : H c = none) : Same H (upd H' c o) := fun b u e => by
  rw [upd_ne (ne_of_none e hc)]
  exact s b u e
section
variable {P : Program} {w : World} {K : PySem.W.Frag} {mg : Str → Option Value} {base : Heap} {C : Addr}
theorem scTotal : FnScope ["levels", "parts", "sums", "lamps", "by", "times", "place", "level"] ["levels", "parts"] (defScope sTotal) := ⟨rfl, rfl, rfl, by decide +kernel, rfl, by decide +kernel, by decide +kernel⟩
theorem ok_total {f : Addr} {fd : FuncData} (F : Fun K "total" "total" sTotal f fd) (mt : mg "tuple" = none) (ms : mg "sorted" = none) : FnOk P w K mg base CX0 1 f fd ["levels", "parts"] (spTotal K) := by
  refine F.ok scTotal (fun vs H Q E h => ?_) (fun cdv A outer s H vs Q E hr h => ?_)
  · obtain ⟨lv, pt, rs, xs, rfl, _⟩ := h
    rfl
  · obtain ⟨lv, pt, rs, xs, rfl, hpt, hpa, h0, hlev, h64, q⟩ := h
    have hu := hu_of hr
    have hlen := Paired.length hpa
    refine ⟨_, pss_cons (ps_set (i := 2) scTotal.nd rfl (.inr rfl) pe_dnewK)
      (pss_cons (ps_for PassesOwn.never rfl (pi_tup (pv 1)) (pg_tup rfl (pgs_cons (pg_name (i := 3) scTotal.nd rfl (.inl rfl)) (pgs_cons (pg_name (i := 4) scTotal.nd rfl (.inl rfl)) (pgs_cons (pg_name (i := 5) scTotal.nd rfl (.inl rfl)) pgs_nil))))
        (pss_one (ps_for PassesOwn.never rfl (pi_tup (pv 3)) (pg_tup rfl (pgs_cons (pg_name (i := 6) scTotal.nd rfl (.inl rfl)) (pgs_cons (pg_name (i := 7) scTotal.nd rfl (.inl rfl)) pgs_nil)))
          (pss_one (ps_dput hu (pv 2) (pe_op op_add (pv 6) (pv 4)) (pe_op op_add (pe_dget2 hu (pv 2) (pe_op op_add (pv 6) (pv 4)) pe_int ⟨rfl, rfl, rfl, rfl⟩) (pe_op op_mul (pv 5) (pv 7))) rfl)))))
      (pss_one (ps_ret (pe_callTy call_tupB (by rfl) mt (by decide +kernel) (pa_cons (pe_lc (own := [("place", 6)]) (g := gName 6) rfl scTotal.nd
          (pi_list (pe_callB (call_sortedDW rfl) (by rfl) ms (by decide +kernel) (pa_cons (pv 2) pa_nil)))
          (blkOk_by (own := [("place", 6)]) (N := ["levels", "parts", "sums", "lamps", "by", "times", "place", "level"]) (sc := defScope sTotal) (by decide +kernel)) (fun _ _ _ _ _ => pg_name (i := 6) scTotal.nd rfl (Or.inl rfl))
          (fun _ _ _ _ _ => pts_one (pt_cmpR op_ne (pe_op op_mod (pe_dget hu (pv 2) (pv 6) (fun _ _ => rfl)) (pv 0)) pe_int (nomark _)))
          (fun _ _ _ _ _ => pe_tup (pa_cons (pv 6) (pa_cons (pe_op op_mod (pe_dget hu (pv 2) (pv 6) (fun _ _ => rfl)) (pv 0)) pa_nil)))) pa_nil))))), ?_⟩
    refine sq_setR (fun v H' => ∃ c, v = .ref c ∧ H c = none ∧ H' = upd H c (.dK [])) (fun Q' q' c hc => q' _ _ ⟨c, rfl, hc, rfl⟩) ?_
    rintro v H0 ⟨c, rfl, hc, rfl⟩
    refine ⟨_, rfl, pt, rfl, ⟨_, SqT.of (same_of hc _ _ hpt)⟩, for_tup (xs := rs.map V.ref) (fun i σ' H' => Same H H' ∧ ∃ x3 x4 x5 x6 x7 cs, σ' = [some (.int lv), some (.ref pt), some (.ref c), x3, x4, x5, x6, x7] ∧ H' c = some (.dK (enc cs)) ∧ (cs.map (·.1)).Nodup ∧ (∀ p, levelAt cs p = partsAt (xs.take i) p) ∧ cs.length ≤ partsLen (xs.take i))
      ⟨same_of hc, _, _, _, _, _, [], rfl, upd_same, .nil, fun p => rfl, Nat.le_refl _⟩ (fun i σ' H' _ z => SqT.of (z.1 _ _ hpt)) (fun i v σ' H' hv z => ?_) (fun σ' H' z => ?_)⟩
    · obtain ⟨s1, x3, x4, x5, x6, x7, cs, rfl, hcs, nd, hF, hl⟩ := z
      rw [List.getElem?_map] at hv
      cases er : rs[i]? with
      | none => rw [er] at hv; cases hv
      | some r =>
        rw [er] at hv
        have ex : v = V.ref r := (Option.some.inj hv).symm
        subst ex
        obtain ⟨x, hx, t, hrt, hpic⟩ := paired_get hpa er
        obtain ⟨as, ht, hal, hat⟩ := pair_get hpic
        have hlx := partsLen_take hx
        have hxm := List.mem_of_getElem? hx
        refine ⟨r, _, rfl, SqT.of (s1 _ _ hrt), rfl, _, _, rfl, _, _, rfl, _, _, rfl, rfl, ?_⟩
        refine ⟨_, rfl, t, rfl, ⟨_, .inl (rd_same ht s1)⟩, for_tup (xs := as.map V.ref) (fun j σ' H' => Same H H' ∧ ∃ x6 x7 cs, σ' = [some (.int lv), some (.ref pt), some (.ref c), some (.ref t), some (.int x.mv), some (.int x.tm), x6, x7] ∧ H' c = some (.dK (enc cs)) ∧ (cs.map (·.1)).Nodup ∧ (∀ p, levelAt cs p = partsAt (xs.take i) p + x.tm * sumAt (x.ls.take j) (p - x.mv)) ∧ cs.length ≤ partsLen (xs.take i) + j)
          ⟨s1, _, _, cs, rfl, hcs, nd, fun p => by rw [List.take_zero, sumAt_nil, Int.mul_zero, Int.add_zero]; exact hF p, hl⟩ (fun j σ' H' _ z => .inl (rd_same ht z.1)) (fun j v σ' H' hv z => ?_) (fun σ' H' z => ?_)⟩
        · obtain ⟨s2, y6, y7, ds, rfl, hds, nd2, hG, hl2⟩ := z
          rw [List.getElem?_map] at hv
          cases ea : as[j]? with
          | none => rw [ea] at hv; cases hv
          | some a =>
            rw [ea] at hv
            have ex : v = V.ref a := (Option.some.inj hv).symm
            subst ex
            have lj : j < x.ls.length := by rw [← hal]; exact (List.getElem?_eq_some_iff.mp ea).1
            have eq := List.getElem?_eq_getElem lj
            have ha := s2 _ _ (hat j a _ ea eq)
            have lev := hlev x hxm _ (List.getElem_mem lj)
            refine ⟨a, _, rfl, SqT.of ha, rfl, _, _, rfl, _, _, rfl, rfl, ?_⟩
            refine ⟨_, rfl, c, rfl, .inl ⟨_, .inl hds⟩, _, rfl, _, rfl, _, _, rfl, rfl, _, DGet.k (k := Sum.inl (x.ls[j].1 + x.mv)) hds, ?_⟩
            rw [val_enc]
            refine ⟨_, rfl, _, rfl, _, _, rfl, rfl, mulR (by omega), _, _, rfl, rfl, ?_⟩
            refine ⟨_, rfl, _, rfl, _, rfl, _, _, rfl, rfl, c, _, rfl, DPut.k (k := Sum.inl (x.ls[j].1 + x.mv)) hds ?_, ?_⟩
            · unfold enc
              rw [List.length_map]
              rw [sizeLine_eq]; omega
            · obtain ⟨n1, n2⟩ := nodup_put nd2 (x.ls[j].1 + x.mv) (levelAt ds (x.ls[j].1 + x.mv) + x.tm * x.ls[j].2)
              refine ⟨same_at s2 hc, _, _, putI ds (x.ls[j].1 + x.mv) (levelAt ds (x.ls[j].1 + x.mv) + x.tm * x.ls[j].2), rfl, by rw [upd_same, enc_put], n1, fun p => ?_, by omega⟩
              rw [level_put, List.take_add_one, eq, sumAt_app]
              show _ = _ + x.tm * (_ + sumAt [x.ls[j]] (p - x.mv))
              rw [sumAt_cons, sumAt_nil, Int.add_zero]
              by_cases hp : p = x.ls[j].1 + x.mv
              · rw [if_pos hp, if_pos (by omega), hG, hp, Int.mul_add, Int.add_assoc]
              · rw [if_neg hp, if_neg (by omega), Int.add_zero]
                exact hG p
        · obtain ⟨s2, y6, y7, ds, rfl, hds, nd2, hG, hl2⟩ := z
          rw [List.length_map, hal] at hl2
          refine ⟨s2, _, _, _, _, _, ds, rfl, hds, nd2, fun p => ?_, ?_⟩
          · have z := hG p
            rw [List.length_map, hal, List.take_length] at z
            rw [z, List.take_add_one, hx, partsAt_app]
            show _ = _ + partsAt [x] p
            rw [partsAt_one]
            rfl
          · have e : partsLen (xs.take (i + 1)) = partsLen (xs.take i) + x.ls.length := by
              unfold partsLen
              rw [List.take_add_one, hx, List.map_append, List.sum_append]
              show _ + ([x].map fun x => x.ls.length).sum = _
              rw [List.map_cons, List.map_nil, List.sum_cons, List.sum_nil, Nat.add_zero]
            omega
    · obtain ⟨s1, x3, x4, x5, x6, x7, cs, rfl, hcs, nd, hF, hl⟩ := z
      rw [List.length_map, hlen, List.take_length] at hF hl
      refine ⟨_, rfl, c, enc cs, cs.map (·.1), rfl, .inl hcs, enc_keys cs, fun ns' sr perm asc nsr => ⟨sr, rfl, ⟨_, SqL.of upd_same⟩, fun D hD => ?_⟩⟩
      have s2 := same_of (o := .lst (ns'.map V.int)) nsr
      have ndn : ns'.Nodup := perm.nodup_iff.mpr nd
      have memo : ∀ n, n ∈ ns' ↔ n ∈ cs.map (·.1) := fun n => perm.mem_iff
      have hlen2 : ns'.length ≤ partsLen xs := by rw [perm.length_eq, List.length_map]; exact hl
      refine lc_genL (us := ns') (enc := V.int) (out := fun n => if levelAt cs n % lv = 0 then none else some (n, levelAt cs n % lv)) (Rel := IsP) isp_st hD (SqL.of upd_same) (by omega) ?_ ?_
      · intro i n H2 hn s3 R' Z' hR hZ
        have hc2 := s3 _ _ (s2 _ _ hcs)
        have hv := val_some ((memo n).mp (List.mem_of_getElem? hn))
        have get : DGet H2 c (.int n) (some (.int (levelAt cs n))) := .inl ⟨enc cs, Sum.inl n, .inl hc2, rfl, hv.symm⟩
        refine ⟨rfl, ?_⟩
        refine ⟨_, rfl, _, rfl, c, _, rfl, get, _, rfl, _, _, rfl, rfl, h0, rfl, decide (levelAt cs n % lv ≠ 0), ?_, ?_⟩
        · show V.bl (!decide (V.int (levelAt cs n % lv) = V.int 0)) = _
          by_cases z : levelAt cs n % lv = 0
          · rw [decide_eq_true (by rw [z]), decide_eq_false (by simpa using z)]
            rfl
          · rw [decide_eq_false (fun e => z (V.int.inj e)), decide_eq_true (by simpa using z)]
            rfl
        · by_cases z : levelAt cs n % lv = 0
          · rw [decide_eq_false (by simpa using z)]
            exact iteF (hZ _ (if_pos z) (Same.refl _))
          · rw [decide_eq_true (by simpa using z)]
            refine iteT ?_
            refine ⟨_, rfl, _, rfl, _, rfl, c, _, rfl, get, _, rfl, _, _, rfl, rfl, h0, (by show 2 ≤ sizeLine; decide), fun tp ntp => ?_⟩
            exact hR _ _ _ (if_neg z) (same_of ntp) ⟨tp, rfl, upd_same⟩
      · intro H2 ys s3 hD' hp'
        obtain ⟨bs, ey, hb⟩ := isp_all hp'
        subst ey
        refine ⟨D, _, rfl, SqL.of hD', fun t' o nt ho => ?_⟩
        have s4 := same_of (o := .frz o (.tup (bs.map V.ref))) nt
        have hb2 : Paired (fun a (q : Int × Int) => H2 a = some (.tup [.int q.1, .int q.2])) bs (tidy lv (levelAt cs) ns') := hb
        refine q t' (tidy lv (levelAt cs) ns') _ (s1.trans (s2.trans (s3.trans s4))) ⟨bs, ⟨o, upd_same, ho⟩, L2.Paired.mapP hb2 fun a r z => s4 _ _ z⟩ (tidy_asc h0 (lt_of_le_nodup asc ndn)) (fun p => ?_) (Nat.le_trans (tidy_len ns') hlen2)
        rw [tidy_at p ndn, hF]
        by_cases hp : p ∈ ns'
        · rw [if_pos hp]
        · rw [if_neg hp]
          have z := hF p
          rw [level_out (fun k => hp ((memo p).mpr k))] at z
          rw [← z]
          exact (Int.zero_emod lv).symm
end
end Lamp
set_option Elab.async false
set_option linter.all false
set_option maxRecDepth 100000
set_option maxHeartbeats 1000000
namespace Lamp
open PySem PySem.Spec PyProof.Rows L2
abbrev sCkMany : Stmt := top 31
abbrev sRol : Stmt := top 32
def spCkMany : Sp := fun vs H Q _ => ∃ i : Int, vs = [.int i] ∧ i ≤ 400 ∧ Q .non H
def spRol (K : PySem.W.Frag) (C : Addr) : Sp := fun vs H Q _ => ∃ (t : Addr) (lv fin : Int) (ls : List (Int × Int)), vs = [.int lv, .ref t, .int fin] ∧ goodLv lv ∧ PicAt K H t ls ∧ IsPicW lv ls ∧ ∀ a H', Same H H' → H a = none → RoundAt C H' a lv t fin → Q (.ref a) H'
/-- at a: a round of such a picture -/
structure RndW (K : PySem.W.Frag) (C : Addr) (H : Hp) (a : Addr) (lv fin : Int) (ls : List (Int × Int)) : Prop where
  ex : ∃ t, RoundAt C H a lv t fin ∧ PicAt K H t ls
  good : goodLv lv
  pic : IsPicW lv ls
theorem RndW.same {K : PySem.W.Frag} {C : Addr} {H H' : Hp} {a : Addr} {lv fin : Int} {ls : List (Int × Int)} (h : RndW K C H a lv fin ls) (s : Same H H') : RndW K C H' a lv fin ls := by
  obtain ⟨⟨t, h1, h2⟩, h3, h4⟩ := h
  exact ⟨⟨t, h1.same s, h2.same s⟩, h3, h4⟩
structure RndB (K : PySem.W.Frag) (C : Addr) (H : Hp) (a : Addr) (lv fin : Int) (ls : List (Int × Int)) : Prop where
  ex : ∃ t, RoundAt C H a lv t fin ∧ PicB K H t ls
  good : goodLv lv
  pic : IsPicW lv ls
theorem RndB.w {K : PySem.W.Frag} {C : Addr} {H : Hp} {a : Addr} {lv fin : Int} {ls : List (Int × Int)} (h : RndB K C H a lv fin ls) : RndW K C H a lv fin ls := by
  obtain ⟨⟨t, h1, h2⟩, h3, h4⟩ := h
  exact ⟨⟨t, h1, h2.at⟩, h3, h4⟩
theorem RndB.same {K : PySem.W.Frag} {C : Addr} {H H' : Hp} {a : Addr} {lv fin : Int} {ls : List (Int × Int)} (h : RndB K C H a lv fin ls) (s : Same H H') : RndB K C H' a lv fin ls := by
  obtain ⟨⟨t, h1, h2⟩, h3, h4⟩ := h
  exact ⟨⟨t, h1.same s, h2.same s⟩, h3, h4⟩
theorem Rising.w {lv : Int} {ls : List (Int × Int)} (h : Rising lv ls) (few : ls.length ≤ 400) : IsPicW lv ls := ⟨h.asc, h.lv, few⟩
theorem IsPicW.rise {lv : Int} {ls : List (Int × Int)} (h : IsPicW lv ls) : Rising lv ls := ⟨h.asc, h.lv⟩
theorem good_pos {lv : Int} (h : goodLv lv) : 0 < lv ∧ lv ≤ 7 := by
  rcases h with h | h | h | h <;> omega
theorem lev_small {lv : Int} {ls : List (Int × Int)} (h : goodLv lv) (p : IsPicW lv ls) : ∀ q ∈ ls, -100 ≤ q.2 ∧ q.2 ≤ 100 := fun q hq => by
  have := p.lv q hq
  have := good_pos h
  omega
section
variable {P : Program} {w : World} {K : PySem.W.Frag} {mg : Str → Option Value} {base : Heap} {C : Addr}
theorem scCkMany : FnScope ["many"] ["many"] (defScope sCkMany) := ⟨rfl, rfl, rfl, by decide +kernel, rfl, by decide +kernel, by decide +kernel⟩
theorem scRol : FnScope ["levels", "lamps", "end"] ["levels", "lamps", "end"] (defScope sRol) := ⟨rfl, rfl, rfl, by decide +kernel, rfl, by decide +kernel, by decide +kernel⟩
theorem ok_ckMany {f : Addr} {fd : FuncData} {t1 : Tok} (F : Fun K "check_many" "check_many" sCkMany f fd) (mML : mg "MOST_LAMPS" = some (.int 400 t1)) : FnOk P w K mg base CX0 1 f fd ["many"] spCkMany := by
  refine F.ok scCkMany (fun vs H Q E h => ?_) (fun cdv A outer s H vs Q E hr h => ?_)
  · obtain ⟨i, rfl, _⟩ := h
    rfl
  · obtain ⟨i, rfl, hi, q⟩ := h
    refine ⟨_, pss_one (ps_if (pt_cmpR op_gt (pv 0) (pe_glob (v := .int 400) rfl mML ⟨_, rfl⟩) (nomark _)) pss_never pss_nil), ?_⟩
    exact st_no (an_gt (val_var rfl) val_c (decide_eq_false (by omega))) q
theorem ok_rol {f : Addr} {fd : FuncData} (F : Fun K "round_of_lamps" "round_of_lamps" sRol f fd) (Cm : Dr P w K mg base spCkMany "check_many" ["many"] 1) (M : MkR P w K mg base C) (mR : mg "Round" = some (.ref C)) (ml : mg "len" = none) : FnOk P w K mg base CX0 6 f fd ["levels", "lamps", "end"] (spRol K C) := by
  refine F.ok scRol (fun vs H Q E h => ?_) (fun cdv A outer s H vs Q E hr h => ?_)
  · obtain ⟨t, lv, fin, ls, rfl, _⟩ := h
    rfl
  · obtain ⟨t, lv, fin, ls, rfl, hg, hp, hi, q⟩ := h
    refine ⟨_, pss_cons (ps_expr (pe_dr Cm (by decide) hr rfl (pa_cons (pe_callB call_len_seq (by rfl) ml PySem.boot_len (pa_cons (pv 1) pa_nil)) pa_nil)))
      (pss_one (ps_ret (pe_mkR M hr rfl mR (pa_cons (pv 0) (pa_cons (pv 1) (pa_cons (pv 2) pa_nil)))))), ?_⟩
    obtain ⟨as, ht, hlen, _⟩ := pair_get hp
    have few := hi.few
    refine ⟨_, rfl, t, _, rfl, .inr (.inl ht), _, rfl, ?_, ?_⟩
    · rw [List.length_map, hlen]; omega
    · exact ⟨_, rfl, _, rfl, _, rfl, lv, t, fin, rfl, ls, hg, hp, hi, q⟩
end
end Lamp
set_option Elab.async false
set_option linter.all false
set_option maxRecDepth 100000
set_option maxHeartbeats 1000000
namespace Lamp
/-! sums modulo the levels -/
def Cg (lv a b : Int) : Prop := a % lv = b % lv
section
variable {lv a b c d : Int}
theorem Cg.rfl' : Cg lv a a := rfl
theorem Cg.of (h : a = b) : Cg lv a b := by rw [h]; exact rfl
theorem Cg.symm (h : Cg lv a b) : Cg lv b a := Eq.symm h
theorem Cg.trans (h : Cg lv a b) (k : Cg lv b c) : Cg lv a c := Eq.trans h k
theorem Cg.add (h : Cg lv a b) (k : Cg lv c d) : Cg lv (a + c) (b + d) := by
  unfold Cg at *
  rw [Int.add_emod, h, k, ← Int.add_emod]
theorem Cg.mul (h : Cg lv a b) (n : Int) : Cg lv (n * a) (n * b) := by
  unfold Cg at *
  rw [Int.mul_emod, h, ← Int.mul_emod]
theorem Cg.neg (h : Cg lv a b) : Cg lv (-a) (-b) := by
  have z := h.mul (-1)
  rw [Int.neg_mul, Int.neg_mul, Int.one_mul, Int.one_mul] at z
  exact z
theorem Cg.mod : Cg lv (a % lv) a := Int.emod_emod_of_dvd a (Int.dvd_refl lv)
theorem Cg.md (h : a = b % lv) : Cg lv a b := by rw [h]; exact Cg.mod
end
theorem then_sum {ls ls' : List (Int × Int)} {fin p : Int} : partsAt [⟨ls, 0, 1⟩, ⟨ls', fin, 1⟩] p = sumAt ls p + sumAt ls' (p - fin) := by
  unfold partsAt partAt
  rw [List.map_cons, List.map_cons, List.map_nil, List.sum_cons, List.sum_cons, List.sum_nil, Int.one_mul, Int.one_mul, Int.add_zero, Int.sub_zero]
theorem undo_sum {ls : List (Int × Int)} {fin p : Int} : partsAt [⟨ls, -fin, -1⟩] p = -(sumAt ls (p + fin)) := by
  unfold partsAt partAt
  rw [List.map_cons, List.map_nil, List.sum_cons, List.sum_nil, Int.add_zero, Int.neg_mul, Int.one_mul, Int.sub_neg]
/-- pictures whose levels are the same modulo the levels are the same -/
theorem Rising.same {lv : Int} {ls ms : List (Int × Int)} (h1 : Rising lv ls) (h2 : Rising lv ms) (h0 : 0 < lv) (h : ∀ p, Cg lv (sumAt ls p) (sumAt ms p)) : ls = ms := h1.ext h2 fun p => by
  have a := h1.range h0 p
  have b := h2.range h0 p
  have z := h p
  unfold Cg at z
  rw [Int.emod_eq_of_lt a.1 a.2, Int.emod_eq_of_lt b.1 b.2] at z
  exact z
theorem undo_level {lv fin p : Int} : ∀ {ls : List (Int × Int)}, (∀ q ∈ ls, 1 ≤ q.2 ∧ q.2 < lv) → levelAt (undo lv fin ls) p = if levelAt ls (p + fin) = 0 then 0 else lv - levelAt ls (p + fin)
  | [], _ => rfl
  | q :: ls, h => by
    have h1 := h q (List.mem_cons_self ..)
    show levelAt ((q.1 - fin, lv - q.2) :: undo lv fin ls) p = _
    rw [levelAt_cons, levelAt_cons]
    by_cases e : q.1 = p + fin
    · rw [if_pos e, if_pos (show q.1 - fin = p by omega), if_neg (by omega)]
    · rw [if_neg e, if_neg (show ¬ q.1 - fin = p by omega), undo_level fun r hr => h r (List.mem_cons_of_mem _ hr)]
theorem undo_rise {lv fin : Int} {ls : List (Int × Int)} (h : Rising lv ls) : Rising lv (undo lv fin ls) := by
  refine ⟨?_, fun q hq => ?_⟩
  · have a := h.asc
    unfold undo
    rw [List.map_map]
    rw [List.pairwise_map] at a ⊢
    exact a.imp fun z => by show _ - fin < _ - fin; omega
  · obtain ⟨r, hr, rfl⟩ := List.mem_map.mp hq
    have z := h.lv r hr
    exact ⟨by show 1 ≤ lv - r.2; omega, by show lv - r.2 < lv; omega⟩
theorem undo_cg {lv fin p : Int} {ls : List (Int × Int)} (h : Rising lv ls) : Cg lv (sumAt (undo lv fin ls) p) (-(sumAt ls (p + fin))) := by
  rw [sum_levelAt (undo_rise h).nd, sum_levelAt h.nd, undo_level h.lv]
  by_cases z : levelAt ls (p + fin) = 0
  · rw [if_pos z, z]
    exact rfl
  · rw [if_neg z]
    unfold Cg
    rw [show lv - levelAt ls (p + fin) = -levelAt ls (p + fin) + lv * 1 by omega, Int.add_mul_emod_self_left]
theorem sum_take {ls : List (Int × Int)} {j : Nat} (h : j < ls.length) (p : Int) : sumAt (ls.take (j + 1)) p = sumAt (ls.take j) p + (if ls[j].1 = p then ls[j].2 else 0) := by
  rw [List.take_add_one, List.getElem?_eq_getElem h, sumAt_app]
  show _ + sumAt [ls[j]] p = _
  rw [sumAt_cons, sumAt_nil, Int.add_zero]
end Lamp
set_option Elab.async false
set_option linter.all false
set_option maxRecDepth 100000
set_option maxHeartbeats 1000000
namespace Lamp
open PySem PySem.Spec PyProof.Rows L2
/-- at l: a list of levels, picture and end -/
structure PartsB (K : PySem.W.Frag) (H : Hp) (l : Addr) (lv fin : Int) (ls : List (Int × Int)) : Prop where
  ex : ∃ t, H l = some (.lst [.int lv, .ref t, .int fin]) ∧ PicB K H t ls
  rise : Rising lv ls
theorem PartsB.same {K : PySem.W.Frag} {H H' : Hp} {l : Addr} {lv fin : Int} {ls : List (Int × Int)} (h : PartsB K H l lv fin ls) (s : Same H H') : PartsB K H' l lv fin ls := by
  obtain ⟨⟨t, h1, h2⟩, h3⟩ := h
  exact ⟨⟨t, s _ _ h1, h2.same s⟩, h3⟩
theorem PartsB.data {K : PySem.W.Frag} {H : Hp} {l : Addr} {lv fin : Int} {ls : List (Int × Int)} (h : PartsB K H l lv fin ls) : Dp K H (.ref l) (partsD lv ls fin) := by
  obtain ⟨⟨t, h1, h2⟩, _⟩ := h
  exact .lst (SqL.of h1) (.cons (.int _) (.cons (dp_pic h2.at) (.cons (.int _) .nil)))
theorem PartsAt.b {K : PySem.W.Frag} {H : Hp} {l t : Addr} {r : Parts} (h : PartsAt K H l t r) (p : IsPic r.lv r.ls) : PartsB K H l r.lv r.fin r.ls := ⟨⟨t, h.1, h.2⟩, ⟨p.asc, p.lv⟩⟩
section
variable {P : Program} {w : World} {K : PySem.W.Frag} {mg : Str → Option Value} {base : Heap} {C : Addr}
end
end Lamp
set_option Elab.async false
set_option linter.all false
set_option maxRecDepth 100000
set_option maxHeartbeats 1000000
namespace Lamp
open PySem PySem.Spec PyProof.Rows L2
/-! a tuple that is written out has no dict of its own -/
def tTupB (t : TA) : TE := fun σ H Q => t σ H fun xs H1 => xs.length ≤ sizeLine ∧ ∀ (p : Addr) (o : Obj), H1 p = none → o.dict = none → Q (.ref p) (upd H1 p (.frz o (.tup xs)))
section
variable {X : Cx} {es : List Expr} {t : TA} {pos : Pos}
theorem pe_tupB {x1} (h : PA X es t) : PE X (.Tuple es x1 pos) (tTupB t) := by
  refine ⟨fun pins s σ H Q I hq => ?_⟩
  refine wpAny_Tuple_spliced (thn (h.run pos pins s σ H _ I hq) fun us s1 ⟨xs, H1, I1, r, z, q⟩ => ⟨by rw [← r.length]; exact z, ?_⟩)
  have hf : H1 s1.heap.objs.size = none := I1.hok.fresh (Nat.le_refl _)
  obtain ⟨o, eo⟩ : ∃ o : Obj, o = { cls := .type "tuple", data := .seq us.toArray } := ⟨_, rfl⟩
  refine ⟨.ref s1.heap.objs.size, upd H1 s1.heap.objs.size (.frz o (.tup xs)), I1.laid (t' := s1.toks) (fun b u e => Heap.get?_push_of_some _ e) (Nat.le_refl _) (show ObjOk X.prog X.w _ _ _ (.frz o (.tup xs)) from ⟨by rw [eo]; exact Heap.get?_push_size _ rfl, z, us, r, ⟨_, Heap.get?_push_size _ rfl, rfl, _, rfl⟩⟩), rfl, q _ o hf (by rw [eo])⟩
end
end Lamp
set_option Elab.async false
set_option linter.all false
set_option maxRecDepth 100000
set_option maxHeartbeats 1000000
namespace Lamp
open PySem PySem.Spec PyProof.Rows L2
/-! (dict of ints, int) == (dict of ints, int) -/
def Ints (ks : List (Key × V)) : Prop := ∀ p ∈ ks, ∃ i : Int, p.2 = .int i
def sameD (ks ls : List (Key × V)) : Bool := (ks.length == ls.length) && ks.all fun p => (valV ls p.1).isSome && decide (valV ls p.1 = valV ks p.1)
theorem valV_in {ks : List (Key × V)} {k : Key} {x : V} (h : valV ks k = some x) : (k, x) ∈ ks := by
  induction ks with
  | nil => cases h
  | cons p r ih =>
    by_cases e : p.1 = k
    · rw [valV_pos e] at h
      have e2 : p = (k, x) := by
        obtain ⟨a, b⟩ := p
        show (a, b) = (k, x)
        rw [show a = k from e, show b = x from Option.some.inj h]
      rw [← e2]
      exact List.mem_cons_self ..
    · rw [valV_neg e] at h
      exact List.mem_cons_of_mem _ (ih h)
theorem valV_nd : ∀ {ks : List (Key × V)} {k : Key} {x : V}, (ks.map (·.1)).Nodup → (k, x) ∈ ks → valV ks k = some x
  | p :: r, k, x, hn, hm => by
    rw [List.map_cons] at hn
    cases hn with
    | cons h1 h2 =>
      rcases List.mem_cons.mp hm with e | hm
      · subst e
        exact valV_pos rfl
      · have ne : ¬ p.1 = k := h1 k (List.mem_map.mpr ⟨(k, x), hm, rfl⟩)
        rw [valV_neg ne]
        exact valV_nd h2 hm
theorem kv_mem {ks : List (Key × V)} {vs : List (Key × Value)} (r : KV ks vs) {k : Key} {v : Value} (h : (k, v) ∈ vs) : ∃ x, (k, x) ∈ ks ∧ RelV x v := by
  unfold KV at r
  induction r with
  | nil => cases h
  | @cons p q ps qs hh t ih =>
    rcases List.mem_cons.mp h with e | h
    · subst e
      obtain ⟨a, b⟩ := p
      obtain ⟨h1, h2⟩ := hh
      refine ⟨b, ?_, h2⟩
      rw [show k = a from h1.symm]
      exact List.mem_cons_self ..
    · obtain ⟨x, hx, rx⟩ := ih h
      exact ⟨x, List.mem_cons_of_mem _ hx, rx⟩
theorem kv_all {ks ls : List (Key × V)} {vs ws : List (Key × Value)} (r : KV ks vs) (r2 : KV ls ws) (e : Key → Bool) : (vs.all fun p => (valueAt ws p.1).isSome && e p.1) = ks.all fun p => (valV ls p.1).isSome && e p.1 := by
  unfold KV at r
  induction r with
  | nil => rfl
  | @cons p q ps qs hh t ih =>
    rw [List.all_cons, List.all_cons, ih, ← hh.1, (r2.val p.1).isSome_eq]
def rEqDI : R2 := fun x y H Q => ∃ (a b d1 d2 : Addr) (ks ls : List (Key × V)) (i j : Int), x = .ref a ∧ y = .ref b ∧ d1 ≠ d2 ∧ H a = some (.tup [.ref d1, .int i]) ∧ H b = some (.tup [.ref d2, .int j]) ∧ H d1 = some (.dK ks) ∧ H d2 = some (.dK ls) ∧
  Ints ks ∧ Ints ls ∧ (ks.map (·.1)).Nodup ∧ Q (.bl (sameD ks ls && (i == j))) H
section
variable {X : Cx}
theorem op_eqDI (hu : X.A.units + 64 < cLine) : OpR X (compareOp .Eq) rEqDI := by
  intro pins s σ H x y v u Q I rx ry h
  obtain ⟨a, b, d1, d2, ks, ls, i, j, rfl, rfl, hne, ha, hb, hd1, hd2, hi1, hi2, hnd, q⟩ := h
  cases rx
  cases ry
  obtain ⟨its, r1, t1, _⟩ := I.tuple (SqT.of ha)
  obtain ⟨jts, r2, t2, _⟩ := I.tuple (SqT.of hb)
  obtain ⟨u1, u2, rfl, ra1, ra2⟩ := vals2 r1
  obtain ⟨w1, w2, rfl, rb1, rb2⟩ := vals2 r2
  cases (show u1 = Value.ref d1 from ra1)
  cases (show w1 = Value.ref d2 from rb1)
  obtain ⟨k1, rfl⟩ := (show ∃ t, u2 = Value.int i t from ra2)
  obtain ⟨k2, rfl⟩ := (show ∃ t, w2 = Value.int j t from rb2)
  obtain ⟨_, ya, va, rva, da⟩ := dk_of I.hok hd1
  obtain ⟨_, yb, vb, rvb, db⟩ := dk_of I.hok hd2
  have leaf : ∀ k v y, (k, v) ∈ va → valueAt vb k = some y → PySem.W.EqTree X.prog X.w s 0 v y (decide (valV ls k = valV ks k)) := fun k v y hm hy => by
    obtain ⟨x, hx, rx⟩ := kv_mem rva hm
    obtain ⟨z, ez⟩ := hi1 _ hx
    have ez' : x = .int z := ez
    subst ez'
    have e1 : valV ks k = some (.int z) := valV_nd hnd hx
    have ro := rvb.val k
    rw [hy] at ro
    cases e2 : valV ls k with
    | none => rw [e2] at ro; exact (show False from ro).elim
    | some x2 =>
      rw [e2] at ro
      obtain ⟨z2, ez2⟩ := hi2 _ (valV_in e2)
      have ez2' : x2 = .int z2 := ez2
      subst ez2'
      obtain ⟨t1, rfl⟩ := (show ∃ t, v = Value.int z t from rx)
      obtain ⟨t2, rfl⟩ := (show ∃ t, y = Value.int z2 t from ro)
      have eb : decide ((some (V.int z2) : Option V) = valV ks k) = (z == z2) := by
        rw [e1]
        by_cases h : z = z2
        · subst h
          simp
        · have h' : ¬ (some (V.int z2) : Option V) = some (V.int z) := fun e => h (V.int.inj (Option.some.inj e)).symm
          rw [decide_eq_false h']
          simp [h]
      rw [eb]
      exact .leaf fun A _ => SeqAt.EqAt.int_int z t1 z2 t2
  have td : PySem.W.EqTree X.prog X.w s 1 (.ref d1) (.ref d2) _ := .dicts (knd := mixKind X.prog X.w) (e := fun k => decide (valV ls k = valV ks k)) hne ya yb da db leaf
  rw [kv_all rva rvb (fun k => decide (valV ls k = valV ks k)), ← rva.length, ← rvb.length] at td
  have td' : PySem.W.EqTree X.prog X.w s 1 (.ref d1) (.ref d2) (sameD ks ls) := td
  refine PySem.W.eq_tuplesT (n := 1) (e := fun m => if m = 0 then sameD ks ls else (i == j)) t1 t2 (fun m h1 h2 => ?_) (by omega) ?_
  · match m, h1, h2 with
    | 0, _, _ => exact td'
    | 1, _, _ => exact .leaf fun A _ => SeqAt.EqAt.int_int i k1 j k2
    | n + 2, h1, _ => exact absurd h1 (by simp)
  · refine ⟨.bl (sameD ks ls && (i == j)), H, I, ?_, q⟩
    show Value.bool _ = Value.bool _
    congr 1
    simp [List.range_succ]
end
end Lamp
set_option Elab.async false
set_option linter.all false
set_option maxRecDepth 100000
set_option maxHeartbeats 1000000
namespace Lamp
open PySem PySem.Spec PyProof.Rows L2
/-! min(d) of a dict whose keys are ints -/
theorem best_least {ks : List Int} {bt : Nat → Nat → Bool} (hb : ∀ i j, bt i j = decide (ks.getD i 0 < ks.getD j 0)) : ∀ j, argBest bt j ≤ j ∧ ∀ i, i ≤ j → ks.getD (argBest bt j) 0 ≤ ks.getD i 0
  | 0 => ⟨Nat.le_refl _, fun i hi => by rw [show i = 0 by omega]; exact Int.le_refl _⟩
  | j + 1 => by
    obtain ⟨h1, h2⟩ := best_least hb j
    show (if bt (j + 1) (argBest bt j) then j + 1 else argBest bt j) ≤ j + 1 ∧ _
    show _ ∧ ∀ i, i ≤ j + 1 → ks.getD (if bt (j + 1) (argBest bt j) then j + 1 else argBest bt j) 0 ≤ ks.getD i 0
    rw [hb]
    by_cases z : ks.getD (j + 1) 0 < ks.getD (argBest bt j) 0
    · rw [decide_eq_true z, if_pos rfl]
      refine ⟨Nat.le_refl _, fun i hi => ?_⟩
      by_cases e : i = j + 1
      · rw [e]; exact Int.le_refl _
      · have := h2 i (by omega)
        omega
    · rw [decide_eq_false z, if_neg (by decide)]
      refine ⟨by omega, fun i hi => ?_⟩
      by_cases e : i = j + 1
      · rw [e]; omega
      · exact h2 i (by omega)
def rMinDI : List V → Hp → VK → Prop := fun xs H Q => ∃ (a : Addr) (kvs : List (Key × V)) (ks : List Int), xs = [.ref a] ∧ Rd H a (.dK kvs) ∧ kvs.map (·.1) = ks.map Sum.inl ∧ ks ≠ [] ∧ ∀ m, m ∈ ks → (∀ k ∈ ks, m ≤ k) → Q (.int m) H
section
variable {X : Cx}
theorem call_minDI (hcalm : X.calm = true) : CallR X (.builtin "min") rMinDI := by
  intro pins s σ H xs us Q I r q
  obtain ⟨a, kvs, ks, rfl, hd, hks, hne, q⟩ := q
  obtain ⟨u, rfl, rx⟩ := vals1 r
  cases rx
  obtain ⟨z, lo, vs, rel, dd⟩ := dk_rd I.hok hd
  obtain ⟨ep, hat⟩ := dd.dictAt
  have hkeys : vs.map (·.1) = ks.map Sum.inl := rel.keys.symm.trans hks
  have hl : vs.length = ks.length := by
    have e := congrArg List.length hkeys
    rw [List.length_map, List.length_map] at e
    exact e
  have hpos : 0 < ks.length := List.length_pos_iff.mpr hne
  have hP : ∀ i v, (∃ k x, vs[i]? = some (k, x) ∧ (mixKind X.prog X.w).is k v = true) → i < ks.length ∧ ∃ t, v = Value.int (ks.getD i 0) t := fun i v ⟨k, x, e1, e2⟩ => by
    have li : i < ks.length := by rw [← hl]; exact (List.getElem?_eq_some_iff.mp e1).1
    have e3 : (vs.map (·.1))[i]? = some k := by rw [List.getElem?_map, e1]; rfl
    rw [hkeys, List.getElem?_map, List.getElem?_eq_getElem li] at e3
    have e5 : Sum.inl ks[i] = k := Option.some.inj e3
    subst e5
    rcases keyIs_shape (show keyIs (Sum.inl ks[i]) v = true from e2) with ⟨j, t, ek, ev⟩ | ⟨y, t, ek, ev⟩
    · refine ⟨li, t, ?_⟩
      rw [List.getD_eq_getElem?_getD, List.getElem?_eq_getElem li]
      cases ek
      exact ev
    · cases ek
  have src := PySem.W.kdl_dict (prog := X.prog) (w := X.w) (knd := mixKind X.prog X.w) (kvs := vs) (ep := ep) (d := a) lo
  obtain ⟨oI, St, hit, W, st⟩ := src.iter X.A.in1 s (I.ok.hd hcalm) hat
  refine call_min_walkH (hit _ _ ?_)
  have hpush : ∀ b o, s.heap.get? b = some o → (s.heap.push oI).get? b = some o := fun b o e => Heap.get?_push_of_some _ e
  refine ⟨_, _, _, _, _, _, _, s.heap, fun i j => decide (ks.getD i 0 < ks.getD j 0), rfl, W.toS, st, fun b hb => ?_, by omega, fun b o e hb => absurd (Heap.lt_size e) ((List.mem_singleton.mp hb) ▸ Nat.lt_irrefl _), hpush, fun i j vi vj s' Q' E' _ hi hj hq => ?_, fun v s' hv m => ?_⟩
  · have hlt : a < s.heap.objs.size := (src.there _ hat).1
    show b < (s.heap.push oI).objs.size
    rw [Heap.size_push]
    rcases List.mem_cons.mp hb with rfl | hb
    · exact Nat.lt_succ_self _
    · rcases List.mem_cons.mp hb with rfl | hb
      · exact Nat.lt_succ_of_lt hlt
      · cases hb
  · obtain ⟨_, t1, rfl⟩ := hP i vi hi
    obtain ⟨_, t2, rfl⟩ := hP j vj hj
    exact lt_int hq
  · obtain ⟨h', tk, rfl, hk'⟩ := PySem.W.moved_old rfl rfl m
    obtain ⟨li, t, rfl⟩ := hP _ v hv
    have least := (best_least (ks := ks) (bt := fun i j => decide (ks.getD i 0 < ks.getD j 0)) (fun _ _ => rfl) (vs.length - 1)).2
    have gm : ∀ i, i < ks.length → ks.getD i 0 ∈ ks := fun i hi => by
      rw [List.getD_eq_getElem?_getD, List.getElem?_eq_getElem hi]
      exact List.getElem_mem hi
    refine ⟨.int _, H, I.kept (t' := tk) hk', ⟨t, rfl⟩, q _ (gm _ li) fun k hk => ?_⟩
    obtain ⟨i, hi, e⟩ := List.getElem_of_mem hk
    have z := least i (by omega)
    rw [List.getD_eq_getElem?_getD (i := i), List.getElem?_eq_getElem hi] at z
    rw [← e]
    exact z
end
end Lamp
set_option Elab.async false
set_option linter.all false
set_option maxRecDepth 100000
set_option maxHeartbeats 1000000
namespace Lamp
open PySem PySem.Spec PyProof.Rows L2
/-! len, truth and == of dicts, locked or not -/
def rLenR : List V → Hp → VK → Prop := fun xs H Q => ∃ (a : Addr) (kvs : List (Key × V)), xs = [V.ref a] ∧ Rd H a (.dK kvs) ∧ Q (.int kvs.length) H
def tBD (t : TE) : TT := fun σ H Q => t σ H fun x H1 => ∃ (a : Addr) (kvs : List (Key × V)), x = .ref a ∧ Rd H1 a (.dK kvs) ∧ Q (!kvs.isEmpty) H1
def rEqDD : R2 := fun x y H Q => ∃ (a b : Addr) (ks ls : List (Key × V)), x = .ref a ∧ y = .ref b ∧ Rd H a (.dK ks) ∧ Rd H b (.dK ls) ∧ Ints ks ∧ Ints ls ∧ (ks.map (·.1)).Nodup ∧ Q (.bl (sameD ks ls)) H
section
variable {X : Cx}
theorem call_lenR : CallR X (.builtin "len") rLenR := by
  intro pins s σ H xs us Q I r q
  obtain ⟨a, kvs, rfl, hd, q⟩ := q
  obtain ⟨u, rfl, rx⟩ := vals1 r
  cases rx
  exact d_len I hd fun t s' I' => ⟨.int kvs.length, H, I', ⟨t, rfl⟩, q⟩
theorem pt_dictR {e : Expr} {t : TE} (h : PE X e t) (he : ∀ whole, isTrue e X.env whole = (do let v ← whole; standAt e.pos; holding [v] (truthy v)) := by intro _; rfl) : PT X e (tBD t) := by
  refine ⟨fun pins s σ H Q I hw => ?_⟩
  refine isTrue_plain (thn (h.run pins s σ H _ I hw) fun v s1 ⟨x, H1, I1, r1, a, kvs, ex, hd, q⟩ => ?_) (he _)
  subst ex
  cases r1
  exact d_truth I1 hd fun s2 I2 => ⟨H1, I2, q⟩
theorem op_eqDD (hu : X.A.units + 64 < cLine) : OpR X (compareOp .Eq) rEqDD := by
  intro pins s σ H x y v u Q I rx ry h
  obtain ⟨d1, d2, ks, ls, rfl, rfl, hd1, hd2, hi1, hi2, hnd, q⟩ := h
  cases rx
  cases ry
  obtain ⟨_, ya, va, rva, da⟩ := dk_rd I.hok hd1
  obtain ⟨_, yb, vb, rvb, db⟩ := dk_rd I.hok hd2
  have leaf : ∀ k v y, (k, v) ∈ va → valueAt vb k = some y → PySem.W.EqTree X.prog X.w s 0 v y (decide (valV ls k = valV ks k)) := fun k v y hm hy => by
    obtain ⟨x, hx, rx⟩ := kv_mem rva hm
    obtain ⟨z, ez⟩ := hi1 _ hx
    have ez' : x = .int z := ez
    subst ez'
    have e1 : valV ks k = some (.int z) := valV_nd hnd hx
    have ro := rvb.val k
    rw [hy] at ro
    cases e2 : valV ls k with
    | none => rw [e2] at ro; exact (show False from ro).elim
    | some x2 =>
      rw [e2] at ro
      obtain ⟨z2, ez2⟩ := hi2 _ (valV_in e2)
      have ez2' : x2 = .int z2 := ez2
      subst ez2'
      obtain ⟨t1, rfl⟩ := (show ∃ t, v = Value.int z t from rx)
      obtain ⟨t2, rfl⟩ := (show ∃ t, y = Value.int z2 t from ro)
      have eb : decide ((some (V.int z2) : Option V) = valV ks k) = (z == z2) := by
        rw [e1]
        by_cases h : z = z2
        · subst h
          simp
        · have h' : ¬ (some (V.int z2) : Option V) = some (V.int z) := fun e => h (V.int.inj (Option.some.inj e)).symm
          rw [decide_eq_false h']
          simp [h]
      rw [eb]
      exact .leaf fun A _ => SeqAt.EqAt.int_int z t1 z2 t2
  refine PySem.W.eq_dictsT (knd := mixKind X.prog X.w) (n := 0) (e := fun k => decide (valV ls k = valV ks k)) ya yb da db leaf (by omega) ?_
  rw [kv_all rva rvb (fun k => decide (valV ls k = valV ks k)), ← rva.length, ← rvb.length]
  exact ⟨.bl (sameD ks ls), H, I, rfl, q⟩
end
end Lamp
set_option Elab.async false
set_option linter.all false
set_option maxRecDepth 100000
set_option maxHeartbeats 1000000
namespace Lamp
open PySem PySem.Spec PyProof.Rows L2
/-- at a: a list of pairs -/
def LiP (H : Hp) (a : Addr) (qs : List (Int × Int)) : Prop := ∃ as : List Addr, H a = some (.lst (as.map V.ref)) ∧ Paired (fun a (q : Int × Int) => H a = some (.tup [.int q.1, .int q.2])) as qs
def PartAtL (H : Hp) (r : Addr) (x : Part) : Prop := ∃ t, H r = some (.tup [.ref t, .int x.mv, .int x.tm]) ∧ LiP H t x.ls
/-- total(..) of parts that are lists -/
def spTotalL (K : PySem.W.Frag) : Sp := fun vs H Q _ => ∃ (lv : Int) (pt : Addr) (rs : List Addr) (xs : List Part), vs = [.int lv, .ref pt] ∧ H pt = some (.tup (rs.map V.ref)) ∧ Paired (PartAtL H) rs xs ∧ 0 < lv ∧
  (∀ x ∈ xs, ∀ q ∈ x.ls, -100 ≤ q.2 ∧ q.2 ≤ 100) ∧ partsLen xs < 8000 ∧ ∀ (t : Addr) (ms : List (Int × Int)) H', Same H H' → PicB K H' t ms → Rising lv ms → (∀ p, sumAt ms p = partsAt xs p % lv) → ms.length ≤ partsLen xs → Q (.ref t) H'
section
variable {P : Program} {w : World} {K : PySem.W.Frag} {mg : Str → Option Value} {base : Heap} {C : Addr}
theorem ok_totalL {f : Addr} {fd : FuncData} (F : Fun K "total" "total" sTotal f fd) (mt : mg "tuple" = none) (ms : mg "sorted" = none) : FnOk P w K mg base CX0 1 f fd ["levels", "parts"] (spTotalL K) := by
  refine F.ok scTotal (fun vs H Q E h => ?_) (fun cdv A outer s H vs Q E hr h => ?_)
  · obtain ⟨lv, pt, rs, xs, rfl, _⟩ := h
    rfl
  · obtain ⟨lv, pt, rs, xs, rfl, hpt, hpa, h0, hlev, h64, q⟩ := h
    have hu := hu_of hr
    have hlen := Paired.length hpa
    refine ⟨_, pss_cons (ps_set (i := 2) scTotal.nd rfl (.inr rfl) pe_dnewK)
      (pss_cons (ps_for PassesOwn.never rfl (pi_tup (pv 1)) (pg_tup rfl (pgs_cons (pg_name (i := 3) scTotal.nd rfl (.inl rfl)) (pgs_cons (pg_name (i := 4) scTotal.nd rfl (.inl rfl)) (pgs_cons (pg_name (i := 5) scTotal.nd rfl (.inl rfl)) pgs_nil))))
        (pss_one (ps_for PassesOwn.never rfl (pi_list (pv 3)) (pg_tup rfl (pgs_cons (pg_name (i := 6) scTotal.nd rfl (.inl rfl)) (pgs_cons (pg_name (i := 7) scTotal.nd rfl (.inl rfl)) pgs_nil)))
          (pss_one (ps_dput hu (pv 2) (pe_op op_add (pv 6) (pv 4)) (pe_op op_add (pe_dget2 hu (pv 2) (pe_op op_add (pv 6) (pv 4)) pe_int ⟨rfl, rfl, rfl, rfl⟩) (pe_op op_mul (pv 5) (pv 7))) rfl)))))
      (pss_one (ps_ret (pe_callTy call_tupB (by rfl) mt (by decide +kernel) (pa_cons (pe_lc (own := [("place", 6)]) (g := gName 6) rfl scTotal.nd
          (pi_list (pe_callB (call_sortedDW rfl) (by rfl) ms (by decide +kernel) (pa_cons (pv 2) pa_nil)))
          (blkOk_by (own := [("place", 6)]) (N := ["levels", "parts", "sums", "lamps", "by", "times", "place", "level"]) (sc := defScope sTotal) (by decide +kernel)) (fun _ _ _ _ _ => pg_name (i := 6) scTotal.nd rfl (Or.inl rfl))
          (fun _ _ _ _ _ => pts_one (pt_cmpR op_ne (pe_op op_mod (pe_dget hu (pv 2) (pv 6) (fun _ _ => rfl)) (pv 0)) pe_int (nomark _)))
          (fun _ _ _ _ _ => pe_tup (pa_cons (pv 6) (pa_cons (pe_op op_mod (pe_dget hu (pv 2) (pv 6) (fun _ _ => rfl)) (pv 0)) pa_nil)))) pa_nil))))), ?_⟩
    refine sq_setR (fun v H' => ∃ c, v = .ref c ∧ H c = none ∧ H' = upd H c (.dK [])) (fun Q' q' c hc => q' _ _ ⟨c, rfl, hc, rfl⟩) ?_
    rintro v H0 ⟨c, rfl, hc, rfl⟩
    refine ⟨_, rfl, pt, rfl, ⟨_, SqT.of (same_of hc _ _ hpt)⟩, for_tup (xs := rs.map V.ref) (fun i σ' H' => Same H H' ∧ ∃ x3 x4 x5 x6 x7 cs, σ' = [some (.int lv), some (.ref pt), some (.ref c), x3, x4, x5, x6, x7] ∧ H' c = some (.dK (enc cs)) ∧ (cs.map (·.1)).Nodup ∧ (∀ p, levelAt cs p = partsAt (xs.take i) p) ∧ cs.length ≤ partsLen (xs.take i))
      ⟨same_of hc, _, _, _, _, _, [], rfl, upd_same, .nil, fun p => rfl, Nat.le_refl _⟩ (fun i σ' H' _ z => SqT.of (z.1 _ _ hpt)) (fun i v σ' H' hv z => ?_) (fun σ' H' z => ?_)⟩
    · obtain ⟨s1, x3, x4, x5, x6, x7, cs, rfl, hcs, nd, hF, hl⟩ := z
      rw [List.getElem?_map] at hv
      cases er : rs[i]? with
      | none => rw [er] at hv; cases hv
      | some r =>
        rw [er] at hv
        have ex : v = V.ref r := (Option.some.inj hv).symm
        subst ex
        obtain ⟨x, hx, t, hrt, hpic⟩ := paired_get hpa er
        obtain ⟨as, ht, hpp⟩ := hpic
        have hal := Paired.length hpp
        have hat : ∀ (i : Nat) (a : Addr) (q : Int × Int), as[i]? = some a → x.ls[i]? = some q → H a = some (.tup [.int q.1, .int q.2]) := fun i a q h1 h2 => by
          obtain ⟨q2, e2, e3⟩ := paired_get hpp h1
          rw [h2] at e2
          cases e2
          exact e3
        have hlx := partsLen_take hx
        have hxm := List.mem_of_getElem? hx
        refine ⟨r, _, rfl, SqT.of (s1 _ _ hrt), rfl, _, _, rfl, _, _, rfl, _, _, rfl, rfl, ?_⟩
        refine ⟨_, rfl, t, rfl, ⟨_, SqL.of (s1 _ _ ht)⟩, for_list (xs := as.map V.ref) (fun j σ' H' => Same H H' ∧ ∃ x6 x7 cs, σ' = [some (.int lv), some (.ref pt), some (.ref c), some (.ref t), some (.int x.mv), some (.int x.tm), x6, x7] ∧ H' c = some (.dK (enc cs)) ∧ (cs.map (·.1)).Nodup ∧ (∀ p, levelAt cs p = partsAt (xs.take i) p + x.tm * sumAt (x.ls.take j) (p - x.mv)) ∧ cs.length ≤ partsLen (xs.take i) + j)
          ⟨s1, _, _, cs, rfl, hcs, nd, fun p => by rw [List.take_zero, sumAt_nil, Int.mul_zero, Int.add_zero]; exact hF p, hl⟩ (fun j σ' H' _ z => SqL.of (z.1 _ _ ht)) (fun j v σ' H' hv z => ?_) (fun σ' H' z => ?_)⟩
        · obtain ⟨s2, y6, y7, ds, rfl, hds, nd2, hG, hl2⟩ := z
          rw [List.getElem?_map] at hv
          cases ea : as[j]? with
          | none => rw [ea] at hv; cases hv
          | some a =>
            rw [ea] at hv
            have ex : v = V.ref a := (Option.some.inj hv).symm
            subst ex
            have lj : j < x.ls.length := by rw [← hal]; exact (List.getElem?_eq_some_iff.mp ea).1
            have eq := List.getElem?_eq_getElem lj
            have ha := s2 _ _ (hat j a _ ea eq)
            have lev := hlev x hxm _ (List.getElem_mem lj)
            refine ⟨a, _, rfl, SqT.of ha, rfl, _, _, rfl, _, _, rfl, rfl, ?_⟩
            refine ⟨_, rfl, c, rfl, .inl ⟨_, .inl hds⟩, _, rfl, _, rfl, _, _, rfl, rfl, _, DGet.k (k := Sum.inl (x.ls[j].1 + x.mv)) hds, ?_⟩
            rw [val_enc]
            refine ⟨_, rfl, _, rfl, _, _, rfl, rfl, mulR (by omega), _, _, rfl, rfl, ?_⟩
            refine ⟨_, rfl, _, rfl, _, rfl, _, _, rfl, rfl, c, _, rfl, DPut.k (k := Sum.inl (x.ls[j].1 + x.mv)) hds ?_, ?_⟩
            · unfold enc
              rw [List.length_map]
              rw [sizeLine_eq]; omega
            · obtain ⟨n1, n2⟩ := nodup_put nd2 (x.ls[j].1 + x.mv) (levelAt ds (x.ls[j].1 + x.mv) + x.tm * x.ls[j].2)
              refine ⟨same_at s2 hc, _, _, putI ds (x.ls[j].1 + x.mv) (levelAt ds (x.ls[j].1 + x.mv) + x.tm * x.ls[j].2), rfl, by rw [upd_same, enc_put], n1, fun p => ?_, by omega⟩
              rw [level_put, List.take_add_one, eq, sumAt_app]
              show _ = _ + x.tm * (_ + sumAt [x.ls[j]] (p - x.mv))
              rw [sumAt_cons, sumAt_nil, Int.add_zero]
              by_cases hp : p = x.ls[j].1 + x.mv
              · rw [if_pos hp, if_pos (by omega), hG, hp, Int.mul_add, Int.add_assoc]
              · rw [if_neg hp, if_neg (by omega), Int.add_zero]
                exact hG p
        · obtain ⟨s2, y6, y7, ds, rfl, hds, nd2, hG, hl2⟩ := z
          rw [List.length_map, hal] at hl2
          refine ⟨s2, _, _, _, _, _, ds, rfl, hds, nd2, fun p => ?_, ?_⟩
          · have z := hG p
            rw [List.length_map, hal, List.take_length] at z
            rw [z, List.take_add_one, hx, partsAt_app]
            show _ = _ + partsAt [x] p
            rw [partsAt_one]
            rfl
          · have e : partsLen (xs.take (i + 1)) = partsLen (xs.take i) + x.ls.length := by
              unfold partsLen
              rw [List.take_add_one, hx, List.map_append, List.sum_append]
              show _ + ([x].map fun x => x.ls.length).sum = _
              rw [List.map_cons, List.map_nil, List.sum_cons, List.sum_nil, Nat.add_zero]
            omega
    · obtain ⟨s1, x3, x4, x5, x6, x7, cs, rfl, hcs, nd, hF, hl⟩ := z
      rw [List.length_map, hlen, List.take_length] at hF hl
      refine ⟨_, rfl, c, enc cs, cs.map (·.1), rfl, .inl hcs, enc_keys cs, fun ns' sr perm asc nsr => ⟨sr, rfl, ⟨_, SqL.of upd_same⟩, fun D hD => ?_⟩⟩
      have s2 := same_of (o := .lst (ns'.map V.int)) nsr
      have ndn : ns'.Nodup := perm.nodup_iff.mpr nd
      have memo : ∀ n, n ∈ ns' ↔ n ∈ cs.map (·.1) := fun n => perm.mem_iff
      have hlen2 : ns'.length ≤ partsLen xs := by rw [perm.length_eq, List.length_map]; exact hl
      refine lc_genL (us := ns') (enc := V.int) (out := fun n => if levelAt cs n % lv = 0 then none else some (n, levelAt cs n % lv)) (Rel := IsP) isp_st hD (SqL.of upd_same) (by omega) ?_ ?_
      · intro i n H2 hn s3 R' Z' hR hZ
        have hc2 := s3 _ _ (s2 _ _ hcs)
        have hv := val_some ((memo n).mp (List.mem_of_getElem? hn))
        have get : DGet H2 c (.int n) (some (.int (levelAt cs n))) := .inl ⟨enc cs, Sum.inl n, .inl hc2, rfl, hv.symm⟩
        refine ⟨rfl, ?_⟩
        refine ⟨_, rfl, _, rfl, c, _, rfl, get, _, rfl, _, _, rfl, rfl, h0, rfl, decide (levelAt cs n % lv ≠ 0), ?_, ?_⟩
        · show V.bl (!decide (V.int (levelAt cs n % lv) = V.int 0)) = _
          by_cases z : levelAt cs n % lv = 0
          · rw [decide_eq_true (by rw [z]), decide_eq_false (by simpa using z)]
            rfl
          · rw [decide_eq_false (fun e => z (V.int.inj e)), decide_eq_true (by simpa using z)]
            rfl
        · by_cases z : levelAt cs n % lv = 0
          · rw [decide_eq_false (by simpa using z)]
            exact iteF (hZ _ (if_pos z) (Same.refl _))
          · rw [decide_eq_true (by simpa using z)]
            refine iteT ?_
            refine ⟨_, rfl, _, rfl, _, rfl, c, _, rfl, get, _, rfl, _, _, rfl, rfl, h0, (by show 2 ≤ sizeLine; decide), fun tp ntp => ?_⟩
            exact hR _ _ _ (if_neg z) (same_of ntp) ⟨tp, rfl, upd_same⟩
      · intro H2 ys s3 hD' hp'
        obtain ⟨bs, ey, hb⟩ := isp_all hp'
        subst ey
        refine ⟨D, _, rfl, SqL.of hD', fun t' o nt ho => ?_⟩
        have s4 := same_of (o := .frz o (.tup (bs.map V.ref))) nt
        have hb2 : Paired (fun a (q : Int × Int) => H2 a = some (.tup [.int q.1, .int q.2])) bs (tidy lv (levelAt cs) ns') := hb
        refine q t' (tidy lv (levelAt cs) ns') _ (s1.trans (s2.trans (s3.trans s4))) ⟨bs, ⟨o, upd_same, ho⟩, L2.Paired.mapP hb2 fun a r z => s4 _ _ z⟩ (tidy_asc h0 (lt_of_le_nodup asc ndn)) (fun p => ?_) (Nat.le_trans (tidy_len ns') hlen2)
        rw [tidy_at p ndn, hF]
        by_cases hp : p ∈ ns'
        · rw [if_pos hp]
        · rw [if_neg hp]
          have z := hF p
          rw [level_out (fun k => hp ((memo p).mpr k))] at z
          rw [← z]
          exact (Int.zero_emod lv).symm
end
end Lamp
set_option Elab.async false
set_option linter.all false
set_option maxRecDepth 100000
set_option maxHeartbeats 1000000
namespace Lamp
open PySem PySem.Spec PyProof.Rows L2
/-! exceptions raised, and asked of where they are handled -/
section
variable {X : Cx} {W : WX} {e : Expr} {te : TE} {pos : Pos}
/-- an expression that gives a new exception of the program, as what is raised -/
theorem pmk_xo (noEx : X.ex = []) (he : PE X e te) : PMk X e (fun σ H Q => te σ H fun x H1 => ∃ (a C : Addr) (d : Option Addr), x = .ref a ∧ H1 a = some (exo a C d) ∧ Fr0 X.H_0 a ∧ Raises X (.ref C) ∧ Q (.ref C) d (delH H1 a)) := by
  intro pins s σ H Q I told
  refine wpAny_mono (he.run pins s σ H _ I told) (fun u s1 made => ?_) fun _ _ z => z
  obtain ⟨v, H1, I1, rel, a, C, d, rfl, at_, fr, rs, q⟩ := made
  cases rel
  obtain ⟨t1, there⟩ := exo_at I1.hok at_
  obtain ⟨G, sub, gone, J⟩ := I1.untrack at_ fr noEx
  exact ⟨a, _, _, { s1 with heap := G }, delH H1 a, .ref C, d, rfl, J, sub, gone, there, ⟨rfl, rfl⟩, rfl, rfl, delH_same, rfl, I1.bare, rs, q⟩
theorem raises_ec {C : Addr} {B newId initId : String} {tail : List Value} (T : EC X.K C B newId initId tail) (ty : PySem.W.typeIn X.K (.ref C) = some (.type "type")) : Raises X (.ref C) := raises_own T.exC ty
end
/-! an exception that is handled, at p -/
/-- the exception's class and its dict -/
structure Pinned (p : Addr × Obj) (D dd : Addr) : Prop where
  z : Zc (.ref D) (some dd) p.2
  f : ∃ vs, p.2.data = .fields vs
section
variable {X : Cx} {p : Addr × Obj} {D dd : Addr}
theorem pinned_inst {pins : List (Addr × Obj)} {σ : L2.St} {H : Hp} {s : Shared} {fs : List (Str × V)} (I : Inv X pins σ H s) (hp : p ∈ X.pn) (Z : Pinned p D dd) (hd : H dd = some (exd dd fs)) : ∃ (mA : Str → Option Value) (o : Obj), PySem.W.InstAt s.heap p.1 p.2 D (some o) ∧ s.heap.Ns1 dd mA ∧ (∀ f, RelO (fs.lookup f) (mA f)) ∧ s.heap.get? dd = some o := by
  obtain ⟨⟨h1, h2⟩, vs, h3⟩ := Z
  obtain ⟨mA, nm, rel⟩ := exd_at I.hok hd
  obtain ⟨o, es, ep, ho, r⟩ := id nm
  have pin := (I.pin p (List.mem_append_left _ hp)).1
  exact ⟨mA, o, ⟨pin, h1, by unfold PySem.W.notCls; rw [h3] <;> rfl, by rw [h2]; exact ho⟩, nm, rel, ho⟩
/-- isinstance(e, c) of it -/
def rIsP (K : PySem.W.Frag) (a D dd : Addr) : List V → Hp → VK → Prop := fun xs H Q => ∃ (c : V) (u : Value) (b : Bool) (fs : List (Str × V)), xs = [.ref a, c] ∧ H dd = some (exd dd fs) ∧ ClsV c u ∧ PySem.W.kitOne K (.ref D) u = some b ∧ Q (.bl b) H
theorem call_isP (G : ClsG X.K) (T : ∃ (B newId initId : String) (tail : List Value), EC X.K D B newId initId tail) (hp : p ∈ X.pn) (Z : Pinned p D dd) : CallR X (.builtin "isinstance") (rIsP X.K p.1 D dd) := by
  intro pins s σ H xs us Q I r h
  obtain ⟨c, cv, b, fs, rfl, hd, hc, hk, q⟩ := h
  obtain ⟨u1, u2, rfl, r1, r2⟩ := vals2 r
  have e1 : u1 = Value.ref p.1 := r1
  subst e1
  have e2 := hc.eq r2
  subst e2
  obtain ⟨mA, o, J, _⟩ := pinned_inst I hp Z hd
  obtain ⟨B, newId, initId, tail, T⟩ := T
  have isCls : (PySem.W.clsIn X.K D).isSome = true := by
    obtain ⟨cd, hcd, _⟩ := PySem.W.any_some T.hd
    rw [hcd]
    rfl
  exact PySem.W.kia_one (PySem.W.kitx_exc isCls T.ga T.gg T.exC T.cls G.get G.tak T.obj) I.kIn J hk (fun z => nomatch z) fun tk => ⟨.bl b, H, I.tok tk, rfl, q⟩
/-- e.f of it -/
def tXfP (a dd : Addr) (f : Str) (te : TE) : TE := fun σ H Q => te σ H fun x H1 => x = .ref a ∧ ∃ (fs : List (Str × V)) (y : V), H1 dd = some (exd dd fs) ∧ fs.lookup f = some y ∧ Q y H1
theorem pe_xfP {e : Expr} {te : TE} {pos : Pos} {f : Str} (T : ∃ (B newId initId : String) (tail : List Value), EC X.K D B newId initId tail) (hno : PySem.W.findIn X.K (.ref D) f = some none) (hp : p ∈ X.pn) (Z : Pinned p D dd) (he : PE X e te)
    (hb : attributeBase e f X.env (eval e X.env) = eval e X.env := by rfl) : PE X (.Attribute e f pos) (tXfP p.1 dd f te) := by
  refine ⟨fun pins s σ H Q I h => attr_of hb (thn (he.run pins s σ H _ I h) fun u s1 ⟨x, H1, I1, r1, told⟩ => ?_)⟩
  obtain ⟨ex, fs, y, hd, hl, q⟩ := told
  subst ex
  have eu : u = Value.ref p.1 := r1
  subst eu
  obtain ⟨B, newId, initId, tail, T⟩ := T
  obtain ⟨mA, o, J, named, rel, ho⟩ := pinned_inst I1 hp Z hd
  obtain ⟨od, hod, look⟩ := lookIn_ns named
  rw [ho] at hod
  cases hod
  have rf := rel f
  rw [hl] at rf
  obtain ⟨v, hv, rv⟩ := RelO.some_of (v := y) (o := mA f) rf
  exact HandSPX.exc_get I1.kIn J T.ga T.gg T.exC (PySem.W.findObj_own T.hd hno rfl (by rw [look, hv])) (handed_of rv) ⟨y, H1, I1.tok _, rv, q⟩
end
/-! a def that is called where an exception is handled: what it promises of it -/
abbrev SpP := Addr → Addr → Addr → Sp
structure FnP (P : Program) (w : World) (K : PySem.W.Frag) (mg : Str → Option Value) (base : Heap) (k : Nat) (f : Addr) (fd : FuncData) (ps : List Str) (sp : SpP) : Prop where
  many : ∀ a D dd vs H Q E, sp a D dd vs H Q E → vs.length = ps.length
  goes : ∀ (A : Around) (out : List Env) (s : Shared) (H : Hp) (ar : Args) (us : List Value) (vs : List V) (Q : VK) (p : Addr × Obj) (D dd : Addr), A.guards = some [] → L2H.RoomH k A → L2H.PinOk out H s p → Pinned p D dd → Env0 P w K mg base A out s H →
    BindsTo s fd ar (ps.zip us) → Vals vs us → sp p.1 D dd vs H Q E0 → codeAny (model P w) A (.call (.ref f) ar) (CR CX0 out P w H s Q E0) s
section
variable {P : Program} {w : World} {K : PySem.W.Frag} {mg : Str → Option Value} {base : Heap}
/-- the rule for such a def, by its body -/
theorem okP {x qual : Str} {st : Stmt} {f : Addr} {fd : FuncData} {N ps : List Str} {k : Nat} {sp : SpP} (F : Fun K x qual st f fd) (S : FnScope N ps (defScope st)) (len : ∀ a D dd vs H Q E, sp a D dd vs H Q E → vs.length = ps.length)
    (hbody : ∀ (cdv : Value) (A : Around) (outer : List Env) (s : Shared) (H : Hp) (vs : List V) (Q : VK) (p : Addr × Obj) (D dd : Addr), A.guards = some [] → L2H.RoomH k (A.deeper (envOfC qual (defScope st) s.heap.objs.size f cdv)) → Pinned p D dd → sp p.1 D dd vs H Q E0 →
      ∃ t, PSs (L2H.cxH CX0 P w K mg base N qual (defScope st) f cdv A outer s H E0 p).nox (defBody st) t ∧ t { nx := fun _ H' => Q .non H', rt := Q } (start N vs) H) : FnP P w K mg base (k + 1) f fd ps sp := by
  obtain ⟨oc, od, kV, doc, pm, an, cdv, ct, osl, efd, hlk, hcode⟩ := F.ex
  subst efd
  refine ⟨len, fun A out s H ar us vs Q p D dd hgd hroom hpin hz hst hbind hvals hs => ?_⟩
  have hcount := len _ _ _ _ _ _ _ hs
  have inK : K.In s.heap := hst.mod.kin.keeps fun b o e => (hst.bs b o e).1
  have noLim : s.heap.NoLimit := hst.mod.nolimit.keeps fun b o e => (hst.bs b o e).1
  refine codeAny_call_function hroom.depth (inK _ _ hlk) rfl S.co S.gen rfl (PySem.W.codeRec_of inK hcode) (hbind _ _ _ _ ?_)
  refine wpAny_newFunctionEnv_cells S.kind (fun y hy => ?_) fun env eenv s1 xin => ?_
  · obtain ⟨nm, val⟩ := y
    cases S.par nm (List.of_mem_zip hy).1 with
    | inl isLocal => exact .inl isLocal
    | inr isCell => exact .inr ⟨isCell, PySem.W.cellsFrom_some _ _ _ (.inl isCell)⟩
  subst eenv
  refine ⟨noLim.keeps xin.toInCall.keep, codeAny_func ?_⟩
  obtain ⟨t, ht0, hq⟩ := hbody cdv A out s H vs Q p D dd hgd (hroom.deeper _) hz hs
  have ht := ht0.nox
  have inv0 : Inv (L2H.cxH CX0 P w K mg base N qual (defScope st) f cdv A out s H E0 p) [] (start N vs) H s1 := L2H.inv_startH S hpin hst hcount hvals xin
  have fin : ∀ {σ' : L2.St} {H' : Hp} {v : V} {u : Value} {s' : Shared}, Inv (L2H.cxH CX0 P w K mg base N qual (defScope st) f cdv A out s H E0 p) [] σ' H' s' → RelV v u → Q v H' → CE out P w H s Q u s' := fun J rv q => ⟨_, _, J.os, J.bare, J.base, J.hok, rv, q⟩
  refine wpAny_mono (ht.run [] s1 (start N vs) H _ inv0 hq) (fun flow s' told => ?_) fun e s' told => told
  match flow, told with
  | .ret u, ⟨v, σ', H', J, rv, q⟩ => exact fin J rv q
  | .next, ⟨σ', H', J, q⟩ => exact fin (v := V.non) (u := Value.none) J rfl q
  | .brk, ⟨_, _, _, q⟩ => exact False.elim q
  | .cont, ⟨_, _, _, q⟩ => exact False.elim q
end
section
variable {X : Cx} {k : Nat} {f : Addr} {fd : FuncData} {ps : List Str} {sp : SpP} {x : Str} {q pos : Pos} {e : Expr} {es : List Expr} {t : TA} {p : Addr × Obj} {D dd : Addr}
theorem runP {pins : List (Addr × Obj)} {σ : L2.St} {H : Hp} {s : Shared} {Q : VK} {us : List Value} {vs : List V} (F : FnP X.prog X.w X.K X.mg X.base k f fd ps sp) (hgd : X.A.guards = some []) (hr : L2H.RoomH k X.A) (hp : p ∈ X.pn) (Z : Pinned p D dd) (hb : Binds X.K fd ps [])
    (I : Inv X pins σ H s) (r : Vals vs us) (h : sp p.1 D dd vs H Q E0) : wpAny (model X.prog X.w) X.A (call (.ref f) us) (EP X pins σ Q) X.xe s := by
  have hl : (us ++ []).length = ps.length := by rw [List.append_nil, ← r.length]; exact F.many _ _ _ _ _ _ _ h
  have hbb := hb s us I.kIn hl
  rw [List.append_nil] at hbb
  obtain ⟨g1, g2, g3, g4, g5⟩ := I.pin p (List.mem_append_left _ hp)
  have pin : L2H.PinOk X.stack H s p := ⟨g1, g2, fun hm => (List.mem_cons.mp (I.stkSub p.1 hm)).elim g3 g4, g5⟩
  refine wpAny_call (codeAny_mono (F.goes X.A X.stack s H ⟨us, []⟩ us vs Q p D dd hgd hr pin Z I.env0 hbb r h) fun res s' told => ?_)
  match res, told with
  | .error _, told => exact False.elim told
  | .ok (.ret u), told => exact I.after told
  | .ok .next, told => exact False.elim told
  | .ok .brk, told => exact False.elim told
  | .ok .cont, told => exact False.elim told
/-- f(e, ..), where p is handled -/
theorem pe_callP (F : FnP X.prog X.w X.K X.mg X.base k f fd ps sp) (hgd : X.A.guards = some []) (hr : L2H.RoomH k X.A) (hp : p ∈ X.pn) (Z : Pinned p D dd) (hg : Gl X x) (hm : X.mg x = some (.ref f)) (hk : PySem.W.keepIn X.K (.ref f) = true) (hb : Binds X.K fd ps [])
    (ha : PA X (e :: es) t) (hdb : (x == ("__debug__" : Str)) = false := by decide) (he : starEach (e :: es) X.env = (false, eval e X.env) :: starEach es X.env := by rfl) (hpl : (backTo pos (starEach es X.env)).any (·.1) = false := by rfl) :
    PE X (.Call (.Name x q) (e :: es) [] pos) (tCallG (sp p.1 D dd) t) :=
  ⟨fun pins s σ H Q I h => wpAny_Call_Name_kw (ld_glob I hg hm (PySem.W.callWith_K (h₀ := X.base) I.ok.mod.kin hk (thn (ha.run pos pins s σ H _ I h) fun us s1 ⟨vs, H1, I1, r, q⟩ =>
    ⟨I1.kIn, runP F hgd hr hp Z hb I1 r q⟩) he hpl) hdb)⟩
end
end Lamp
set_option Elab.async false
set_option linter.all false
set_option maxRecDepth 100000
set_option maxHeartbeats 1000000
namespace Lamp
open PySem PySem.Spec PyProof.Rows L2
/-! try: body, except (A, B, C) as n: suite, where all that is raised is one of them -/
/-- a flying exception stays so when objects are laid -/
theorem flying_on {B h h' : Heap} {l : List Env} {a : Addr} {Z : Obj → Prop} (x : HandSPX.FlyingZ B l a Z h) (k : ∀ b o, h.get? b = some o → h'.get? b = some o) : HandSPX.FlyingZ B l a Z h' := by
  obtain ⟨g1, g2, g3, oe, vs, T, oT, ts, e1, e2, e3, e4, e5, e6, e7, e8, e9⟩ := x
  exact ⟨fun b o e => k b o (g1 b o e), g2, g3.of_keeps fun b o e _ => ⟨o, k b o e, rfl⟩, oe, vs, T, oT, ts, k _ _ e1, e2, e3, e4, e5, e6, k _ _ e7, e8, e9⟩
/-- the ends of a suite, behind which slot i is gone -/
def offI (i : Nat) (D : Ends) : Ends := { nx := fun σ' H' => D.nx (σ'.set i none) H', rt := D.rt, bk := fun σ' H' => D.bk (σ'.set i none) H', ct := fun σ' H' => D.ct (σ'.set i none) H' }
def wTup (K : PySem.W.Frag) (c1 c2 c3 : Value) (m i : Nat) (ts : Addr → Value → Option Addr → TS) (D : Ends) : WX := fun cls d σ H => σ.length = m →
  PySem.W.exmAny K cls [c1, c2, c3] = some true ∧ ∀ a, H a = none → ts a cls d (offI i D) (σ.set i (some (.ref a))) H
section
variable {X : Cx} {x1 x2 x3 n : Str} {c1 c2 c3 : Value} {i kk : Nat} {body suite : List Stmt} {b0 : Stmt} {p1 p2 p3 tp pos pos' : Pos} {tb : WX → TS} {ts : Addr → Value → Option Addr → TS}
theorem name_at {Y : Cx} {pins : List (Addr × Obj)} {σ : L2.St} {H : Hp} {s : Shared} {x : Str} {c : Value} {p : Pos} {Q : Value → Shared → Prop} {E : Value → Shared → Prop} (hc : Names Y x c) (I : Inv Y pins σ H s) (q : Q c s) : wpAny (model Y.prog Y.w) Y.A (eval (.Name x p) Y.env) Q E s := by
  obtain ⟨hg, hdbg, hm | ⟨hm, hv, hnn⟩⟩ := hc
  · exact ld_glob I hg hm q hdbg
  · exact ld_blt I hg hm hv q hnn hdbg
theorem ps_try_tup (onTop : X.stack = X.env :: X.outer) (framed : X.env.frame = some X.env.locals) (nodup : X.N.Nodup) (isN : X.N[i]? = some n) (isLoc : X.env.kindOf n = some .local) (n1 : Names X x1 c1) (n2 : Names X x2 c2) (n3 : Names X x3 c3)
    (inBody : ∀ (W : WX) (pn : List (Addr × Obj)) (xe : Value → Shared → Prop), Takes (X.tr pn xe) W → PassesOwn (model X.prog X.w) X.A X.env xe → PSs (X.tr pn xe) body (tb W))
    (inSuite : ∀ (a : Addr) (oe : Obj) (cls : Value) (d : Option Addr) (pn : List (Addr × Obj)), Zc cls d oe → (∃ vs, oe.data = .fields vs) → PSs (X.suite a ((a, oe) :: pn)) (b0 :: suite) (ts a cls d)) :
    PS X (.Try body [.ExceptHandler (some (.Tuple [.Name x1 p1, .Name x2 p2, .Name x3 p3] kk tp)) (some n) (b0 :: suite) pos'] [] [] pos) (fun D σ H => tb (wTup X.K c1 c2 c3 X.N.length i ts D) D σ H) := by
  refine ⟨fun pins s σ H D I told => wpAny_Try_except ?_⟩
  have xok := I.ok
  have frames : X.A.frames = some (X.env :: X.outer) := by rw [xok.frames, onTop]
  have isOwn : Loc X.env.scope n := .inl isLoc
  refine wpAny_mono ((inBody (wTup X.K c1 c2 c3 X.N.length i ts D) (X.pn ++ pins) _ (fun u s' air => ?_) PassesOwn.looking).run [] s σ H D (I.toTry _) told) (fun f s1 ended => ?_) (fun e s1 z => z)
  · obtain ⟨a, B, sI, pins', σ', H', cls, d, rfl, J', ground, ups, sky, na, os, ag, hits0⟩ := air
    have J : Inv X pins σ' H' sI := J'.ofTry xok
    obtain ⟨hits, q⟩ := hits0 J.len
    have sky' : Sky B (X.env :: X.outer) a (Zc cls d) X.env.locals s'.heap := by rw [← onTop]; exact sky
    show wpAny (model X.prog X.w) X.A (noteFrame (.ref a) X.env) _ _ _
    refine Sky.land Zc.steady frames framed sky' fun h3 fl3 up3 => ?_
    have J3 : Inv X pins σ' H' { s' with heap := h3 } := J.landed ground fl3.1 (ups.trans up3) os ag
    obtain ⟨oe3, vs3, he3, hz3, hd3⟩ := fl3.there
    have nfr : a ∉ frs (X.env :: X.outer) := fun hm => by
      obtain ⟨_, o', e', plain⟩ := fl3.2.2.1.mem hm
      rw [he3] at e'
      cases e'
      exact plain _ hd3
    have nL : a ≠ X.env.locals := fun z => nfr (List.mem_filterMap.mpr ⟨X.env, List.mem_cons_self, by rw [framed, z]⟩)
    have nF : a ∉ X.fs := fun hm => by
      obtain ⟨e, he, r⟩ := List.mem_filterMap.mp hm
      exact nfr (List.mem_filterMap.mpr ⟨e, List.mem_cons_of_mem _ he, r⟩)
    have S3 := J3.suite he3 hd3 na nL nF
    refine wpAny_handleBy_cons (codeAny_handlers_test ?_) (by intro q; cases q)
    have kp : ∀ b o, h3.get? b = some o → (h3.push { cls := .type "tuple", data := .seq [c1, c2, c3].toArray }).get? b = some o := fun _ _ z => Heap.get?_push_of_some _ z
    have fl4 := flying_on fl3 kp
    have LT : PySem.W.Looks (model X.prog X.w) (h3.push { cls := .type "tuple", data := .seq [c1, c2, c3].toArray }) (typeOf (.ref a)) cls := fun A Q E s k q => wpAny_typeOf_ref (k _ _ (kp _ _ he3)) (by rw [hz3.1]; exact q)
    have LM := PySem.W.exm_tup3 (M := model X.prog X.w) (J3.kIn.keeps kp) LT (Heap.get?_push_size h3 rfl) hits
    have m1 : Names (X.suite a ((a, oe3) :: (X.pn ++ pins))) x1 c1 := n1
    have m2 : Names (X.suite a ((a, oe3) :: (X.pn ++ pins))) x2 c2 := n2
    have m3 : Names (X.suite a ((a, oe3) :: (X.pn ++ pins))) x3 c3 := n3
    show wpAny (model X.prog X.w) (X.A.mark (some (.ref a))) _ _ _ _
    refine wpAny_Tuple (wpAny_items_cons (name_at m1 S3 (wpAny_items_cons (name_at m2 S3 (wpAny_items_cons (name_at m3 S3 (wpAny_items_nil ⟨by size_fits, ?_⟩)))))))
    refine LM.here ?_
    refine codeAny_handlers_suite_as ?_
    refine HandSPX.lands_againZ fl4 fun h5 fl5 up5 => ?_
    have upK : h3.UpToSlots (h3.push { cls := .type "tuple", data := .seq [c1, c2, c3].toArray }) := Heap.UpToSlots.of_keeps kp
    have J5 : Inv X pins σ' H' { s' with heap := h5 } := J.landed ground fl5.1 (((ups.trans up3).trans upK).trans up5) os ag
    obtain ⟨oe5, vs5, he5, hz5, hd5⟩ := fl5.there
    have S5 := J5.suite he5 hd5 na nL nF
    refine store_ok (X := X.suite a ((a, oe5) :: (X.pn ++ pins))) (v := .ref a) S5 nodup isN isOwn rfl (fun s6 S6 => ?_) (.inr isLoc)
    refine wpAny_mono ((inSuite a oe5 cls d (X.pn ++ pins) hz5 ⟨_, hd5⟩).run [] s6 _ H' _ S6 (q a na)) (fun f s7 ended => ?_) (fun _ _ z => False.elim z)
    have behind : ∀ {σ7 : L2.St} {H7 : Hp} {Q : Shared → Prop}, Inv (X.suite a ((a, oe5) :: (X.pn ++ pins))) [] σ7 H7 s7 → (∀ s8, Inv X pins (σ7.set i none) H7 s8 → Q s8) →
        wpAny (model X.prog X.w) X.A (do bindName X.env n .none; unbindBehindTheSuite X.env n pos') (fun _ s8 => Q s8) X.xe s7 := fun S7 hq => gone_ok (S7.unsuite xok) nodup isN isLoc hq
    match f, ended with
    | .next, ⟨_, _, S7, q7⟩ => exact behind S7 fun s8 J8 => ⟨_, _, J8, q7⟩
    | .brk, ⟨_, _, S7, q7⟩ => exact behind S7 fun s8 J8 => ⟨_, _, J8, q7⟩
    | .cont, ⟨_, _, S7, q7⟩ => exact behind S7 fun s8 J8 => ⟨_, _, J8, q7⟩
    | .ret u, ⟨_, _, _, S7, r7, q7⟩ => exact behind S7 fun s8 J8 => ⟨_, _, _, J8, r7, q7⟩
  · match f, ended with
    | .next, ⟨_, _, J', r⟩ => exact wpAny_execs_nil ⟨_, _, J'.ofTry xok, r⟩
    | .brk, ⟨_, _, J', r⟩ => exact ⟨_, _, J'.ofTry xok, r⟩
    | .cont, ⟨_, _, J', r⟩ => exact ⟨_, _, J'.ofTry xok, r⟩
    | .ret u, ⟨_, _, _, J', v, r⟩ => exact ⟨_, _, _, J'.ofTry xok, v, r⟩
end
end Lamp
set_option Elab.async false
set_option linter.all false
set_option maxRecDepth 100000
set_option maxHeartbeats 1000000
namespace Lamp
open PySem PySem.Spec PyProof.Rows L2
/-! xs.count(True), and what else an error's sorting needs -/
def rCntD (K : PySem.W.Frag) : V → List V → Hp → VK → Prop := fun x xs H Q => ∃ (a : Addr) (vs : List V) (y : V) (ds : List PyData) (d : PyData), x = .ref a ∧ xs = [y] ∧ SqL K H a vs ∧ DpAll K H vs ds ∧ Dp K H y d ∧ PyData.plainAll ds = true ∧ d.plain = true ∧ min (PyData.depthAll ds) d.depth ≤ 60 ∧
  Q (.int ((ds.countP fun z => PyData.eqv z d : Nat) : Int)) H
theorem mt_cntD {X : Cx} (hu : X.A.units + 64 < cLine) : MtR X "list.count" (rCntD X.K) := by
  intro pins s σ H x xs v us Q I rx rxs h
  obtain ⟨a, vs, y, ds, d, rfl, rfl, hs, hds, hd, p1, p2, hdep, q⟩ := h
  cases rx
  obtain ⟨u, rfl, ru⟩ := rxs.one
  obtain ⟨its, rv, ⟨o, n, ho, hc, hdn, hdt⟩, hlen⟩ := I.list hs
  obtain ⟨as, r1⟩ := Dp.readsAll I ds vs its hds rv
  obtain ⟨bs, r2⟩ := Dp.reads I d y u hd ru
  refine PySem.SeqAt.count_list_data (xs := ds) (d := d) ⟨o, ho, hc, n, hdt⟩ (by simpa using r1) r2 p1 p2 (by omega) ?_
  exact ⟨.int ((ds.countP fun z => PyData.eqv z d : Nat) : Int), H, I.tok _, ⟨s.toks, rfl⟩, q⟩
section
variable {K : PySem.W.Frag} {σ : L2.St} {H : Hp} {i : Nat} {a D D' dd : Addr} {b : Bool} {fs : List (Str × V)}
theorem v_isP (h : σ[i]? = some (some (.ref a))) (hd : H dd = some (exd dd fs)) (hk : PySem.W.kitOne K (.ref D) (.ref D') = some b) :
    Val (tCB (rIsP K a D dd) (tCons (tVar i) (tCons (tC (.ref D')) tNil))) σ H (.bl b) := fun Q q => ⟨_, h, _, _, b, fs, rfl, hd, .own D', hk, q⟩
theorem v_isPT {n : String} (h : σ[i]? = some (some (.ref a))) (hd : H dd = some (exd dd fs)) (hk : PySem.W.kitOne K (.ref D) (.type n) = some b) :
    Val (tCB (rIsP K a D dd) (tCons (tVar i) (tCons (tC (.ty n)) tNil))) σ H (.bl b) := fun Q q => ⟨_, h, _, _, b, fs, rfl, hd, .ty n, hk, q⟩
theorem v_xfP {f : Str} {y : V} (h : σ[i]? = some (some (.ref a))) (hd : H dd = some (exd dd [(f, y)])) : Val (tXfP a dd f (tVar i)) σ H y := fun Q q => ⟨_, h, rfl, _, y, hd, by rw [List.lookup_cons, beq_self_eq_true], q⟩
theorem dp_bools {l : Addr} {bs : List Bool} (h : H l = some (.lst (bs.map V.bl))) : Dp K H (.ref l) (.list (bs.map PyData.bool)) := by
  refine .lst (SqL.of h) ?_
  clear h
  induction bs with
  | nil => exact .nil
  | cons c r ih => exact .cons (.bl c) ih
theorem dpAll_bools : ∀ {bs : List Bool}, DpAll K H (bs.map V.bl) (bs.map PyData.bool)
  | [] => .nil
  | c :: r => .cons (.bl c) dpAll_bools
end
end Lamp
set_option Elab.async false
set_option linter.all false
set_option maxRecDepth 100000
set_option maxHeartbeats 1000000
namespace Lamp
open PySem PySem.Spec PyProof.Rows L2 LamX
/-! a def that calls what it got, and tells what it gives back, or what it raises -/
/-- what it makes of the lambda's reading -/
abbrev ansN : List Str := ["_law_call_here", "_law_got", "_law_e"]
def backE (f : Addr) (Q : VK) : VK := fun v H' => tRet (tLst (tCons (tC (.str "back")) (tCons (tVar 1) tNil))) { nx := fun _ H' => Q .non H', rt := Q } ((L2.start ansN [.ref f]).set 1 (some v)) H'
theorem back_run {f : Addr} {Q : VK} {v : V} {H' : Hp} (q : ∀ l, H' l = none → Q (.ref l) (upd H' l (.lst [.str "back", v]))) : backE f Q v H' := ⟨v, rfl, (by show 2 ≤ sizeLine; decide), q⟩
def raisE (K : PySem.W.Frag) (c1 c2 c3 : Value) (sp : SpP) (Q : VK) : XK := fun cls d H' => ∃ D dd, cls = .ref D ∧ d = some dd ∧ PySem.W.exmAny K cls [c1, c2, c3] = some true ∧ ∀ a, H' a = none → sp a D dd [.ref a] H' Q E0
def TTans (K : PySem.W.Frag) (c1 c2 c3 : Value) (sp : SpP) : (XK → Hp → VK → Prop) → Hp → VK → Prop := fun tl H Q => ∀ f, tl (raisE K c1 c2 c3 sp Q) H (backE f Q)
/-- its suite -/
def tSuiteA (sp : SpP) (a : Addr) (cls : Value) (d : Option Addr) : TS := fun D' σ H => ∃ D dd, cls = .ref D ∧ d = some dd ∧ tRet (tCallG (sp a D dd) (tCons (tVar 2) tNil)) D' σ H
section
variable {P : Program} {w : World} {K : PySem.W.Frag} {mg : Str → Option Value} {base : Heap}
/-- what is known of the def that sorts errors -/
structure SortR (P : Program) (w : World) (K : PySem.W.Frag) (mg : Str → Option Value) (base : Heap) (sp : SpP) (k : Nat) : Prop where
  ex : ∃ (f : Addr) (fd : FuncData), FnP P w K mg base k f fd ["_law_e"] sp ∧ Binds K fd ["_law_e"] [] ∧ mg "_law_sort" = some (.ref f) ∧ PySem.W.keepIn K (.ref f) = true
theorem ans_gives {X : Cx} {x q : Str} {sg : Scope} {g cA cB cC : Addr} {cdg : Value} {k j1 j2 : Nat} {sp : SpP} {p1 p2 p3 p4 p5 p6 p7 p8 p9 p10 p11 p12 p13 p14 p15 p16 p17 p18 : Pos} (hgd : X.A.guards = some []) (hr : Room (k + 1) X.A) (S : SortR X.prog X.w X.K X.mg X.base sp k)
    (Sg : FnScope ansN ["_law_call_here"] sg) (mA : X.mg "WrongValue" = some (.ref cA)) (mB : X.mg "WrongName" = some (.ref cB)) (mC : X.mg "NotPossible" = some (.ref cC)) (v1 : sg.names.lookup ("_law_got" : Str) = some NameKind.local) (v2 : sg.names.lookup ("_law_e" : Str) = some NameKind.local)
    (gA : sg.names.lookup ("WrongValue" : Str) = some .globalImplicit) (gB : sg.names.lookup ("WrongName" : Str) = some .globalImplicit) (gC : sg.names.lookup ("NotPossible" : Str) = some .globalImplicit) (gS : sg.names.lookup ("_law_sort" : Str) = some .globalImplicit) :
    GivesTo X ansN x sg g cdg [.Try [.Assign [.Name "_law_got" p1] (.Call (.Name "_law_call_here" p2) [] [] p3) p4] [.ExceptHandler (some (.Tuple [.Name "WrongValue" p5, .Name "WrongName" p6, .Name "NotPossible" p7] j1 p8)) (some "_law_e") [.Return (some (.Call (.Name "_law_sort" p9) [.Name "_law_e" p10] [] p11)) p12] p13] [] [] p14,
      .Return (some (.List [.Constant (.str "back") j2 p15, .Name "_law_got" p16] p17)) p18] "_law_call_here" q (TTans X.K (.ref cA) (.ref cB) (.ref cC) sp) := by
  intro f c' s H Q tl act hc h
  obtain ⟨fS, fdS, F, b, m, kp⟩ := S.ex
  have rm : L2H.RoomH k (X.A.deeper (envOfC x sg s.heap.objs.size g cdg)) := L2H.roomH_of (hr.deeper _)
  refine ⟨_, pss_cons (ps_try_tup (X := (cxOf C8.CX0 X.prog X.w X.K X.mg X.base ansN x sg g cdg X.A X.stack s H C8.E0).nox) (i := 2) (c1 := .ref cA) (c2 := .ref cB) (c3 := .ref cC)
      (tb := fun W D σ H => ∃ Ech : XK, (∀ cls d σ' H', Ech cls d H' → W cls d σ' H') ∧ σ[0]? = some (some (.ref f)) ∧ H c' = some (CodeO c' q) ∧ tl Ech H (fun v H' => D.nx (σ.set 1 (some v)) H')) (ts := tSuiteA sp)
      rfl rfl Sg.nd rfl v2 ⟨gA, rfl, .inl mA⟩ ⟨gB, rfl, .inl mB⟩ ⟨gC, rfl, .inl mC⟩ (fun W pn xe tk _ => ?_) (fun a oe cls d pn hz hf => ?_)) (pss_one (ps_ret (pe_lst (pa_cons pe_str (pa_cons (pv (x := "_law_got") 1 rfl (.inl v1)) pa_nil))))), ?_⟩
  · refine ⟨fun pins s' σ H' D I h' => ?_⟩
    obtain ⟨Ech, hW, h1, h2, h3⟩ := h'
    have hp := act W pn xe Ech p2 p3 tk hW
    have hs : PS ((cxOf C8.CX0 X.prog X.w X.K X.mg X.base ansN x sg g cdg X.A X.stack s H C8.E0).tr pn xe) (.Assign [.Name "_law_got" p1] (.Call (.Name "_law_call_here" p2) [] [] p3) p4) _ := ps_set (i := 1) Sg.nd rfl (.inl v1) hp
    exact (pss_one hs).run pins s' σ H' D I ⟨h1, h2, h3⟩
  · refine ⟨fun pins s' σ H' D I h' => ?_⟩
    obtain ⟨Dc, dd, rfl, rfl, h'⟩ := h'
    refine PSs.run (pss_one (ps_ret (pe_callP (X := ((cxOf C8.CX0 X.prog X.w X.K X.mg X.base ansN x sg g cdg X.A X.stack s H C8.E0).nox).suite a ((a, oe) :: pn)) (p := (a, oe)) (D := Dc) (dd := dd) F hgd ⟨rm.dp, rm.un⟩ (List.mem_cons_self ..) ⟨hz, hf⟩ gS m kp b (pa_cons (pv (x := "_law_e") 2 rfl (.inl v2)) pa_nil)))) pins s' σ H' D I h'
  · refine ⟨raisE X.K (.ref cA) (.ref cB) (.ref cC) sp Q, ?_, rfl, hc, h f⟩
    rintro cls d σ' H' ⟨Dc, dd, rfl, rfl, e, hq⟩ hlen
    refine ⟨e, fun a na => ⟨Dc, dd, rfl, rfl, .ref a, ?_, hq a na⟩⟩
    have l3 : σ'.length = 3 := hlen
    have l2 : 2 < σ'.length := by omega
    exact List.getElem?_set_self l2
/-- what is known of the def -/
structure AnsR (P : Program) (w : World) (K : PySem.W.Frag) (mg : Str → Option Value) (base : Heap) (cA cB cC : Addr) (sp : SpP) (k : Nat) : Prop where
  S : SortR P w K mg base sp k
  mA : mg "WrongValue" = some (.ref cA)
  mB : mg "WrongName" = some (.ref cB)
  mC : mg "NotPossible" = some (.ref cC)
  ex : ∃ (g : Addr) (st : Stmt) (fd : FuncData) (j1 j2 : Nat) (p1 p2 p3 p4 p5 p6 p7 p8 p9 p10 p11 p12 p13 p14 p15 p16 p17 p18 : Pos), Fun K "_law_answer" "_law_answer" st g fd ∧ Binds K fd ["_law_call_here"] [] ∧ mg "_law_answer" = some (.ref g) ∧ PySem.W.keepIn K (.ref g) = true ∧
    FnScope ansN ["_law_call_here"] (defScope st) ∧ ((defScope st).names.lookup ("_law_call_here" : Str) = some NameKind.local ∧ (defScope st).names.lookup ("_law_got" : Str) = some NameKind.local ∧ (defScope st).names.lookup ("_law_e" : Str) = some NameKind.local) ∧
    ((defScope st).names.lookup ("WrongValue" : Str) = some .globalImplicit ∧ (defScope st).names.lookup ("WrongName" : Str) = some .globalImplicit ∧ (defScope st).names.lookup ("NotPossible" : Str) = some .globalImplicit ∧ (defScope st).names.lookup ("_law_sort" : Str) = some .globalImplicit) ∧
    defBody st = [.Try [.Assign [.Name "_law_got" p1] (.Call (.Name "_law_call_here" p2) [] [] p3) p4] [.ExceptHandler (some (.Tuple [.Name "WrongValue" p5, .Name "WrongName" p6, .Name "NotPossible" p7] j1 p8)) (some "_law_e") [.Return (some (.Call (.Name "_law_sort" p9) [.Name "_law_e" p10] [] p11)) p12] p13] [] [] p14,
      .Return (some (.List [.Constant (.str "back") j2 p15, .Name "_law_got" p16] p17)) p18]
/-- _law_answer(lambda: body) -/
theorem pe_ans {X : Cx} {cA cB cC c Pt : Addr} {sp : SpP} {k kS : Nat} {T : List (Addr × Str)} {params : Arguments} {body : Expr} {scope : Scope} {t : XK → TE} {p lpos pos : Pos} (Z : AnsR X.prog X.w X.K X.mg X.base cA cB cC sp kS) (hk : kS ≤ k + 1) (hgd : X.A.guards = some []) (hr : Room (k + 2) X.A) (hg : Gl X "_law_answer")
    (TB : TabB X.base X.mg c Pt) (hcode : X.env.code = .ref c) (hmT : (Pt, X.env.qual ++ "<lambda>") ∈ T) (hu : ∀ p ∈ T, p.1 = Pt → p.2 = X.env.qual ++ "<lambda>") (L : LamS X.env.scope scope) (hdef : defaultsOf params X.env = ([], []))
    (hbind : ∀ (q : Str) (cl : List (Str × Addr)) (pm cv ctv : Value), bindArgs (PySem.W.kla_fn "<lambda>" q params body scope cl pm cv ctv) ⟨[], []⟩ = pure [])
    (hbody : ∀ (A : Around) (outer : List Env) (s : Shared) (H : Hp) (E : XK) (f c' : Addr), Room k (A.deeper (lamEnv X scope s.heap.objs.size f c')) → PE (lamCx X A outer s H E scope f c') body (t E)) :
    PE X (.Call (.Name "_law_answer" p) [.Lambda params body scope lpos] [] pos) (tLam T (TTans X.K (.ref cA) (.ref cB) (.ref cC) sp) t) := by
  obtain ⟨g, st, fd, j1, j2, p1, p2, p3, p4, p5, p6, p7, p8, p9, p10, p11, p12, p13, p14, p15, p16, p17, p18, F, b, m, kp, Sg, ⟨v0, v1, v2⟩, ⟨gA, gB, gC, gS⟩, hbg⟩ := Z.ex
  obtain ⟨oc, od, kV, doc, pm, an, cdv, ct, osl, efd, hlk, hcodeA⟩ := F.ex
  subst efd
  rw [hbg] at hlk b
  exact pe_lamcall (bg := _) (k := k) (a := "_law_call_here") (Ng := ansN) hg m kp hlk hcodeA b Sg rfl (.inl v0) (ans_gives (k := k + 1) hgd hr ⟨by
    obtain ⟨f1, fd1, F1, r1⟩ := Z.S.ex
    exact ⟨f1, fd1, ⟨F1.many, fun A out s H ar us vs Q p D dd h1 h2 => F1.goes A out s H ar us vs Q p D dd h1 (h2.mono hk)⟩, r1⟩⟩ Sg Z.mA Z.mB Z.mC v1 v2 gA gB gC gS) TB hcode hmT hu hr L hdef hbind hbody
end
end Lamp
set_option Elab.async false
set_option linter.all false
set_option maxRecDepth 100000
set_option maxHeartbeats 1000000
namespace Lamp
open PySem PySem.Spec PyProof.Rows L2 LamX
/-! defs that may raise: called by name, within one that lets it out, or within a lambda -/
structure DrX (P : Program) (w : World) (K : PySem.W.Frag) (mg : Str → Option Value) (base : Heap) (sp : Sp) (x : Str) (ps : List Str) (k : Nat) : Prop where
  ex : ∃ (f : Addr) (fd : FuncData), FnOk P w K mg base (L2.CX P w) k f fd ps sp ∧ Binds K fd ps [] ∧ mg x = some (.ref f) ∧ PySem.W.keepIn K (.ref f) = true
def tCallX (sp : Sp) (E : XK) (ta : TA) : TE := fun σ H Q => ta σ H fun vs H1 => sp vs H1 Q E
theorem pe_drX {X : Cx} {sp : Sp} {x : Str} {ps : List Str} {k j : Nat} {e : Expr} {es : List Expr} {t : TA} {p pos : Pos} {E : XK} (Z : DrX X.prog X.w X.K X.mg X.base sp x ps k) (hk : k ≤ j) (hr : Room j X.A) (hg : Gl X x) (hx : Passes (L2.CX X.prog X.w) X E) (ha : PA X (e :: es) t) (hdb : (x == ("__debug__" : Str)) = false := by decide)
    (he : starEach (e :: es) X.env = (false, eval e X.env) :: starEach es X.env := by rfl) (hpl : (backTo pos (starEach es X.env)).any (·.1) = false := by rfl) : PE X (.Call (.Name x p) (e :: es) [] pos) (tCallX sp E t) := by
  obtain ⟨f, fd, F, b, m, kp⟩ := Z.ex
  have z := pe_call (pos := pos) (p := p) F (hr.mono hk) hg m kp b .nil hx ha hdb he hpl
  refine ⟨fun pins s σ H Q I h => z.run pins s σ H Q I ?_⟩
  unfold tCall
  simp only [List.append_nil]
  exact h
/-- what is let out by a callee is let out -/
theorem passes_on {X : Cx} {E : XK} (tk : Takes X (fun cls d _ H => E cls d H)) : Passes (L2.CX X.prog X.w) X E := passes_call tk fun _ _ _ _ h => h
theorem raise_run {X : Cx} {C : Addr} {f : Str} {te : TE} {σ : L2.St} {H : Hp} {y : V} {Q : XK} (h : Val te σ H y) (hs : ∀ a, H a = none → Fr0 X.H_0 a) (rs : Raises X (.ref C)) (k : ∀ dx H', Same H H' → H' dx = some (exd dx [(f, y)]) → Q (.ref C) (some dx) H') :
    tMkE C f te σ H fun x H1 => ∃ (a C' : Addr) (d : Option Addr), x = .ref a ∧ H1 a = some (exo a C' d) ∧ Fr0 X.H_0 a ∧ Raises X (.ref C') ∧ Q (.ref C') d (delH H1 a) := by
  refine h _ fun a dx na nd ne => ⟨a, C, some dx, rfl, upd_same, hs a na, rs, k dx _ (fun b o e => ?_) ?_⟩
  · rw [delH_ne (ne_of_none e na), upd_ne (ne_of_none e na), upd_ne (ne_of_none e nd), upd_ne (ne_of_none e na)]
    exact e
  · rw [delH_ne ne, upd_ne ne, upd_same]
theorem xc_raises {X : Cx} {x f : Str} {C : Addr} (Z : XC X.prog X.w X.K X.mg C x f) (ty : PySem.W.typeIn X.K (.ref C) = some (.type "type")) : Raises X (.ref C) := by
  obtain ⟨B, n, i, t, T⟩ := Z.T
  exact raises_ec T ty
end Lamp
set_option Elab.async false
set_option linter.all false
set_option maxRecDepth 100000
set_option maxHeartbeats 1000000
namespace Lamp
open PySem PySem.Spec PyProof.Rows L2
abbrev sCkLv : Stmt := top 28
def spCkLv : Sp := fun vs H Q _ => ∃ lv : Int, vs = [.int lv] ∧ goodLv lv ∧ Q .non H
section
variable {P : Program} {w : World} {K : PySem.W.Frag} {mg : Str → Option Value} {base : Heap}
theorem scCkLv : FnScope ["value"] ["value"] (defScope sCkLv) := ⟨rfl, rfl, rfl, by decide +kernel, rfl, by decide +kernel, by decide +kernel⟩
theorem ok_ckLv {f : Addr} {fd : FuncData} (F : Fun K "check_levels" "check_levels" sCkLv f fd) (Il : Dr P w K mg base spIsLevels "is_levels" ["value"] 2) : FnOk P w K mg base CX0 3 f fd ["value"] spCkLv := by
  refine F.ok scCkLv (fun vs H Q E h => ?_) (fun cdv A outer s H vs Q E hr h => ?_)
  · obtain ⟨lv, rfl, _⟩ := h
    rfl
  · obtain ⟨lv, rfl, hg, q⟩ := h
    refine ⟨_, pss_one (ps_if (pt_not (pt_val (pe_dr Il (by decide) hr rfl (pa_cons (pv 0) pa_nil)))) pss_never pss_nil), ?_⟩
    exact st_no (ans_not (b := true) (ans_val fun Q q => ⟨_, rfl, lv, rfl, hg, q⟩)) q
end
end Lamp
set_option Elab.async false
set_option linter.all false
set_option maxRecDepth 100000
set_option maxHeartbeats 1000000
namespace Lamp
open PySem PySem.Spec PyProof.Rows L2
/-! enumerate of a text -/
theorem draws_text {prog : Program} {w : World} {A : Around} (hh : A.handled = none) (it : Addr) (x : Str) (t : Tok) :
    Draws prog w A it [it] x.cps.size (fun i v => ∃ c u, x.cps[i]? = some c ∧ v = .str ⟨#[c]⟩ u) (fun i h => h.IsStrIter it (PySem.strIterType x) x t i) := by
  unfold PySem.strIterType
  split
  · exact Draws.strAscii hh it x t
  · exact Draws.strWide hh it x t
theorem text_ends {prog : Program} {w : World} {A : Around} {s : Shared} {E : Value → Shared → Prop} {it : Addr} {x : Str} {t : Tok} {i : Nat} {Q : Value → Shared → Prop} (hh : A.handled = none) (hit : s.heap.IsStrIter it (PySem.strIterType x) x t i) (hx : x.cps[i]? = none)
    (hE : ∀ h' e, Heap.ExtBut it s.heap h' → (∃ o, h'.get? e = some o ∧ o.cls = .type "StopIteration") → E (.ref e) { s with heap := h' }) : wpAny (model prog w) A (Builtin.SmallTypes.nextOf (.ref it)) Q E s := by
  unfold PySem.strIterType at hit
  split at hit
  · exact wpAny_nextOf_ascii_end hh hit hx hE
  · exact wpAny_nextOf_wide_end hh hit hx hE
/-- the pairs of index and sign -/
def Itx (x : Str) : It where
  go i _ := i < x.cps.size
  yld i H v H' := ∃ T c, v = .ref T ∧ H T = none ∧ H' = upd H T (.tup [.int (i : Nat), .str ⟨#[c]⟩]) ∧ x.cps[i]? = some c
  stop i _ := x.cps.size ≤ i
theorem turn_enumS {P : Program} {w : World} {K : PySem.W.Frag} {parts : List Expr} {n : Nat} {at_ : Pos} (x : Str) (t : Tok) (e it : Addr) :
    L2.Turn P w K (.Tuple parts n at_) (Itx x) [e, it] e (fun i h => (∃ old, IsEnum h e it ((i : Nat) : Int) old) ∧ h.IsStrIter it (PySem.strIterType x) x t i ∧ e ≠ it) where
  mem := List.mem_cons_self ..
  obj := fun i h st b hb => by
    obtain ⟨⟨old, he⟩, ⟨o, ho, hc, hd⟩, _⟩ := st
    rcases (by simpa using hb : b = e ∨ b = it) with z | z
    · rw [z]; exact ⟨_, he, fun v q => nomatch q⟩
    · rw [z]; exact ⟨o, ho, fun v q => by rw [hd] at q; cases q⟩
  keep := fun i h h' st k => ⟨let ⟨old, he⟩ := st.1; ⟨old, k e (by simp) _ he⟩, let ⟨o, ho, r⟩ := st.2.1; ⟨o, k it (by simp) o ho, r⟩, st.2.2⟩
  item := by
    intro X hP hw hK hc i pins s σ H E I hf st hg
    subst hP hw hK
    obtain ⟨⟨old, he⟩, hit, hne⟩ := st
    have le : e < s.heap.objs.size := Heap.lt_size he
    have li : it < s.heap.objs.size := by obtain ⟨_, q, _⟩ := hit; exact Heap.lt_size q
    have D := draws_text (prog := X.prog) (w := X.w) (A := X.A.in1) (I.ok.hd hc) it x t
    refine wpAny_pyNext_enum_itemD D he hit hg hne (by simpa using hne) fun y h' tk hy ho st' hT hsz hk => ?_
    obtain ⟨c, u, hc', rfl⟩ := hy
    refine ⟨_, rfl, wpAny_letOwnedTupleGo_enum (s := { s with heap := h', toks := tk + 1 }) ho fun h2 he2 sb => ?_⟩
    have hT2 : h2.get? s.heap.objs.size = some { cls := .type "tuple", data := .seq #[.int i tk, .str ⟨#[c]⟩ u] } := (sb.2 _ (Nat.ne_of_gt le)).trans hT
    have made : ObjOk X.prog X.w (upd H s.heap.objs.size (.tup [.int (i : Nat), .str ⟨#[c]⟩])) h2 s.heap.objs.size (.tup [.int (i : Nat), .str ⟨#[c]⟩]) :=
      ⟨by show 2 ≤ sizeLine; decide, [.int i tk, .str ⟨#[c]⟩ u], .cons ⟨_, rfl⟩ (.cons ⟨_, rfl⟩ .nil), ⟨_, hT2, rfl, _, rfl⟩⟩
    have I1 : Inv X pins σ (upd H s.heap.objs.size (.tup [.int (i : Nat), .str ⟨#[c]⟩])) { s with heap := h2, toks := tk + 1 } :=
      I.turnedNew (ch := [e, it]) (fun b ob hb q => (sb.2 b (fun z => hb (by simp [z]))).trans (hk b ob (fun z => hb (by simp [z])) (fun z => hb (by simp [z])) q)) hf (Nat.le_refl _) made
    refine ⟨.ref s.heap.objs.size, _, I1, rfl, ⟨_, c, rfl, I.hok.fresh (Nat.le_refl _), rfl, hc'⟩, ⟨⟨.str ⟨#[c]⟩ u, ?_⟩, let ⟨o, ho, r⟩ := st'; ⟨o, (sb.2 it (Ne.symm hne)).trans ho, r⟩, hne⟩, fun b hb => ?_⟩
    · rw [show ((i + 1 : Nat) : Int) = (i : Int) + 1 by omega]
      exact he2
    · have lb : b < s.heap.objs.size := by
        rcases (by simpa using hb : b = e ∨ b = it) with z | z
        · rw [z]; exact le
        · rw [z]; exact li
      rw [upd_ne (Nat.ne_of_lt lb)]
      exact (hf b hb).1
  done := by
    intro X hP hw hK hc i pins s σ H E I hf st hg
    subst hP hw hK
    obtain ⟨⟨old, he⟩, hit, hne⟩ := st
    obtain ⟨f0, f1, f2, f3, f4, f5⟩ := hf it (by simp)
    have hx : x.cps[i]? = none := Array.getElem?_eq_none hg
    unfold pyNext
    refine wpAny_bind (wpAny_attempt (wpAny_callSpecial?_slot (name := Str.ofString "__next__") ⟨_, he, rfl⟩ F.slot_enumerate_next
      (wpAny_call_entry F.slot_enumerate_next ⟨_, he, rfl⟩ F.entry_enumerate_next ?_ (F.args_enumerate_next_1 _))))
    show wpAny _ _ (field (.ref e) 2 >>= _) _ _ _
    refine wpAny_bind (wpAny_field he rfl (x := .ref it) rfl ?_)
    refine wpAny_bind (text_ends (I.ok.hd hc) hit hx fun h' ex eb so => ?_)
    obtain ⟨o, ho, hcs⟩ := so
    refine wpAny_bind (wpAny_isInstance (T := "StopIteration") (b := true) ⟨o, ho, hcs⟩ isSubtype_stop ?_)
    exact wpAny_pure ⟨rfl, I.turned (t' := s.toks) (fun b o hb q => eb b o hb q) f0 f1 f3 f4 f5⟩
  self := fun A i s Q E st h => let ⟨⟨_, he⟩, _⟩ := st; wpAny_pyIter_enum he h
def iEnumS (ta : TA) : TI := fun σ H R => ta σ H fun vs H1 => ∃ x, vs = [.str x] ∧ R (Itx x) H1
theorem pi_enumS {X : Cx} {e : Expr} {ta : TA} {p pos at_ : Pos} {parts : List Expr} {n : Nat} (hg : Gl X "enumerate") (hm : X.mg "enumerate" = none) (ha : PA X [e] ta) (hs : starEach [e] X.env = [(false, eval e X.env)] := by rfl) :
    PI X (.Tuple parts n at_) (.Call (.Name "enumerate" p) [e] [] pos) (iEnumS ta) := by
  refine ⟨fun pins s σ H R I h => ?_⟩
  refine Call_ (ld_blt I hg hm boot_enumerate (PyProof.Rows.callWith_type1 (thn (ha.run pos pins s σ H _ I h) fun us s1 ⟨vs, H1, I1, r1, x, ex, q⟩ => ?_) hs rfl))
  subst ex
  cases r1 with
  | cons r rr =>
    cases rr
    obtain ⟨t, rfl⟩ := r
    refine enum_call (begins_text x t) trivial fun h' he hi hk => wpAny_pyIter_enum he ?_
    have I2 : Inv X pins σ H1 { s1 with heap := h' } := I1.kept (t' := s1.toks) hk
    refine ⟨s1.heap.objs.size + 1, [s1.heap.objs.size + 1, s1.heap.objs.size], _, _, H1, rfl, I2, turn_enumS x t (s1.heap.objs.size + 1) s1.heap.objs.size, ⟨⟨.none, he⟩, ⟨_, hi, rfl, rfl⟩, Nat.succ_ne_self _⟩, fun b hb => ?_, q⟩
    have lb : s1.heap.objs.size ≤ b := by
      rcases (by simpa using hb : b = s1.heap.objs.size + 1 ∨ b = s1.heap.objs.size) with z | z
      · rw [z]; exact Nat.le_add_right _ _
      · rw [z]; exact Nat.le_refl _
    exact I1.fpOk lb (I1.hok.fresh lb)
/-- for i, c in enumerate(text): the body told by what holds ahead of each turn -/
theorem for_enumS {x : Str} {g : TG} {tb : TS} {D : Ends} {σ : L2.St} {H : Hp} (Pv : Nat → L2.St → Hp → Prop) (h0 : Pv 0 σ H)
    (hs : ∀ i c σ H T, x.cps[i]? = some c → Pv i σ H → H T = none → g (.ref T) σ (upd H T (.tup [.int (i : Nat), .str ⟨#[c]⟩])) fun σ2 H2 => tb { D with nx := Pv (i + 1), ct := Pv (i + 1), bk := D.nx } σ2 H2) (hd : ∀ σ H, Pv x.cps.size σ H → D.nx σ H) :
    ∃ W : Nat → Nat → L2.St → Hp → Prop, (∃ m, W 0 m σ H) ∧ ∀ i m σ H, W i m σ H →
      ((Itx x).stop i H ∧ D.nx σ H) ∨ ((Itx x).go i H ∧ ∃ N : L2.St → Hp → Prop, (∀ σ' H', N σ' H' → ∃ m', m' < m ∧ W (i + 1) m' σ' H') ∧ ∀ v H', (Itx x).yld i H v H' → g v σ H' fun σ2 H2 => tb { D with nx := N, ct := N, bk := D.nx } σ2 H2) := by
  refine ⟨fun i m σ H => m + i = x.cps.size ∧ Pv i σ H, ⟨x.cps.size, rfl, h0⟩, fun i m σ H z => ?_⟩
  obtain ⟨hm, p⟩ := z
  cases m with
  | zero =>
    have e : i = x.cps.size := by omega
    subst e
    exact .inl ⟨Nat.le_refl _, hd _ _ p⟩
  | succ m =>
    refine .inr ⟨(by show i < x.cps.size; omega), Pv (i + 1), fun σ' H' p' => ⟨m, Nat.lt_succ_self _, by omega, p'⟩, fun v H' y => ?_⟩
    obtain ⟨T, c, rfl, hT, rfl, hx⟩ := y
    exact hs i c σ H T hx p hT
/-- for c in text: .. -/
theorem for_str {x : Str} {g : TG} {tb : TS} {D : Ends} {σ : L2.St} {H : Hp} (Pv : Nat → L2.St → Hp → Prop) (h0 : Pv 0 σ H)
    (hs : ∀ i c σ H, x.cps[i]? = some c → Pv i σ H → g (.str ⟨#[c]⟩) σ H fun σ2 H2 => tb { D with nx := Pv (i + 1), ct := Pv (i + 1), bk := D.nx } σ2 H2) (hd : ∀ σ H, Pv x.cps.size σ H → D.nx σ H) :
    ∃ W : Nat → Nat → L2.St → Hp → Prop, (∃ m, W 0 m σ H) ∧ ∀ i m σ H, W i m σ H →
      ((Its x).stop i H ∧ D.nx σ H) ∨ ((Its x).go i H ∧ ∃ N : L2.St → Hp → Prop, (∀ σ' H', N σ' H' → ∃ m', m' < m ∧ W (i + 1) m' σ' H') ∧ ∀ v H', (Its x).yld i H v H' → g v σ H' fun σ2 H2 => tb { D with nx := N, ct := N, bk := D.nx } σ2 H2) := by
  refine ⟨fun i m σ H => m + i = x.cps.size ∧ Pv i σ H, ⟨x.cps.size, rfl, h0⟩, fun i m σ H z => ?_⟩
  obtain ⟨hm, p⟩ := z
  cases m with
  | zero =>
    have e : i = x.cps.size := by omega
    subst e
    exact .inl ⟨Nat.le_refl _, hd _ _ p⟩
  | succ m =>
    refine .inr ⟨(by show i < x.cps.size; omega), Pv (i + 1), fun σ' H' p' => ⟨m, Nat.lt_succ_self _, by omega, p'⟩, fun v H' y => ?_⟩
    obtain ⟨rfl, c, hx, rfl⟩ := y
    exact hs i c σ _ hx p
end Lamp
set_option Elab.async false
set_option linter.all false
set_option maxRecDepth 100000
set_option maxHeartbeats 1000000
namespace Lamp
open PySem PySem.Spec PyProof.Rows L2
open TL (tl)
abbrev sWSign : Stmt := top 37
abbrev sWalked : Stmt := top 38
/-! rows of steps, walked -/
def IsSign (c : Nat) : Prop := c = 60 ∨ c = 62 ∨ c = 43
def Signs (x : Str) : Prop := ∀ c ∈ tl x, IsSign c
def walkF (s : Int × List (Int × Int)) (c : Nat) : Int × List (Int × Int) := if c = 43 then (s.1, s.2 ++ [(s.1, 1)]) else (if c = 62 then (s.1 + 1, s.2) else (s.1 + -1, s.2))
def walkL (cs : List Nat) : Int × List (Int × Int) := cs.foldl walkF (0, [])
theorem walkL_snoc {cs : List Nat} {i : Nat} {c : Nat} (h : cs[i]? = some c) : walkL (cs.take (i + 1)) = walkF (walkL (cs.take i)) c := by
  unfold walkL
  rw [List.take_add_one, h, List.foldl_append]
  rfl
theorem walkL_len : ∀ (cs : List Nat) (i : Nat), (walkL (cs.take i)).2.length ≤ i
  | cs, 0 => by rw [List.take_zero]; exact Nat.le_refl _
  | cs, i + 1 => by
    have ih := walkL_len cs i
    cases e : cs[i]? with
    | none =>
      have l := List.getElem?_eq_none_iff.mp e
      rw [List.take_of_length_le (by omega), ← List.take_of_length_le l]
      omega
    | some c =>
      rw [walkL_snoc e]
      unfold walkF
      split
      · show ((walkL (cs.take i)).2 ++ _).length ≤ _
        rw [List.length_append]
        show _ + 1 ≤ _
        omega
      · split <;> (show (walkL (cs.take i)).2.length ≤ _; omega)
theorem walkL_one : ∀ (cs : List Nat) (i : Nat), ∀ q ∈ (walkL (cs.take i)).2, q.2 = 1
  | cs, 0 => by rw [List.take_zero]; exact fun q h => (nomatch h)
  | cs, i + 1 => by
    have ih := walkL_one cs i
    cases e : cs[i]? with
    | none =>
      have l := List.getElem?_eq_none_iff.mp e
      rw [List.take_of_length_le (by omega), ← List.take_of_length_le l]
      exact ih
    | some c =>
      rw [walkL_snoc e]
      unfold walkF
      split
      · intro q hq
        rcases List.mem_append.mp hq with h | h
        · exact ih q h
        · simp only [List.mem_cons, List.not_mem_nil, or_false] at h
          rw [h]
      · split <;> exact ih
theorem walkL_far : ∀ (cs : List Nat) (i : Nat), -(i : Int) ≤ (walkL (cs.take i)).1 ∧ (walkL (cs.take i)).1 ≤ (i : Int)
  | cs, 0 => by rw [List.take_zero]; exact ⟨by decide, by decide⟩
  | cs, i + 1 => by
    have ih := walkL_far cs i
    cases e : cs[i]? with
    | none =>
      have l := List.getElem?_eq_none_iff.mp e
      rw [List.take_of_length_le (by omega), ← List.take_of_length_le l]
      omega
    | some c =>
      rw [walkL_snoc e]
      unfold walkF
      split
      · show _ ≤ (walkL (cs.take i)).1 ∧ (walkL (cs.take i)).1 ≤ _
        omega
      · split
        · show _ ≤ (walkL (cs.take i)).1 + 1 ∧ (walkL (cs.take i)).1 + 1 ≤ _
          omega
        · show _ ≤ (walkL (cs.take i)).1 + -1 ∧ (walkL (cs.take i)).1 + -1 ≤ _
          omega
def spWSign : Sp := fun vs H Q _ => ∃ x : Str, vs = [.str x] ∧ Signs x ∧ (tl x).length ≤ 4000 ∧ ∀ H', Same H H' → Q .non H'
def spWalked (K : PySem.W.Frag) (C : Addr) : Sp := fun vs H Q _ => ∃ (lv : Int) (x : Str), vs = [.int lv, .str x] ∧ goodLv lv ∧ Signs x ∧ (tl x).length ≤ 4000 ∧
  ((walkL (tl x)).2.length ≤ 400 ∨ ∀ ms, Rising lv ms → (∀ p, sumAt ms p = partsAt [⟨(walkL (tl x)).2, 0, 1⟩] p % lv) → ms.length ≤ 400) ∧
  ∀ (r : Addr) (ms : List (Int × Int)) H', Same H H' → RndW K C H' r lv (walkL (tl x)).1 ms → (∀ p, sumAt ms p = partsAt [⟨(walkL (tl x)).2, 0, 1⟩] p % lv) → ms.length ≤ (walkL (tl x)).2.length → Q (.ref r) H'
section
variable {P : Program} {w : World} {K : PySem.W.Frag} {mg : Str → Option Value} {base : Heap} {C : Addr}
theorem scWSign : FnScope ["row", "index", "sign"] ["row"] (defScope sWSign) := ⟨rfl, rfl, rfl, by decide +kernel, rfl, by decide +kernel, by decide +kernel⟩
theorem scWalked : FnScope ["levels", "steps", "index", "place", "presses", "sign"] ["levels", "steps"] (defScope sWalked) := ⟨rfl, rfl, rfl, by decide +kernel, rfl, by decide +kernel, by decide +kernel⟩
theorem sign_in {c : Nat} (h : IsSign c) : inV (V.str ⟨#[c]⟩) [.str "<", .str ">", .str "+"] = true := by
  rcases h with rfl | rfl | rfl <;> decide
theorem sign_of {c d : Nat} (e : V.str ⟨#[c]⟩ = V.str ⟨#[d]⟩) : c = d := by
  have e1 := V.str.inj e
  have e2 := congrArg Str.cps e1
  simpa using e2
theorem ok_wsign {f aS : Addr} {fd : FuncData} {t1 : Tok} (F : Fun K "wrong_sign" "wrong_sign" sWSign f fd) (mS : mg "SIGNS" = some (.ref aS)) (three : ∀ H, SqT K H aS [.str "<", .str ">", .str "+"]) (mMS : mg "MOST_STEPS" = some (.int 4000 t1)) (me : mg "enumerate" = none) : FnOk P w K mg base CX0 1 f fd ["row"] spWSign := by
  refine F.ok scWSign (fun vs H Q E h => ?_) (fun cdv A outer s H vs Q E hr h => ?_)
  · obtain ⟨x, rfl, _⟩ := h
    rfl
  · obtain ⟨x, rfl, hs, hl, q⟩ := h
    refine ⟨_, pss_cons (ps_for PassesOwn.never rfl (pi_enumS rfl me (pa_cons (pv 0) pa_nil)) (pg_tup rfl (pgs_cons (pg_name (i := 1) scWSign.nd rfl (.inl rfl)) (pgs_cons (pg_name (i := 2) scWSign.nd rfl (.inl rfl)) pgs_nil)))
        (pss_one (ps_if (PW.pt (pw_or (pt_cmpR op_notIn_seq (pv 2) (pe_glob (v := .ref aS) rfl mS rfl) (by rfl)) (pw_or1 (pt_cmpR op_eq (pv 1) (pe_glob (v := .int 4000) rfl mMS ⟨_, rfl⟩) (nomark _))))) pss_never pss_nil)))
      (pss_one (ps_ret pe_non)), ?_⟩
    have hsz : x.cps.size = (tl x).length := rfl
    refine ⟨_, rfl, x, rfl, for_enumS (fun i σ H' => ∃ a b, σ = [some (.str x), a, b] ∧ Same H H') ⟨_, _, rfl, Same.refl H⟩ (fun i c σ H' T hx z hT => ?_) (fun σ H' z => ?_)⟩
    · obtain ⟨a, b, rfl, s1⟩ := z
      have hi : i < x.cps.size := (Array.getElem?_eq_some_iff.mp hx).1
      have hc : IsSign c := hs c (List.mem_of_getElem? (i := i) (by rw [show tl x = x.cps.toList from rfl, Array.getElem?_toList]; exact hx))
      have s2 := s1.trans (same_of (o := .tup [V.int (i : Nat), V.str ⟨#[c]⟩]) hT)
      refine ⟨T, _, rfl, SqT.of upd_same, rfl, _, _, rfl, _, _, rfl, rfl, ?_⟩
      refine st_no (ans_or (ans_cmp (val_var rfl) val_c fun Q q => ⟨aS, _, rfl, .inr (three _), rfl, by decide, by rw [sign_in hc]; exact q⟩) (ans_eq (val_var rfl) val_c rfl (decide_eq_false (fun e => by have := V.int.inj e; omega)))) ?_
      exact ⟨_, _, rfl, s2⟩
    · obtain ⟨a, b, rfl, s1⟩ := z
      exact q H' s1
theorem ok_walked {f : Addr} {fd : FuncData} (F : Fun K "walked" "walked" sWalked f fd) (Cl : Dr P w K mg base spCkLv "check_levels" ["value"] 3) (Ws : Dr P w K mg base spWSign "wrong_sign" ["row"] 1) (To : Dr P w K mg base (spTotalL K) "total" ["levels", "parts"] 1) (Ro : Dr P w K mg base (spRol K C) "round_of_lamps" ["levels", "lamps", "end"] 6) (mis : mg "isinstance" = none) (ms : mg "str" = none) : FnOk P w K mg base CX0 7 f fd ["levels", "steps"] (spWalked K C) := by
  refine F.ok scWalked (fun vs H Q E h => ?_) (fun cdv A outer s H vs Q E hr h => ?_)
  · obtain ⟨lv, x, rfl, _⟩ := h
    rfl
  · obtain ⟨lv, x, rfl, hg, hs, hl, few, q⟩ := h
    refine ⟨_, pss_cons (ps_expr (pe_dr Cl (by decide) hr rfl (pa_cons (pv 0) pa_nil)))
      (pss_cons (ps_if (pt_not (pt_val (pe_callB call_isi (by rfl) mis (by decide +kernel) (pa_cons (pv 1) (pa_cons (pe_bltn (v := .ty "str") (by rfl) ms (by decide +kernel) rfl) pa_nil))))) pss_never pss_nil)
      (pss_cons (ps_set (i := 2) scWalked.nd rfl (.inl rfl) (pe_dr Ws (by decide) hr rfl (pa_cons (pv 1) pa_nil)))
      (pss_cons (ps_if (pt_cmpR op_notN1 (pv 2) pe_non (nomark _)) pss_never pss_nil)
      (pss_cons (ps_set (i := 3) scWalked.nd rfl (.inl rfl) pe_int)
      (pss_cons (ps_set (i := 4) scWalked.nd rfl (.inl rfl) (pe_lst pa_nil))
      (pss_cons (ps_for PassesOwn.never rfl (pi_str (pv 1)) (pg_name (i := 5) scWalked.nd rfl (.inl rfl))
        (pss_one (ps_if (pt_cmpR op_eq (pv 5) pe_str (nomark _)) (pss_one (ps_expr (pe_bm PySem.F.plainAttrs_list PySem.F.slot_list_append PySem.F.type_list_append mt_append (pv 4) (pa_cons (pe_tup (pa_cons (pv 3) (pa_cons pe_int pa_nil))) pa_nil))))
          (pss_one (ps_aug (i := 3) scWalked.nd rfl (.inl rfl) (pe_ifExp (pt_cmpR op_eq (pv 5) pe_str (nomark _)) pe_int (pe_un un_neg pe_int)) ip_add)))))
      (pss_one (ps_ret (pe_dr Ro (by decide) hr rfl (pa_cons (pv 0) (pa_cons (pe_dr To (by decide) hr rfl (pa_cons (pv 0) (pa_cons (pe_tup (pa_cons (pe_tup (pa_cons (pv 4) (pa_cons pe_int (pa_cons pe_int pa_nil)))) pa_nil)) pa_nil))) (pa_cons (pv 3) pa_nil)))))))))))), ?_⟩
    refine ⟨_, rfl, lv, rfl, hg, ?_⟩
    dsimp only
    refine sq_no (ans_not (b := true) (ans_val fun Q q => ⟨_, rfl, isi_ss q⟩)) ?_
    refine ⟨_, rfl, x, rfl, hs, hl, fun H1 s1 => ?_⟩
    dsimp only [gName]
    refine sq_no (ans_notN (x := .non) (val_var rfl) (by rw [decide_eq_true rfl]; rfl)) ?_
    refine sq_set (v := .int 0) val_c ?_
    refine ⟨(by show 0 ≤ sizeLine; decide), fun l nl => ?_⟩
    have hsz : x.cps.size = (tl x).length := rfl
    have sl := same_of (o := .lst []) nl
    refine ⟨_, rfl, x, rfl, for_str (fun i σ' H' => Same H1 H' ∧ ∃ x5 as, σ' = [some (.int lv), some (.str x), some .non, some (.int (walkL ((tl x).take i)).1), some (.ref l), x5] ∧ H' l = some (.lst (as.map V.ref)) ∧ Paired (fun a (q : Int × Int) => H' a = some (.tup [.int q.1, .int q.2])) as (walkL ((tl x).take i)).2)
      ⟨sl, none, [], rfl, by rw [upd_same]; rfl, .nil⟩ (fun i c σ' H' hx z => ?_) (fun σ' H' z => ?_)⟩
    · obtain ⟨s2, x5, as, rfl, hl', hp⟩ := z
      have hi : i < x.cps.size := (Array.getElem?_eq_some_iff.mp hx).1
      have hx2 : (tl x)[i]? = some c := by rw [show tl x = x.cps.toList from rfl, Array.getElem?_toList]; exact hx
      have hc : IsSign c := hs c (List.mem_of_getElem? hx2)
      have wl := walkL_len (tl x) i
      rw [walkL_snoc hx2]
      unfold walkF
      by_cases h43 : c = 43
      · subst h43
        rw [if_pos rfl]
        refine st_yes (ans_eq (val_var rfl) val_c rfl (decide_eq_true (by decide))) ?_
        refine ⟨_, rfl, .inl ⟨rfl, _, SqL.of hl'⟩, _, rfl, (by show 2 ≤ sizeLine; decide), fun t nt => ?_⟩
        have tl' : t ≠ l := fun z => by rw [z, hl'] at nt; cases nt
        have s3 := same_of (o := .tup [V.int (walkL ((tl x).take i)).1, V.int 1]) nt
        refine ⟨l, _, _, rfl, rfl, s3 _ _ hl', ?_, ?_⟩
        · rw [List.length_map, Paired.length hp, sizeLine_eq]
          omega
        · refine ⟨same_at (s2.trans s3) nl, _, as ++ [t], rfl, by rw [upd_same, List.map_append]; rfl, paired_app (L2.Paired.mapP hp fun a q z => ?_) (.cons ?_ .nil)⟩
          · rw [upd_ne (fun k => by rw [k, hl'] at z; cases z)]
            exact s3 _ _ z
          · rw [upd_ne tl', upd_same]
      · rw [if_neg h43]
        refine st_no (ans_eq (val_var rfl) val_c rfl (decide_eq_false (fun e => h43 ?_))) ?_
        · exact sign_of e
        · refine ⟨_, rfl, ?_⟩
          by_cases h62 : c = 62
          · subst h62
            rw [if_pos rfl]
            refine lv_if (b := true) (ans_eq (val_var rfl) val_c rfl (decide_eq_true (by decide))) (fun _ => val_c) (fun z => Bool.noConfusion z) _ ⟨_, _, rfl, rfl, ?_⟩
            exact ⟨s2, _, as, rfl, hl', hp⟩
          · rw [if_neg h62]
            refine lv_if (b := false) (ans_eq (val_var rfl) val_c rfl (decide_eq_false (fun e => h62 (sign_of e)))) (fun z => Bool.noConfusion z) (fun _ => (fun Q q => ⟨1, rfl, q⟩)) _ ⟨_, _, rfl, rfl, ?_⟩
            exact ⟨s2, _, as, rfl, hl', hp⟩
    · obtain ⟨s2, x5, as, rfl, hl', hp⟩ := z
      rw [hsz, List.take_length] at hp ⊢
      dsimp only
      refine ⟨_, rfl, _, rfl, _, rfl, (by show 3 ≤ sizeLine; decide), fun r1 n1 => ⟨(by show 1 ≤ sizeLine; decide), fun pt npt => ?_⟩⟩
      have s3 := same_of (o := .tup [V.ref l, V.int 0, V.int 1]) n1
      have s4 := same_of (o := .tup [V.ref r1]) npt
      have s34 := s3.trans s4
      have wl : (walkL (tl x)).2.length ≤ 4000 := by
        have := walkL_len (tl x) (tl x).length
        rw [List.take_length] at this
        omega
      have w1 : ∀ q ∈ (walkL (tl x)).2, q.2 = 1 := by
        have := walkL_one (tl x) (tl x).length
        rw [List.take_length] at this
        exact this
      have e : partsLen [⟨(walkL (tl x)).2, 0, 1⟩] = (walkL (tl x)).2.length := by
        unfold partsLen
        rw [List.map_cons, List.map_nil, List.sum_cons, List.sum_nil]
        rfl
      refine ⟨lv, pt, [r1], [⟨(walkL (tl x)).2, 0, 1⟩], rfl, upd_same, .cons ⟨l, s4 _ _ upd_same, as, s34 _ _ hl', L2.Paired.mapP hp fun a q z => s34 _ _ z⟩ .nil, (good_pos hg).1, ?_, by omega, fun tt ms H2 s5 hpb hri hsum hlm => ?_⟩
      · intro y hy
        simp only [List.mem_cons, List.not_mem_nil, or_false] at hy
        subst hy
        intro q hq
        rw [w1 q hq]
        decide
      · have few' : ms.length ≤ 400 := by
          rcases few with h | h
          · omega
          · exact h ms hri hsum
        refine ⟨_, rfl, tt, lv, _, ms, rfl, hg, hpb.at, hri.w few', fun r H3 s6 nr hR => ?_⟩
        exact q r ms H3 (s1.trans (s2.trans (s34.trans (s5.trans s6)))) ⟨⟨tt, hR, hpb.at.same s6⟩, hg, hri.w few'⟩ hsum (by omega)
end
end Lamp
set_option Elab.async false
set_option linter.all false
set_option maxRecDepth 100000
set_option maxHeartbeats 1000000
namespace Lamp
/-! rows of steps one behind another, and taken back -/
def posL (cs : List Nat) : Int := (walkL cs).1
def prL (cs : List Nat) : List (Int × Int) := (walkL cs).2
def shiftL (s : Int) (ls : List (Int × Int)) : List (Int × Int) := ls.map fun q => (q.1 + s, q.2)
theorem shiftL_sum (s p : Int) : ∀ ls : List (Int × Int), sumAt (shiftL s ls) p = sumAt ls (p - s)
  | [] => rfl
  | q :: ls => by
    show sumAt ((q.1 + s, q.2) :: shiftL s ls) p = _
    rw [sumAt_cons, sumAt_cons, shiftL_sum s p ls]
    by_cases h : q.1 = p - s
    · rw [if_pos h, if_pos (show q.1 + s = p by omega)]
    · rw [if_neg h, if_neg (show ¬ q.1 + s = p by omega)]
theorem shiftL_shift (s t : Int) (ls : List (Int × Int)) : shiftL s (shiftL t ls) = shiftL (t + s) ls := by
  unfold shiftL
  rw [List.map_map]
  apply List.map_congr_left
  intro q _
  show (q.1 + t + s, q.2) = (q.1 + (t + s), q.2)
  rw [Int.add_assoc]
theorem wf_p (s : Int × List (Int × Int)) : walkF s 43 = (s.1, s.2 ++ [(s.1, 1)]) := by unfold walkF; rw [if_pos rfl]
theorem wf_r (s : Int × List (Int × Int)) : walkF s 62 = (s.1 + 1, s.2) := by unfold walkF; rw [if_neg (by decide), if_pos rfl]
theorem wf_l {c : Nat} (h1 : ¬ c = 43) (h2 : ¬ c = 62) (s : Int × List (Int × Int)) : walkF s c = (s.1 + -1, s.2) := by unfold walkF; rw [if_neg h1, if_neg h2]
theorem walk_from : ∀ (cs : List Nat) (s : Int) (ps : List (Int × Int)), cs.foldl walkF (s, ps) = (s + posL cs, ps ++ shiftL s (prL cs))
  | [], s, ps => by
    show (s, ps) = (s + 0, ps ++ [])
    rw [Int.add_zero, List.append_nil]
  | c :: cs, s, ps => by
    have e1 : posL (c :: cs) = (cs.foldl walkF (walkF (0, []) c)).1 := rfl
    have e2 : prL (c :: cs) = (cs.foldl walkF (walkF (0, []) c)).2 := rfl
    rw [List.foldl_cons, e1, e2]
    by_cases h1 : c = 43
    · subst h1
      rw [wf_p, wf_p, walk_from cs, walk_from cs]
      show (s + posL cs, (ps ++ [(s, 1)]) ++ shiftL s (prL cs)) = (s + (0 + posL cs), ps ++ shiftL s (([] ++ [((0 : Int), (1 : Int))]) ++ shiftL 0 (prL cs)))
      rw [Int.zero_add, List.nil_append, List.append_assoc]
      show _ = (_, ps ++ ((0 + s, 1) :: shiftL s (shiftL 0 (prL cs))))
      rw [shiftL_shift, Int.zero_add]
      rfl
    · by_cases h2 : c = 62
      · subst h2
        rw [wf_r, wf_r, walk_from cs, walk_from cs]
        show (s + 1 + posL cs, ps ++ shiftL (s + 1) (prL cs)) = (s + (0 + 1 + posL cs), ps ++ shiftL s ([] ++ shiftL (0 + 1) (prL cs)))
        rw [List.nil_append, shiftL_shift, show (0 + 1 + s : Int) = s + 1 by omega, show s + (0 + 1 + posL cs) = s + 1 + posL cs by omega]
      · rw [wf_l h1 h2, wf_l h1 h2, walk_from cs, walk_from cs]
        show (s + -1 + posL cs, ps ++ shiftL (s + -1) (prL cs)) = (s + (0 + -1 + posL cs), ps ++ shiftL s ([] ++ shiftL (0 + -1) (prL cs)))
        rw [List.nil_append, shiftL_shift, show (0 + -1 + s : Int) = s + -1 by omega, show s + (0 + -1 + posL cs) = s + -1 + posL cs by omega]
theorem walk_app (a b : List Nat) : posL (a ++ b) = posL a + posL b ∧ ∀ p, sumAt (prL (a ++ b)) p = sumAt (prL a) p + sumAt (prL b) (p - posL a) := by
  have e : walkL (a ++ b) = (posL a + posL b, prL a ++ shiftL (posL a) (prL b)) := by
    unfold walkL
    rw [List.foldl_append]
    exact walk_from b (posL a) (prL a)
  refine ⟨by unfold posL at *; rw [e], fun p => ?_⟩
  have e2 : prL (a ++ b) = prL a ++ shiftL (posL a) (prL b) := by
    show (walkL (a ++ b)).2 = _
    rw [e]
  rw [e2, sumAt_app, shiftL_sum]
theorem walk_rep : ∀ (n : Nat) (ps : List (Int × Int)), (List.replicate n 43).foldl walkF (0, ps) = (0, ps ++ List.replicate n (0, 1))
  | 0, ps => by
    show (0, ps) = (0, ps ++ [])
    rw [List.append_nil]
  | n + 1, ps => by
    rw [List.replicate_succ, List.foldl_cons]
    show (List.replicate n 43).foldl walkF (0, ps ++ [((0 : Int), (1 : Int))]) = _
    rw [walk_rep n, List.append_assoc, List.replicate_succ]
    rfl
theorem sum_rep (p : Int) : ∀ n : Nat, sumAt (List.replicate n ((0 : Int), (1 : Int))) p = if 0 = p then (n : Int) else 0
  | 0 => by
    show (0 : Int) = _
    split <;> rfl
  | n + 1 => by
    rw [List.replicate_succ, sumAt_cons, sum_rep p n]
    by_cases h : (0 : Int) = p
    · rw [if_pos h, if_pos h, if_pos h]
      omega
    · rw [if_neg h, if_neg h, if_neg h]
      rfl
def turn1 (lv : Int) (c : Nat) : List Nat := if c = 60 then [62] else if c = 62 then [60] else List.replicate (lv - 1).toNat 43
def turnL (lv : Int) (cs : List Nat) : List Nat := cs.reverse.flatMap (turn1 lv)
theorem turnL_cons (lv : Int) (c : Nat) (cs : List Nat) : turnL lv (c :: cs) = turnL lv cs ++ turn1 lv c := by
  unfold turnL
  rw [List.reverse_cons, List.flatMap_append, List.flatMap_cons, List.flatMap_nil, List.append_nil]
theorem turn_one {lv : Int} (h0 : 0 < lv) {c : Nat} (hc : IsSign c) : posL (turn1 lv c) = -posL [c] ∧ ∀ p, Cg lv (sumAt (prL (turn1 lv c)) p) (-(sumAt (prL [c]) (p + posL [c]))) := by
  rcases hc with rfl | rfl | rfl
  · exact ⟨rfl, fun p => rfl⟩
  · exact ⟨rfl, fun p => rfl⟩
  · have e : turn1 lv 43 = List.replicate (lv - 1).toNat 43 := by
      unfold turn1
      rw [if_neg (by decide), if_neg (by decide)]
    have ew : walkL (turn1 lv 43) = (0, List.replicate (lv - 1).toNat (0, 1)) := by
      rw [e]
      unfold walkL
      rw [walk_rep, List.nil_append]
    refine ⟨by show (walkL (turn1 lv 43)).1 = _; rw [ew]; rfl, fun p => ?_⟩
    show Cg lv (sumAt (walkL (turn1 lv 43)).2 p) (-(sumAt [((0 : Int), (1 : Int))] (p + 0)))
    rw [ew, sum_rep, sumAt_cons, sumAt_nil, Int.add_zero, Int.add_zero]
    by_cases h : (0 : Int) = p
    · rw [if_pos h, if_pos h, Int.toNat_of_nonneg (by omega)]
      unfold Cg
      rw [show lv - 1 = -1 + lv * 1 by omega, Int.add_mul_emod_self_left]
    · rw [if_neg h, if_neg h]
      exact rfl
theorem turn_all {lv : Int} (h0 : 0 < lv) : ∀ cs : List Nat, (∀ c ∈ cs, IsSign c) → posL (turnL lv cs) = -posL cs ∧ ∀ p, Cg lv (sumAt (prL (turnL lv cs)) p) (-(sumAt (prL cs) (p + posL cs)))
  | [], _ => ⟨rfl, fun p => rfl⟩
  | c :: cs, h => by
    obtain ⟨a1, a2⟩ := turn_all h0 cs fun d hd => h d (List.mem_cons_of_mem _ hd)
    obtain ⟨b1, b2⟩ := turn_one h0 (h c (List.mem_cons_self ..))
    obtain ⟨w1, w2⟩ := walk_app (turnL lv cs) (turn1 lv c)
    obtain ⟨v1, v2⟩ := walk_app [c] cs
    rw [turnL_cons, show c :: cs = [c] ++ cs from rfl]
    refine ⟨by rw [w1, v1, a1, b1]; omega, fun p => ?_⟩
    rw [w2, v2, v1, a1]
    have e1 : p + (posL [c] + posL cs) - posL [c] = p + posL cs := by omega
    have e2 : p - -posL cs + posL [c] = p + (posL [c] + posL cs) := by omega
    rw [e1]
    have z := (a2 p).add (b2 (p - -posL cs))
    rw [e2] at z
    refine z.trans (Cg.of ?_)
    omega
theorem turnL_len {lv : Int} (h7 : lv ≤ 7) : ∀ cs : List Nat, (turnL lv cs).length ≤ 6 * cs.length
  | [] => Nat.le_refl _
  | c :: cs => by
    have ih := turnL_len h7 cs
    rw [turnL_cons, List.length_append, List.length_cons]
    have : (turn1 lv c).length ≤ 6 := by
      unfold turn1
      split
      · decide
      · split
        · decide
        · rw [List.length_replicate]; omega
    omega
theorem turn1_sign {lv : Int} {c : Nat} : ∀ d ∈ turn1 lv c, IsSign d := fun d hd => by
  unfold turn1 at hd
  split at hd
  · simp only [List.mem_cons, List.not_mem_nil, or_false] at hd
    exact .inr (.inl hd)
  · split at hd
    · simp only [List.mem_cons, List.not_mem_nil, or_false] at hd
      exact .inl hd
    · exact .inr (.inr (List.eq_of_mem_replicate hd))
theorem turnL_signs {lv : Int} {cs : List Nat} : ∀ d ∈ turnL lv cs, IsSign d := fun d hd => by
  obtain ⟨c, _, h⟩ := List.mem_flatMap.mp hd
  exact turn1_sign d h
/-- the row with many lamps: a press, a step, again and again -/
theorem walk_many : ∀ n : Nat, walkL ((List.replicate n [43, 62]).flatten) = ((n : Int), (List.range n).map fun (k : Nat) => ((k : Int), (1 : Int)))
  | 0 => rfl
  | n + 1 => by
    have e : (List.replicate (n + 1) [43, 62]).flatten = (List.replicate n [43, 62]).flatten ++ [43, 62] := by
      rw [List.replicate_succ', List.flatten_append, List.flatten_cons, List.flatten_nil, List.append_nil]
    rw [e]
    unfold walkL
    rw [List.foldl_append, show ((List.replicate n [43, 62]).flatten).foldl walkF (0, []) = ((n : Int), (List.range n).map fun (k : Nat) => ((k : Int), (1 : Int))) from walk_many n, List.range_succ, List.map_append]
    rfl
theorem rising_many {lv : Int} (h : 1 < lv) (n : Nat) : Rising lv ((List.range n).map fun (k : Nat) => ((k : Int), (1 : Int))) := by
  refine ⟨?_, fun q hq => ?_⟩
  · rw [List.map_map, List.pairwise_map]
    exact List.pairwise_lt_range.imp fun z => Int.ofNat_lt.mpr z
  · obtain ⟨k, _, rfl⟩ := List.mem_map.mp hq
    exact ⟨Int.le_refl _, h⟩
end Lamp
set_option Elab.async false
set_option linter.all false
set_option maxRecDepth 100000
set_option maxHeartbeats 1000000
namespace Lamp
/-! sums of levels weighed by the places -/
def fsum (g : Int → Int) (A : List (Int × Int)) : Int := (A.map fun q => g q.1 * q.2).sum
theorem fsum_nil (g : Int → Int) : fsum g [] = 0 := rfl
theorem fsum_cons (g : Int → Int) (q : Int × Int) (A : List (Int × Int)) : fsum g (q :: A) = g q.1 * q.2 + fsum g A := by unfold fsum; rw [List.map_cons, List.sum_cons]
theorem fsum_app (g : Int → Int) (A B : List (Int × Int)) : fsum g (A ++ B) = fsum g A + fsum g B := by unfold fsum; rw [List.map_append, List.sum_append]
def dedup : List Int → List Int
  | [] => []
  | x :: xs => if x ∈ dedup xs then dedup xs else x :: dedup xs
theorem dedup_nd : ∀ xs : List Int, (dedup xs).Nodup
  | [] => .nil
  | x :: xs => by
    unfold dedup
    split
    · exact dedup_nd xs
    · rename_i h
      exact .cons (fun y hy e => h (e ▸ hy)) (dedup_nd xs)
theorem dedup_mem {y : Int} : ∀ {xs : List Int}, y ∈ dedup xs ↔ y ∈ xs
  | [] => Iff.rfl
  | x :: xs => by
    unfold dedup
    split
    · rename_i h
      rw [dedup_mem, List.mem_cons]
      constructor
      · exact .inr
      · rintro (rfl | h2)
        · exact dedup_mem.mp h
        · exact h2
    · rw [List.mem_cons, List.mem_cons, dedup_mem]
def gsum (g : Int → Int) (F : Int → Int) (xs : List Int) : Int := (xs.map fun x => g x * F x).sum
theorem gsum_add (g F G : Int → Int) : ∀ xs : List Int, gsum g (fun x => F x + G x) xs = gsum g F xs + gsum g G xs
  | [] => rfl
  | x :: xs => by
    have ih := gsum_add g F G xs
    unfold gsum at *
    rw [List.map_cons, List.map_cons, List.map_cons, List.sum_cons, List.sum_cons, List.sum_cons, ih, Int.mul_add]
    omega
theorem gsum_one (g : Int → Int) (p v : Int) : ∀ {xs : List Int}, xs.Nodup → gsum g (fun x => if p = x then v else 0) xs = if p ∈ xs then g p * v else 0
  | [], _ => rfl
  | x :: xs, h => by
    cases h with
    | cons h1 h2 =>
      have ih := gsum_one g p v h2
      unfold gsum at *
      rw [List.map_cons, List.sum_cons, ih]
      show g x * (if p = x then v else 0) + _ = _
      by_cases e : p = x
      · subst e
        rw [if_pos rfl, if_neg (fun z => h1 p z rfl), if_pos (List.mem_cons_self ..), Int.add_zero]
      · rw [if_neg e, Int.mul_zero, Int.zero_add]
        by_cases z : p ∈ xs
        · rw [if_pos z, if_pos (List.mem_cons_of_mem _ z)]
        · rw [if_neg z, if_neg (fun k => (List.mem_cons.mp k).elim e z)]
theorem fsum_gsum (g : Int → Int) {xs : List Int} (nd : xs.Nodup) : ∀ {A : List (Int × Int)}, (∀ q ∈ A, q.1 ∈ xs) → fsum g A = gsum g (sumAt A) xs
  | [], _ => by
    have : ∀ xs : List Int, gsum g (sumAt []) xs = 0 := fun xs => by
      unfold gsum
      induction xs with
      | nil => rfl
      | cons x xs ih => rw [List.map_cons, List.sum_cons, ih, sumAt_nil, Int.mul_zero]; rfl
    rw [this]
    rfl
  | q :: A, h => by
    rw [fsum_cons, fsum_gsum g nd (fun r hr => h r (List.mem_cons_of_mem _ hr)), show sumAt (q :: A) = fun x => (if q.1 = x then q.2 else 0) + sumAt A x from funext fun x => sumAt_cons q A x, gsum_add, gsum_one g q.1 q.2 nd, if_pos (h q (List.mem_cons_self ..))]
theorem gsum_cg {lv : Int} {g F G : Int → Int} : ∀ {xs : List Int}, (∀ x, Cg lv (F x) (G x)) → Cg lv (gsum g F xs) (gsum g G xs)
  | [], _ => Cg.rfl'
  | x :: xs, h => by
    unfold gsum
    rw [List.map_cons, List.map_cons, List.sum_cons, List.sum_cons]
    exact ((h x).mul (g x)).add (gsum_cg (xs := xs) h)
/-- what holds of all places holds of weighed sums -/
theorem fsum_cg {lv : Int} {A B : List (Int × Int)} (g : Int → Int) (h : ∀ x, Cg lv (sumAt A x) (sumAt B x)) : Cg lv (fsum g A) (fsum g B) := by
  have nd := dedup_nd ((A ++ B).map (·.1))
  rw [fsum_gsum g nd (A := A) fun q hq => dedup_mem.mpr (List.mem_map.mpr ⟨q, List.mem_append_left _ hq, rfl⟩), fsum_gsum g nd (A := B) fun q hq => dedup_mem.mpr (List.mem_map.mpr ⟨q, List.mem_append_right _ hq, rfl⟩)]
  exact gsum_cg h
/-! runs -/
structure Run where
  first : Int
  many : Int
  level : Int
def expand (s : Int) (r : Run) : List (Int × Int) := (List.range r.many.toNat).map fun (k : Nat) => (r.first + s * (k : Int), r.level)
def expAll (s : Int) (rs : List Run) : List (Int × Int) := rs.flatMap (expand s)
theorem expAll_app (s : Int) (a b : List Run) : expAll s (a ++ b) = expAll s a ++ expAll s b := List.flatMap_append
theorem expAll_one (s : Int) (r : Run) : expAll s [r] = expand s r := by unfold expAll; rw [List.flatMap_cons, List.flatMap_nil, List.append_nil]
theorem range_sum {s a c p : Int} (hs : 0 < s) : ∀ n : Nat, sumAt ((List.range n).map fun (k : Nat) => (a + s * (k : Int), c)) p = if p % s = a % s ∧ a ≤ p ∧ p < a + s * (n : Int) then c else 0
  | 0 => by
    rw [List.range_zero, List.map_nil, sumAt_nil, if_neg (by rintro ⟨_, h1, h2⟩; simp at h2; omega)]
  | n + 1 => by
    rw [List.range_succ, List.map_append, sumAt_app, range_sum hs n, List.map_cons, List.map_nil, sumAt_cons, sumAt_nil, Int.add_zero]
    have e1 : s * ((n + 1 : Nat) : Int) = s * (n : Int) + s := by rw [Int.natCast_add, Int.mul_add]; simp
    rw [e1]
    have hn : 0 ≤ s * (n : Int) := Int.mul_nonneg (by omega) (Int.natCast_nonneg n)
    show _ + (if a + s * (n : Int) = p then c else 0) = _
    by_cases e : a + s * (n : Int) = p
    · rw [if_pos e, if_neg (by omega), if_pos ⟨by rw [← e, Int.add_mul_emod_self_left], by omega, by omega⟩, Int.zero_add]
    · rw [if_neg e, Int.add_zero]
      by_cases h : p % s = a % s ∧ a ≤ p ∧ p < a + s * (n : Int)
      · rw [if_pos h, if_pos ⟨h.1, h.2.1, by omega⟩]
      · rw [if_neg h, if_neg]
        rintro ⟨h1, h2, h3⟩
        apply h
        refine ⟨h1, h2, ?_⟩
        -- p is no place between
        have d : s ∣ p - a := Int.dvd_of_emod_eq_zero (by rw [Int.sub_emod, h1, Int.sub_self]; rfl)
        obtain ⟨k, hk⟩ := d
        by_cases lt : p < a + s * (n : Int)
        · exact lt
        · exfalso
          have k1 : (n : Int) ≤ k := by
            by_cases z : (n : Int) ≤ k
            · exact z
            · have : s * k ≤ s * ((n : Int) - 1) := Int.mul_le_mul_of_nonneg_left (by omega) (by omega)
              rw [Int.mul_sub, Int.mul_one] at this
              omega
          have k2 : k ≠ (n : Int) := fun z => e (by rw [← z]; omega)
          have : s * ((n : Int) + 1) ≤ s * k := Int.mul_le_mul_of_nonneg_left (by omega) (by omega)
          rw [Int.mul_add, Int.mul_one] at this
          omega
theorem expand_sum {s p : Int} (hs : 0 < s) {r : Run} (hm : 0 ≤ r.many) : sumAt (expand s r) p = if p % s = r.first % s ∧ r.first ≤ p ∧ p < r.first + s * r.many then r.level else 0 := by
  have e : ((r.many.toNat : Nat) : Int) = r.many := Int.toNat_of_nonneg hm
  have z := range_sum (a := r.first) (c := r.level) (p := p) hs r.many.toNat
  rw [e] at z
  exact z
theorem expand_mem {s : Int} (hs : 0 < s) {r : Run} {q : Int × Int} (hm : 0 ≤ r.many) (h : q ∈ expand s r) : q.1 % s = r.first % s ∧ r.first ≤ q.1 ∧ q.1 < r.first + s * r.many ∧ q.2 = r.level := by
  unfold expand at h
  obtain ⟨k, hk, rfl⟩ := List.mem_map.mp h
  have hk' : k < r.many.toNat := List.mem_range.mp hk
  have k0 : 0 ≤ s * (k : Int) := Int.mul_nonneg (by omega) (Int.natCast_nonneg k)
  refine ⟨?_, ?_, ?_, rfl⟩
  · show (r.first + s * (k : Int)) % s = _
    rw [Int.add_mul_emod_self_left]
  · show r.first ≤ r.first + s * (k : Int)
    omega
  · show r.first + s * (k : Int) < _
    have : s * ((k : Int) + 1) ≤ s * r.many := Int.mul_le_mul_of_nonneg_left (by omega) (by omega)
    rw [Int.mul_add, Int.mul_one] at this
    omega
theorem expand_asc {s : Int} (hs : 0 < s) (r : Run) : ((expand s r).map (·.1)).Pairwise (· < ·) := by
  unfold expand
  rw [List.map_map, List.pairwise_map]
  refine List.pairwise_lt_range.imp fun {i j} h => ?_
  show r.first + s * (i : Int) < r.first + s * (j : Int)
  have : s * ((i : Int) + 1) ≤ s * (j : Int) := Int.mul_le_mul_of_nonneg_left (by omega) (by omega)
  rw [Int.mul_add, Int.mul_one] at this
  omega
theorem expand_len (s : Int) (r : Run) : (expand s r).length = r.many.toNat := by unfold expand; rw [List.length_map, List.length_range]
/-- levels of a part up to a place -/
def upTo (pre : List (Int × Int)) (p : Int) : Int := (pre.map fun q => if q.1 ≤ p then q.2 else 0).sum
def allOf (pre : List (Int × Int)) : Int := (pre.map (·.2)).sum
theorem upTo_app (a b : List (Int × Int)) (p : Int) : upTo (a ++ b) p = upTo a p + upTo b p := by unfold upTo; rw [List.map_append, List.sum_append]
theorem allOf_app (a b : List (Int × Int)) : allOf (a ++ b) = allOf a + allOf b := by unfold allOf; rw [List.map_append, List.sum_append]
theorem upTo_one (q : Int × Int) (p : Int) : upTo [q] p = if q.1 ≤ p then q.2 else 0 := by unfold upTo; rw [List.map_cons, List.map_nil, List.sum_cons, List.sum_nil, Int.add_zero]
theorem allOf_one (q : Int × Int) : allOf [q] = q.2 := by unfold allOf; rw [List.map_cons, List.map_nil, List.sum_cons, List.sum_nil, Int.add_zero]
theorem upTo_all {p : Int} : ∀ {pre : List (Int × Int)}, (∀ q ∈ pre, q.1 ≤ p) → upTo pre p = allOf pre
  | [], _ => rfl
  | q :: pre, h => by
    have ih := upTo_all (p := p) (pre := pre) fun r hr => h r (List.mem_cons_of_mem _ hr)
    unfold upTo allOf at *
    rw [List.map_cons, List.map_cons, List.sum_cons, List.sum_cons, ih, if_pos (h q (List.mem_cons_self ..))]
/-- the runs of the first things of a part, the level and the place that one stands at -/
structure RunInv (lv s r : Int) (pre : List (Int × Int)) (runs : List Run) (c a : Int) : Prop where
  c_eq : c = allOf pre % lv
  le : ∀ q ∈ pre, q.1 ≤ a
  res : pre ≠ [] → a % s = r
  many : ∀ x ∈ runs, 1 ≤ x.many
  sum : ∀ p, sumAt (expAll s runs) p = if p % s = r ∧ p < a then upTo pre p % lv else 0
  below : ∀ x ∈ expAll s runs, x.1 < a ∧ x.1 % s = r ∧ 1 ≤ x.2 ∧ x.2 < lv
  asc : ((expAll s runs).map (·.1)).Pairwise (· < ·)
theorem RunInv.start {lv s r : Int} : RunInv lv s r [] [] 0 0 :=
  ⟨(Int.zero_emod lv).symm, fun q h => (nomatch h), fun h => absurd rfl h, fun x h => (nomatch h), fun p => by
    show (0 : Int) = _
    split
    · exact (Int.zero_emod lv).symm
    · rfl, fun x h => (nomatch h), .nil⟩
theorem RunInv.step {lv s r : Int} {pre : List (Int × Int)} {runs : List Run} {c a : Int} (R : RunInv lv s r pre runs c a) (hs : 0 < s) (h0 : 0 < lv) {q : Int × Int} (hq : q.1 % s = r) (hlt : pre ≠ [] → a < q.1) :
    RunInv lv s r (pre ++ [q]) (if c ≠ 0 then runs ++ [⟨a, (q.1 - a) / s, c⟩] else runs) ((c + q.2) % lv) q.1 := by
  have cpos : 0 ≤ c ∧ c < lv := by rw [R.c_eq]; exact ⟨Int.emod_nonneg _ (by omega), Int.emod_lt_of_pos _ h0⟩
  have hc' : (c + q.2) % lv = allOf (pre ++ [q]) % lv := by rw [allOf_app, allOf_one, R.c_eq, Int.emod_add_emod]
  have hle : ∀ x ∈ pre ++ [q], x.1 ≤ q.1 := fun x hx => by
    rcases List.mem_append.mp hx with h | h
    · have := R.le x h
      have := hlt (List.ne_nil_of_mem h)
      omega
    · simp at h; subst h; exact Int.le_refl _
  have pre_nil : c ≠ 0 → pre ≠ [] := fun h z => h (by rw [R.c_eq, z]; exact Int.zero_emod lv)
  -- what is to hold of the places ahead of q
  have ahead : ∀ p, p < q.1 → upTo (pre ++ [q]) p = upTo pre p := fun p hp => by rw [upTo_app, upTo_one, if_neg (by omega), Int.add_zero]
  have behind : ∀ p, a ≤ p → upTo pre p % lv = c := fun p hp => by rw [upTo_all (fun x hx => Int.le_trans (R.le x hx) hp), R.c_eq]
  by_cases hc : c ≠ 0
  · rw [if_pos hc]
    have hne := pre_nil hc
    have ha := hlt hne
    have har := R.res hne
    have d : s ∣ q.1 - a := Int.dvd_of_emod_eq_zero (by rw [Int.sub_emod, hq, har, Int.sub_self]; rfl)
    have emul : s * ((q.1 - a) / s) = q.1 - a := Int.mul_ediv_cancel' d
    have hm : 0 ≤ (q.1 - a) / s := Int.ediv_nonneg (by omega) (by omega)
    have hm1 : 1 ≤ (q.1 - a) / s := by
      by_cases z : (q.1 - a) / s = 0
      · rw [z, Int.mul_zero] at emul; omega
      · omega
    have mem2 : ∀ x ∈ expAll s (runs ++ [⟨a, (q.1 - a) / s, c⟩]), x ∈ expAll s runs ∨ (x.1 % s = r ∧ a ≤ x.1 ∧ x.1 < q.1 ∧ x.2 = c) := fun x hx => by
      rw [expAll_app, expAll_one] at hx
      rcases List.mem_append.mp hx with h | h
      · exact .inl h
      · have z := expand_mem hs hm h
        simp only [emul] at z
        exact .inr ⟨by rw [z.1, har], z.2.1, by omega, z.2.2.2⟩
    refine ⟨hc', hle, fun _ => hq, fun x hx => ?_, fun p => ?_, fun x hx => ?_, ?_⟩
    · rcases List.mem_append.mp hx with h | h
      · exact R.many x h
      · simp at h; subst h; exact hm1
    · rw [expAll_app, expAll_one, sumAt_app, R.sum, expand_sum hs hm]
      simp only [emul, har]
      by_cases hp : p % s = r
      · by_cases pa : p < a
        · rw [if_pos ⟨hp, pa⟩, if_neg (by omega), if_pos ⟨hp, by omega⟩, Int.add_zero, ahead p (by omega)]
        · rw [if_neg (by omega), Int.zero_add]
          by_cases pq : p < q.1
          · rw [if_pos ⟨hp, by omega, by omega⟩, if_pos ⟨hp, pq⟩, ahead p pq, behind p (by omega)]
          · rw [if_neg (by omega), if_neg (by omega)]
      · rw [if_neg (fun z => hp z.1), if_neg (fun z => hp z.1), if_neg (fun z => hp z.1)]
        rfl
    · rcases mem2 x hx with h | h
      · have z := R.below x h
        exact ⟨by omega, z.2.1, z.2.2⟩
      · exact ⟨h.2.2.1, h.1, by omega, by omega⟩
    · rw [expAll_app, expAll_one, List.map_append, List.pairwise_append]
      refine ⟨R.asc, expand_asc hs _, fun x hx y hy => ?_⟩
      obtain ⟨x', h1, rfl⟩ := List.mem_map.mp hx
      obtain ⟨y', h2, rfl⟩ := List.mem_map.mp hy
      have z1 := R.below x' h1
      have z2 := expand_mem hs hm h2
      have z3 : a ≤ y'.1 := z2.2.1
      omega
  · rw [if_neg hc]
    have hc0 : c = 0 := by omega
    refine ⟨hc', hle, fun _ => hq, R.many, fun p => ?_, fun x hx => ?_, R.asc⟩
    · rw [R.sum]
      by_cases hp : p % s = r
      · by_cases pq : p < q.1
        · rw [if_pos (show p % s = r ∧ p < q.1 from ⟨hp, pq⟩), ahead p pq]
          by_cases pa : p < a
          · rw [if_pos ⟨hp, pa⟩]
          · rw [if_neg (by omega), behind p (by omega), hc0]
        · by_cases pa : p < a
          · by_cases hn : pre = []
            · rw [if_neg (show ¬ (p % s = r ∧ p < q.1) from fun z => pq z.2), if_pos ⟨hp, pa⟩, hn]
              exact Int.zero_emod lv
            · have := hlt hn
              omega
          · rw [if_neg (by omega), if_neg (by omega)]
      · rw [if_neg (fun z => hp z.1), if_neg (fun z => hp z.1)]
    · have z := R.below x hx
      by_cases hn : pre = []
      · -- no runs yet have lamps
        have e := R.sum x.1
        rw [hn] at e
        have e2 : sumAt (expAll s runs) x.1 = 0 := by
          rw [e]
          split
          · exact Int.zero_emod lv
          · rfl
        have nd : ((expAll s runs).map (·.1)).Nodup := R.asc.imp fun h => Int.ne_of_lt h
        have rz : Rising lv (expAll s runs) := ⟨R.asc, fun y hy => (R.below y hy).2.2⟩
        have := rz.mem hx
        omega
      · have := hlt hn
        exact ⟨by omega, z.2⟩
end Lamp
set_option Elab.async false
set_option linter.all false
set_option maxRecDepth 100000
set_option maxHeartbeats 1000000
namespace Lamp
/-! the picture that, less itself moved, is a given one -/
def cls (E : List (Int × Int)) (s r : Int) : List (Int × Int) := E.filter fun q => decide (q.1 % s = r)
theorem cls_mem {E : List (Int × Int)} {s r : Int} {q : Int × Int} (h : q ∈ cls E s r) : q ∈ E ∧ q.1 % s = r := by
  unfold cls at h
  rw [List.mem_filter] at h
  exact ⟨h.1, of_decide_eq_true h.2⟩
theorem RunInv.done {lv s r : Int} {pre : List (Int × Int)} {runs : List Run} {a : Int} (R : RunInv lv s r pre runs 0 a) (p : Int) : sumAt (expAll s runs) p = if p % s = r then upTo pre p % lv else 0 := by
  rw [R.sum]
  by_cases h : p % s = r
  · by_cases h2 : p < a
    · rw [if_pos ⟨h, h2⟩, if_pos h]
    · rw [if_neg (fun z => h2 z.2), if_pos h, upTo_all (fun q hq => by have := R.le q hq; omega), ← R.c_eq]
  · rw [if_neg (fun z => h z.1), if_neg h]
structure QInv (lv s : Int) (E : List (Int × Int)) (rs : List Int) (runs : List Run) : Prop where
  many : ∀ x ∈ runs, 1 ≤ x.many
  sum : ∀ p, sumAt (expAll s runs) p = if p % s ∈ rs then upTo (cls E s (p % s)) p % lv else 0
  mem : ∀ x ∈ expAll s runs, x.1 % s ∈ rs ∧ 1 ≤ x.2 ∧ x.2 < lv
  nd : ((expAll s runs).map (·.1)).Nodup
theorem QInv.start {lv s : Int} {E : List (Int × Int)} : QInv lv s E [] [] := ⟨fun x h => (nomatch h), fun p => by rw [if_neg (by simp)]; rfl, fun x h => (nomatch h), .nil⟩
theorem QInv.step {lv s r a : Int} {E : List (Int × Int)} {rs : List Int} {runs new : List Run} (Q : QInv lv s E rs runs) (hr : r ∉ rs) (R : RunInv lv s r (cls E s r) new 0 a) : QInv lv s E (rs ++ [r]) (runs ++ new) := by
  refine ⟨fun x hx => ?_, fun p => ?_, fun x hx => ?_, ?_⟩
  · rcases List.mem_append.mp hx with h | h
    · exact Q.many x h
    · exact R.many x h
  · rw [expAll_app, sumAt_app, Q.sum, R.done]
    by_cases h : p % s ∈ rs
    · have ne : p % s ≠ r := fun z => hr (z ▸ h)
      rw [if_pos h, if_neg ne, if_pos (List.mem_append_left _ h), Int.add_zero]
    · rw [if_neg h, Int.zero_add]
      by_cases e : p % s = r
      · rw [if_pos e, if_pos (by rw [e]; simp), e]
      · rw [if_neg e, if_neg (fun z => (List.mem_append.mp z).elim h fun k => e (by simpa using k))]
  · rw [expAll_app] at hx
    rcases List.mem_append.mp hx with h | h
    · have z := Q.mem x h
      exact ⟨List.mem_append_left _ z.1, z.2⟩
    · have z := R.below x h
      exact ⟨by rw [z.2.1]; simp, z.2.2⟩
  · rw [expAll_app, List.map_append, List.nodup_append]
    refine ⟨Q.nd, R.asc.imp fun h => Int.ne_of_lt h, fun x hx y hy e => ?_⟩
    obtain ⟨x', h1, rfl⟩ := List.mem_map.mp hx
    obtain ⟨y', h2, rfl⟩ := List.mem_map.mp hy
    have z1 := (Q.mem x' h1).1
    have z2 := (R.below y' h2).2.1
    rw [e, z2] at z1
    exact hr z1
theorem upTo_cls {s p : Int} : ∀ E : List (Int × Int), upTo (cls E s (p % s)) p = fsum (fun y => if y % s = p % s ∧ y ≤ p then 1 else 0) E
  | [] => rfl
  | q :: E => by
    have ih := upTo_cls (s := s) (p := p) E
    rw [fsum_cons, ← ih]
    unfold cls
    rw [List.filter_cons]
    by_cases h : q.1 % s = p % s
    · rw [if_pos (decide_eq_true h)]
      unfold upTo
      rw [List.map_cons, List.sum_cons]
      by_cases h2 : q.1 ≤ p
      · rw [if_pos h2, if_pos ⟨h, h2⟩, Int.one_mul]
      · rw [if_neg h2, if_neg (fun z => h2 z.2), Int.zero_mul]
    · rw [if_neg (by simpa using h), if_neg (fun z => h z.1), Int.zero_mul, Int.zero_add]
theorem allOf_cls {s r : Int} : ∀ E : List (Int × Int), allOf (cls E s r) = fsum (fun y => if y % s = r then 1 else 0) E
  | [] => rfl
  | q :: E => by
    have ih := allOf_cls (s := s) (r := r) E
    rw [fsum_cons, ← ih]
    unfold cls
    rw [List.filter_cons]
    by_cases h : q.1 % s = r
    · rw [if_pos (decide_eq_true h), if_pos h, Int.one_mul]
      unfold allOf
      rw [List.map_cons, List.sum_cons]
    · rw [if_neg (by simpa using h), if_neg h, Int.zero_mul, Int.zero_add]
def shift (ls : List (Int × Int)) (k t : Int) : List (Int × Int) := ls.map fun q => (q.1 + k, t * q.2)
theorem shift_sum (k t x : Int) : ∀ ls : List (Int × Int), sumAt (shift ls k t) x = t * sumAt ls (x - k)
  | [] => by show (0 : Int) = t * 0; rw [Int.mul_zero]
  | q :: ls => by
    show sumAt ((q.1 + k, t * q.2) :: shift ls k t) x = _
    rw [sumAt_cons, sumAt_cons, shift_sum k t x ls, Int.mul_add]
    by_cases h : q.1 = x - k
    · rw [if_pos h, if_pos (show q.1 + k = x by omega)]
    · rw [if_neg h, if_neg (show ¬ q.1 + k = x by omega), Int.mul_zero]
theorem shift_fsum (g : Int → Int) (k t : Int) : ∀ ls : List (Int × Int), fsum g (shift ls k t) = (ls.map fun q => g (q.1 + k) * (t * q.2)).sum
  | [] => rfl
  | q :: ls => by
    show fsum g ((q.1 + k, t * q.2) :: shift ls k t) = _
    rw [fsum_cons, shift_fsum g k t ls, List.map_cons, List.sum_cons]
theorem sum_add2 {f g h : Int × Int → Int} : ∀ ls : List (Int × Int), (∀ q ∈ ls, f q + g q = h q) → (ls.map f).sum + (ls.map g).sum = (ls.map h).sum
  | [], _ => rfl
  | q :: ls, e => by
    have ih := sum_add2 ls fun r hr => e r (List.mem_cons_of_mem _ hr)
    have e1 := e q (List.mem_cons_self ..)
    rw [List.map_cons, List.map_cons, List.map_cons, List.sum_cons, List.sum_cons, List.sum_cons]
    omega
/-- what the picture is to be, less itself moved by the end -/
def EndsOf (lv : Int) (E ls : List (Int × Int)) (e n : Int) : Prop := ∀ x, Cg lv (sumAt E x) (sumAt ls x - sumAt ls (x - e * n))
def BPos (ls : List (Int × Int)) (e n : Int) : List (Int × Int) := shift ls 0 1 ++ shift ls (e * n) (-1)
def BNeg (ls : List (Int × Int)) (e n : Int) : List (Int × Int) := shift ls (-e) (-1) ++ shift ls (e * n + -e) 1
theorem bpos_sum {lv : Int} {E ls : List (Int × Int)} {e n : Int} (h : EndsOf lv E ls e n) (x : Int) : Cg lv (sumAt E x) (sumAt (BPos ls e n) x) := (h x).trans (Cg.of (by
  unfold BPos
  rw [sumAt_app, shift_sum, shift_sum, Int.one_mul, Int.neg_mul, Int.one_mul, Int.sub_zero]
  omega))
theorem bneg_sum {lv : Int} {E E' ls : List (Int × Int)} {e n : Int} (h : EndsOf lv E ls e n) (h' : ∀ x, Cg lv (sumAt E' x) (-(sumAt E (x - -e)))) (x : Int) : Cg lv (sumAt E' x) (sumAt (BNeg ls e n) x) := (h' x).trans ((h (x - -e)).neg.trans (Cg.of (by
  unfold BNeg
  rw [sumAt_app, shift_sum, shift_sum, Int.one_mul, Int.neg_mul, Int.one_mul, show x - (e * n + -e) = x - -e - e * n by omega]
  omega)))
theorem emod_add_mul (a s k : Int) : (a + s * k) % s = a % s := Int.add_mul_emod_self_left ..
/-- the whole of each part is 0 -/
theorem bpos_all {ls : List (Int × Int)} {e n s r : Int} (hs : s ∣ e) : fsum (fun y => if y % s = r then 1 else 0) (BPos ls e n) = 0 := by
  unfold BPos
  obtain ⟨k, rfl⟩ := hs
  rw [fsum_app, shift_fsum, shift_fsum, sum_add2 (h := fun _ => 0) ls fun q _ => by
    show (if (q.1 + 0) % s = r then (1 : Int) else 0) * (1 * q.2) + (if (q.1 + s * k * n) % s = r then (1 : Int) else 0) * (-1 * q.2) = 0
    rw [Int.add_zero, Int.mul_assoc s k n, emod_add_mul]
    split <;> omega]
  have : ∀ ls : List (Int × Int), (ls.map fun _ => (0 : Int)).sum = 0 := fun ls => by
    induction ls with
    | nil => rfl
    | cons q ls ih => rw [List.map_cons, List.sum_cons, ih]; rfl
  exact this ls
theorem bneg_all {ls : List (Int × Int)} {e n s r : Int} (hs : s ∣ e) : fsum (fun y => if y % s = r then 1 else 0) (BNeg ls e n) = 0 := by
  unfold BNeg
  obtain ⟨k, rfl⟩ := hs
  rw [fsum_app, shift_fsum, shift_fsum, sum_add2 (h := fun _ => 0) ls fun q _ => by
    show (if (q.1 + -(s * k)) % s = r then (1 : Int) else 0) * (-1 * q.2) + (if (q.1 + (s * k * n + -(s * k))) % s = r then (1 : Int) else 0) * (1 * q.2) = 0
    have e1 : q.1 + -(s * k) = q.1 + s * (-k) := by rw [Int.mul_neg]
    have e2 : q.1 + (s * k * n + -(s * k)) = q.1 + s * (k * n - k) := by rw [Int.mul_sub, Int.mul_assoc]; omega
    rw [e1, e2, emod_add_mul, emod_add_mul]
    split <;> omega]
  have : ∀ ls : List (Int × Int), (ls.map fun _ => (0 : Int)).sum = 0 := fun ls => by
    induction ls with
    | nil => rfl
    | cons q ls ih => rw [List.map_cons, List.sum_cons, ih]; rfl
  exact this ls
theorem same_rest {a p s : Int} : a % s = p % s ↔ ∃ k, p - a = s * k := by
  constructor
  · intro h
    have : s ∣ p - a := Int.dvd_of_emod_eq_zero (by rw [Int.sub_emod, ← h, Int.sub_self]; rfl)
    obtain ⟨k, hk⟩ := this
    exact ⟨k, hk⟩
  · rintro ⟨k, hk⟩
    have : p = a + s * k := by omega
    rw [this, emod_add_mul]
theorem doings_mul {e n k : Int} (he : e ≠ 0) : doings e n (e * k) = if 0 ≤ k ∧ k < n then 1 else if n ≤ k ∧ k < 0 then -1 else 0 := by
  unfold doings
  rw [if_neg he, if_pos (Int.mul_fmod_right _ _), Int.mul_fdiv_cancel_left _ he]
theorem doings_no {e n d : Int} (he : e ≠ 0) (h : ¬ e ∣ d) : doings e n d = 0 := by
  unfold doings
  rw [if_neg he, if_neg fun z => h (Int.dvd_of_fmod_eq_zero z)]
theorem mul_sign {s k : Int} (hs : 0 < s) : (0 ≤ s * k ↔ 0 ≤ k) := by
  constructor
  · intro h
    by_cases z : 0 ≤ k
    · exact z
    · have : s * k ≤ s * (-1) := Int.mul_le_mul_of_nonneg_left (by omega) (by omega)
      rw [Int.mul_neg, Int.mul_one] at this
      omega
  · exact fun h => Int.mul_nonneg (by omega) h
theorem bpos_up {ls : List (Int × Int)} {e n p : Int} (he : 0 < e) : fsum (fun y => if y % e = p % e ∧ y ≤ p then 1 else 0) (BPos ls e n) = (ls.map fun q => q.2 * doings e n (p - q.1)).sum := by
  unfold BPos
  rw [fsum_app, shift_fsum, shift_fsum]
  refine sum_add2 ls fun q _ => ?_
  show (if (q.1 + 0) % e = p % e ∧ q.1 + 0 ≤ p then (1 : Int) else 0) * (1 * q.2) + (if (q.1 + e * n) % e = p % e ∧ q.1 + e * n ≤ p then (1 : Int) else 0) * (-1 * q.2) = _
  rw [Int.add_zero, emod_add_mul]
  by_cases h : q.1 % e = p % e
  · obtain ⟨k, hk⟩ := same_rest.mp h
    have a1 : q.1 ≤ p ↔ 0 ≤ k := by rw [← mul_sign (k := k) he]; omega
    have a2 : q.1 + e * n ≤ p ↔ n ≤ k := by
      have := mul_sign (s := e) (k := k - n) he
      rw [Int.mul_sub] at this
      omega
    rw [hk, doings_mul (by omega)]
    simp only [h, true_and, a1, a2]
    by_cases z1 : 0 ≤ k
    · by_cases z2 : n ≤ k
      · rw [if_pos z1, if_pos z2, if_neg (by omega), if_neg (by omega)]; omega
      · rw [if_pos z1, if_neg z2, if_pos (by omega)]; omega
    · by_cases z2 : n ≤ k
      · rw [if_neg z1, if_pos z2, if_neg (by omega), if_pos (by omega)]; omega
      · rw [if_neg z1, if_neg z2, if_neg (by omega), if_neg (by omega)]; omega
  · rw [if_neg (fun z => h z.1), if_neg (fun z => h z.1), doings_no (by omega) (fun ⟨k, hk⟩ => h (same_rest.mpr ⟨k, hk⟩))]
    omega
theorem bneg_up {ls : List (Int × Int)} {e n p : Int} (he : e < 0) : fsum (fun y => if y % (-e) = p % (-e) ∧ y ≤ p then 1 else 0) (BNeg ls e n) = (ls.map fun q => q.2 * doings e n (p - q.1)).sum := by
  unfold BNeg
  rw [fsum_app, shift_fsum, shift_fsum]
  refine sum_add2 ls fun q _ => ?_
  show (if (q.1 + -e) % (-e) = p % (-e) ∧ q.1 + -e ≤ p then (1 : Int) else 0) * (-1 * q.2) + (if (q.1 + (e * n + -e)) % (-e) = p % (-e) ∧ q.1 + (e * n + -e) ≤ p then (1 : Int) else 0) * (1 * q.2) = _
  have e1 : (q.1 + -e) % (-e) = q.1 % (-e) := by
    have := emod_add_mul q.1 (-e) 1
    rw [Int.mul_one] at this
    exact this
  have e2 : (q.1 + (e * n + -e)) % (-e) = q.1 % (-e) := by
    have := emod_add_mul q.1 (-e) (1 - n)
    rw [Int.mul_sub, Int.mul_one, Int.neg_mul] at this
    rw [← this]
    congr 1
    omega
  rw [e1, e2]
  by_cases h : q.1 % (-e) = p % (-e)
  · obtain ⟨j, hj⟩ := same_rest.mp h
    have hk : p - q.1 = e * (-j) := by rw [hj, Int.neg_mul, Int.mul_neg]
    obtain ⟨k, ek⟩ : ∃ k, k = -j := ⟨_, rfl⟩
    rw [← ek] at hk
    have a1 : q.1 + -e ≤ p ↔ k < 0 := by
      have := mul_sign (s := -e) (k := -k - 1) (by omega)
      rw [Int.mul_sub, Int.neg_mul_neg, Int.mul_one] at this
      omega
    have a2 : q.1 + (e * n + -e) ≤ p ↔ k < n := by
      have := mul_sign (s := -e) (k := -(k - n) - 1) (by omega)
      rw [Int.mul_sub, Int.neg_mul_neg, Int.mul_one, Int.mul_sub] at this
      omega
    rw [hk, doings_mul (by omega)]
    simp only [h, true_and, a1, a2]
    by_cases z1 : k < 0
    · by_cases z2 : k < n
      · rw [if_pos z1, if_pos z2, if_neg (by omega), if_neg (by omega)]; omega
      · rw [if_pos z1, if_neg z2, if_neg (by omega), if_pos (by omega)]; omega
    · by_cases z2 : k < n
      · rw [if_neg z1, if_pos z2, if_pos (by omega)]; omega
      · rw [if_neg z1, if_neg z2, if_neg (by omega), if_neg (by omega)]; omega
  · rw [if_neg (fun z => h z.1), if_neg (fun z => h z.1), doings_no (by omega) (fun ⟨k, hk⟩ => h (same_rest.mpr ⟨-k, by rw [hk, Int.neg_mul_neg]⟩))]
    omega
/-- the runs of all parts tell the levels after so many doings -/
theorem quot_after {lv e n s : Int} {E ls : List (Int × Int)} {rs : List Int} {runs : List Run} (Q : QInv lv s E rs runs) (all : ∀ q ∈ E, q.1 % s ∈ rs) (hB : (0 < e ∧ s = e ∧ ∀ x, Cg lv (sumAt E x) (sumAt (BPos ls e n) x)) ∨ (e < 0 ∧ s = -e ∧ ∀ x, Cg lv (sumAt E x) (sumAt (BNeg ls e n) x))) (p : Int) :
    sumAt (expAll s runs) p = after lv ls e n p := by
  have e1 : sumAt (expAll s runs) p = upTo (cls E s (p % s)) p % lv := by
    rw [Q.sum]
    by_cases h : p % s ∈ rs
    · rw [if_pos h]
    · rw [if_neg h]
      have : cls E s (p % s) = [] := by
        unfold cls
        rw [List.filter_eq_nil_iff]
        intro q hq hd
        have z := of_decide_eq_true hd
        exact h (z ▸ all q hq)
      rw [this]
      exact (Int.zero_emod lv).symm
  rw [e1, upTo_cls]
  unfold after
  rcases hB with ⟨he, rfl, hB⟩ | ⟨he, rfl, hB⟩
  · rw [← bpos_up he]
    exact fsum_cg _ hB
  · rw [← bneg_up he]
    exact fsum_cg _ hB
theorem part_zero {lv e n s r : Int} {E ls : List (Int × Int)} (hB : (0 < e ∧ s = e ∧ ∀ x, Cg lv (sumAt E x) (sumAt (BPos ls e n) x)) ∨ (e < 0 ∧ s = -e ∧ ∀ x, Cg lv (sumAt E x) (sumAt (BNeg ls e n) x))) : allOf (cls E s r) % lv = 0 := by
  rw [allOf_cls]
  rcases hB with ⟨he, rfl, hB⟩ | ⟨he, rfl, hB⟩
  · have z := fsum_cg (fun y => if y % s = r then 1 else 0) hB
    rw [bpos_all (Int.dvd_refl s)] at z
    exact (show _ % lv = 0 % lv from z).trans (Int.zero_emod lv)
  · have z := fsum_cg (fun y => if y % (-e) = r then 1 else 0) hB
    rw [bneg_all (Int.neg_dvd.mpr (Int.dvd_refl e))] at z
    exact (show _ % lv = 0 % lv from z).trans (Int.zero_emod lv)
theorem runs_len (s : Int) : ∀ {runs : List Run}, (∀ x ∈ runs, 1 ≤ x.many) → runs.length ≤ (expAll s runs).length
  | [], _ => Nat.le_refl _
  | r :: runs, h => by
    have ih := runs_len s (runs := runs) fun x hx => h x (List.mem_cons_of_mem _ hx)
    have e : expAll s (r :: runs) = expand s r ++ expAll s runs := by unfold expAll; rw [List.flatMap_cons]
    have h1 := h r (List.mem_cons_self ..)
    rw [e, List.length_append, expand_len, List.length_cons]
    omega
theorem sumAt_perm {p : Int} {A B : List (Int × Int)} (h : A.Perm B) : sumAt A p = sumAt B p := by
  induction h with
  | nil => rfl
  | cons q _ ih => rw [sumAt_cons, sumAt_cons, ih]
  | swap q r l => rw [sumAt_cons, sumAt_cons, sumAt_cons, sumAt_cons]; omega
  | trans _ _ h1 h2 => rw [h1, h2]
theorem many_len (s : Int) : ∀ {runs : List Run}, (∀ x ∈ runs, 0 ≤ x.many) → (runs.map (·.many)).sum = ((expAll s runs).length : Int)
  | [], _ => rfl
  | r :: runs, h => by
    have ih := many_len s (runs := runs) fun x hx => h x (List.mem_cons_of_mem _ hx)
    have e : expAll s (r :: runs) = expand s r ++ expAll s runs := by unfold expAll; rw [List.flatMap_cons]
    have h1 := h r (List.mem_cons_self ..)
    rw [List.map_cons, List.sum_cons, ih, e, List.length_append, expand_len]
    omega
end Lamp
set_option Elab.async false
set_option linter.all false
set_option maxRecDepth 100000
set_option maxHeartbeats 1000000
namespace Lamp
/-! doings one behind another -/
theorem doings_add (e a b d : Int) : doings e (a + b) d = doings e a d + doings e b (d - e * a) := by
  by_cases he : e = 0
  · subst he
    unfold doings
    rw [if_pos rfl, if_pos rfl, if_pos rfl, Int.zero_mul, Int.sub_zero]
    split <;> omega
  · by_cases h : e ∣ d
    · obtain ⟨k, rfl⟩ := h
      rw [show e * k - e * a = e * (k - a) by rw [Int.mul_sub], doings_mul he, doings_mul he, doings_mul he]
      by_cases z1 : 0 ≤ k ∧ k < a + b
      · rw [if_pos z1]
        by_cases z2 : 0 ≤ k ∧ k < a
        · rw [if_pos z2, if_neg (by omega), if_neg (by omega)]; rfl
        · rw [if_neg z2]
          by_cases z3 : a ≤ k ∧ k < 0
          · omega
          · rw [if_neg z3, if_pos (by omega)]; rfl
      · rw [if_neg z1]
        by_cases z2 : a + b ≤ k ∧ k < 0
        · rw [if_pos z2, if_neg (by omega)]
          by_cases z3 : a ≤ k ∧ k < 0
          · rw [if_pos z3, if_neg (by omega), if_neg (by omega)]; rfl
          · rw [if_neg z3, if_neg (by omega), if_pos (by omega)]; rfl
        · rw [if_neg z2]
          by_cases z3 : 0 ≤ k ∧ k < a
          · rw [if_pos z3, if_neg (by omega), if_pos (by omega)]; rfl
          · rw [if_neg z3]
            by_cases z4 : a ≤ k ∧ k < 0
            · rw [if_pos z4, if_pos (by omega)]; rfl
            · rw [if_neg z4, if_neg (by omega), if_neg (by omega)]; rfl
    · rw [doings_no he h, doings_no he h, doings_no he (fun z => h ?_)]
      · rfl
      · have z2 := Int.dvd_add z (Int.dvd_mul_right e a)
        rw [show d - e * a + e * a = d by omega] at z2
        exact z2
theorem after_add (lv : Int) (ls : List (Int × Int)) (e a b p : Int) : after lv ls e (a + b) p = (after lv ls e a p + after lv ls e b (p - e * a)) % lv := by
  unfold after
  rw [← Int.add_emod, sum_add2 (h := fun q => q.2 * doings e (a + b) (p - q.1)) ls fun q _ => by
    rw [doings_add, Int.mul_add, show p - e * a - q.1 = p - q.1 - e * a by omega]]
theorem after_one (lv : Int) (ls : List (Int × Int)) (e p : Int) : after lv ls e 1 p = sumAt ls p % lv := by
  unfold after
  congr 1
  induction ls with
  | nil => rfl
  | cons q ls ih =>
    rw [List.map_cons, List.sum_cons, ih, sumAt_cons, doings_1]
    by_cases h : q.1 = p
    · rw [if_pos (by omega), if_pos h, Int.mul_one]
    · rw [if_neg (by omega), if_neg h, Int.mul_zero]
theorem after_step (lv : Int) (ls : List (Int × Int)) (e : Int) (i : Int) (p : Int) : after lv ls e (i + 1) p = (after lv ls e i p + sumAt ls (p - e * i)) % lv := by
  rw [after_add, after_one, Int.add_emod_emod]
theorem after_back {lv e n p : Int} {ls : List (Int × Int)} (h : n < 0) : after lv (undo lv e ls) (0 - e) (0 - n) p = after lv ls e n p := by
  have z := after_undo (lv := lv) (ls := ls) (e := e) (n := n) (p := p) h
  rw [after_counts (by omega)] at z
  exact z
/-! how many places have a level -/
theorem pigeons : ∀ {xs ys : List Int}, xs.Nodup → (∀ x ∈ xs, x ∈ ys) → xs.length ≤ ys.length
  | [], _, _, _ => Nat.zero_le _
  | x :: xs, ys, nd, h => by
    cases nd with
    | cons n1 n2 =>
      have hx := h x (List.mem_cons_self ..)
      have z := pigeons (xs := xs) (ys := ys.erase x) n2 fun y hy => (List.mem_erase_of_ne (fun k => n1 y hy k.symm)).mpr (h y (List.mem_cons_of_mem _ hy))
      rw [List.length_erase_of_mem hx] at z
      have pos : 0 < ys.length := List.length_pos_of_mem hx
      rw [List.length_cons]
      omega
/-- the places that a round's lamps come to -/
def spots (ls : List (Int × Int)) (e n : Int) : List Int := ls.flatMap fun q => (List.range n.natAbs).map fun (k : Nat) => q.1 + e * (if 0 ≤ n then (k : Int) else -(k : Int) - 1)
theorem spots_len (e n : Int) : ∀ ls : List (Int × Int), (spots ls e n).length = ls.length * n.natAbs
  | [] => by rw [List.length_nil, Nat.zero_mul]; rfl
  | q :: ls => by
    have ih := spots_len e n ls
    unfold spots at *
    rw [List.flatMap_cons, List.length_append, List.length_map, List.length_range, ih, List.length_cons, Nat.succ_mul]
    omega
theorem after_spot {lv e n p : Int} {ls : List (Int × Int)} (h : after lv ls e n p ≠ 0) : p ∈ spots ls e n := by
  have hex : ∃ q ∈ ls, doings e n (p - q.1) ≠ 0 := by
    apply Classical.byContradiction
    intro hn
    apply h
    unfold after
    rw [show (ls.map fun q => q.2 * doings e n (p - q.1)) = ls.map fun _ => (0 : Int) from List.map_congr_left fun q hq => by
      have : doings e n (p - q.1) = 0 := Classical.byContradiction fun z => hn ⟨q, hq, z⟩
      rw [this, Int.mul_zero]]
    have : ∀ ls : List (Int × Int), (ls.map fun _ => (0 : Int)).sum = 0 := fun ls => by
      induction ls with
      | nil => rfl
      | cons q ls ih => rw [List.map_cons, List.sum_cons, ih]; rfl
    rw [this]
    exact Int.zero_emod lv
  obtain ⟨q, hq, hd⟩ := hex
  have hk : ∃ k : Int, p - q.1 = e * k ∧ ((0 ≤ k ∧ k < n) ∨ (n ≤ k ∧ k < 0)) := by
    by_cases he : e = 0
    · subst he
      unfold doings at hd
      rw [if_pos rfl] at hd
      by_cases hp : p - q.1 = 0
      · rw [if_pos hp] at hd
        by_cases n0 : 0 < n
        · exact ⟨0, by omega, .inl ⟨Int.le_refl _, n0⟩⟩
        · exact ⟨-1, by omega, .inr ⟨by omega, by omega⟩⟩
      · rw [if_neg hp] at hd
        exact absurd rfl hd
    · by_cases hdv : e ∣ p - q.1
      · obtain ⟨k, hk⟩ := hdv
        rw [hk, doings_mul he] at hd
        refine ⟨k, hk, ?_⟩
        by_cases z1 : 0 ≤ k ∧ k < n
        · exact .inl z1
        · rw [if_neg z1] at hd
          by_cases z2 : n ≤ k ∧ k < 0
          · exact .inr z2
          · rw [if_neg z2] at hd
            exact absurd rfl hd
      · exact absurd (doings_no he hdv) hd
  obtain ⟨k, e1, hr⟩ := hk
  unfold spots
  rw [List.mem_flatMap]
  refine ⟨q, hq, List.mem_map.mpr ?_⟩
  rcases hr with ⟨k0, k1⟩ | ⟨k0, k1⟩
  · refine ⟨k.toNat, List.mem_range.mpr (by omega), ?_⟩
    rw [if_pos (by omega), show ((k.toNat : Nat) : Int) = k by omega]
    omega
  · refine ⟨(-k - 1).toNat, List.mem_range.mpr (by omega), ?_⟩
    rw [if_neg (by omega), show -(((-k - 1).toNat : Nat) : Int) - 1 = k by omega]
    omega
theorem few_after (lv : Int) (ls : List (Int × Int)) (e n : Int) : ∀ xs : List Int, xs.Nodup → (∀ p ∈ xs, after lv ls e n p ≠ 0) → xs.length ≤ ls.length * n.natAbs := fun xs nd h => by
  rw [← spots_len e n ls]
  exact pigeons nd fun x hx => after_spot (h x hx)
theorem spot_bound {ls : List (Int × Int)} {e n p B F : Int} {N : Nat} (h : p ∈ spots ls e n) (hB : ∀ q ∈ ls, -B ≤ q.1 ∧ q.1 ≤ B) (hF : -F ≤ e ∧ e ≤ F) (hn : n.natAbs ≤ N) : -(B + F * (N : Int)) ≤ p ∧ p ≤ B + F * (N : Int) := by
  unfold spots at h
  rw [List.mem_flatMap] at h
  obtain ⟨q, hq, hm⟩ := h
  obtain ⟨k, hk, rfl⟩ := List.mem_map.mp hm
  have hk' := List.mem_range.mp hk
  have hb := hB q hq
  have hF0 : 0 ≤ F := by omega
  have key : ∀ j : Int, -(N : Int) ≤ j → j ≤ N → -(F * (N : Int)) ≤ e * j ∧ e * j ≤ F * (N : Int) := fun j j0 j1 => by
    have a : (e * j).natAbs ≤ (F * (N : Int)).natAbs := by
      rw [Int.natAbs_mul, Int.natAbs_mul]
      exact Nat.mul_le_mul (by omega) (by omega)
    have b : 0 ≤ F * (N : Int) := Int.mul_nonneg hF0 (Int.natCast_nonneg N)
    omega
  have z := key (if 0 ≤ n then (k : Int) else -(k : Int) - 1) (by split <;> omega) (by split <;> omega)
  omega
theorem rising_len {lv : Int} {ls ms : List (Int × Int)} {e n : Int} (h : Rising lv ms) (hs : ∀ p, sumAt ms p = after lv ls e n p) : ms.length ≤ ls.length * n.natAbs := by
  have z := few_after lv ls e n (ms.map (·.1)) h.nd fun p hp => by
    obtain ⟨q, hq, rfl⟩ := List.mem_map.mp hp
    rw [← hs, h.mem hq]
    have := (h.lv q hq).1
    omega
  rw [List.length_map] at z
  exact z
end Lamp
set_option Elab.async false
set_option linter.all false
set_option maxRecDepth 100000
set_option maxHeartbeats 1000000
namespace Lamp
open PySem PySem.Spec PyProof.Rows L2
open TL (tl tl_append)
abbrev sLWalk : Stmt := top 53
def spLWalk : Sp := fun vs H Q _ => ∃ (p : Addr) (m : Nat), vs = [.ref p, .int (m : Int)] ∧ m ≤ 100 ∧ Pail H p ∧ ∀ (x : Str) H', Signs x → (tl x).length ≤ 2 * m → Pail H' p → But p H H' → Q (.str x) H'
theorem iteT' {A B : Prop} {c : Bool} (h : c = true) (a : A) : if c = true then A else B := by rw [if_pos h]; exact a
theorem un_nil {σ : L2.St} {H : Hp} {Q : List V → Hp → Prop} (h : Q [] H) : tNil σ H Q := h
theorem seq_by {A B : TS} {D : Ends} {σ : L2.St} {H : Hp} (R : L2.St → Hp → Prop) (h : ∀ T : L2.St → Hp → Prop, (∀ σ' H', R σ' H' → T σ' H') → A { D with nx := T } σ H) (k : ∀ σ' H', R σ' H' → B D σ' H') : tSeq A B D σ H := h (B D) k
theorem rd_but {H H' : Hp} {p t : Addr} {xs ys : List V} (h : Rd H t (.tup xs)) (hp : H p = some (.lst ys)) (b : But p H H') : Rd H' t (.tup xs) := by
  rcases h with h | ⟨o, h⟩
  · exact .inl (b _ _ (fun z => by rw [z, hp] at h; cases h) h)
  · exact .inr ⟨o, b _ _ (fun z => by rw [z, hp] at h; cases h) h⟩
theorem pail_lst {H : Hp} {p : Addr} (h : Pail H p) : ∃ xs, H p = some (.lst xs) := by
  obtain ⟨x, y, z, e, _⟩ := h
  exact ⟨_, e⟩
section
variable {P : Program} {w : World} {K : PySem.W.Frag} {mg : Str → Option Value} {base : Heap} {C : Addr}
theorem scLWalk : FnScope ["_law_pail", "_law_most", "_law_found", "_law_k"] ["_law_pail", "_law_most"] (defScope sLWalk) := ⟨rfl, rfl, rfl, by decide +kernel, rfl, by decide +kernel, by decide +kernel⟩
theorem ok_lwalk {f : Addr} {fd : FuncData} (F : Fun K "_law_walk" "_law_walk" sLWalk f fd) (Cs : Dr P w K mg base spCast "_law_cast" ["_law_pail", "_law_many"] 1) (An : Dr P w K mg base spAny "_law_any_of" ["_law_pail", "_law_some_here"] 2) (mr : mg "range" = none) : FnOk P w K mg base CX0 3 f fd ["_law_pail", "_law_most"] spLWalk := by
  refine F.ok scLWalk (fun vs H Q E h => ?_) (fun cdv A outer s H vs Q E hr h => ?_)
  · obtain ⟨p, m, rfl, _⟩ := h
    rfl
  · obtain ⟨p, m, rfl, hm, hp, q⟩ := h
    refine ⟨_, pss_cons (ps_set (i := 2) scLWalk.nd rfl (.inl rfl) pe_str)
      (pss_cons (ps_for PassesOwn.never rfl (pi_range1 rfl mr (pa_cons (pe_dr Cs (by decide) hr rfl (pa_cons (pv 0) (pa_cons (pe_op op_add (pv 1) pe_int) pa_nil))) pa_nil)) (pg_name (i := 3) scLWalk.nd rfl (.inl rfl))
        (pss_one (ps_set (i := 2) scLWalk.nd rfl (.inl rfl) (pe_op op_addS (pv 2) (pe_dr An (Nat.le_refl _) hr rfl (pa_cons (pv 0) (pa_cons (pe_lst (pa_cons pe_str (pa_cons pe_str (pa_cons pe_str (pa_cons pe_str (pa_cons pe_str (pa_cons pe_str (pa_cons pe_str pa_nil)))))))) pa_nil)))))))
      (pss_one (ps_ret (pv 2)))), ?_⟩
    refine sq_set (v := .str "") val_c ?_
    refine ⟨_, rfl, _, rfl, _, _, rfl, rfl, p, _, rfl, by omega, by omega, hp, fun r H1 r0 r1 hp1 bt1 => ?_⟩
    obtain ⟨n, en⟩ : ∃ n : Nat, r = (n : Int) := ⟨r.toNat, by omega⟩
    subst en
    refine ⟨(n : Int), rfl, by omega, by omega, ?_⟩
    rw [show ((n : Int)).toNat = n by omega]
    refine for_range (lo := 0) (n := n) (fun i σ' H' => ∃ x y, σ' = [some (.ref p), some (.int (m : Int)), some (.str x), y] ∧ But p H H' ∧ Pail H' p ∧ Signs x ∧ (tl x).length ≤ 2 * i) ⟨"", _, rfl, bt1, hp1, (fun c h => by have : tl ("" : Str) = [] := rfl; rw [this] at h; cases h), Nat.zero_le _⟩ (fun i σ' H' hi z => ?_) (fun σ' H' z => ?_)
    · obtain ⟨x, y, rfl, bt, hp2, hs, hl⟩ := z
      refine ⟨_, rfl, _, rfl, (by show 7 ≤ sizeLine; decide), fun l nl => ?_⟩
      have sl := same_of (o := .lst [V.str "<", V.str ">", V.str "+", V.str "+", V.str ">", V.str "<<", V.str ">>"]) nl
      refine ⟨p, l, _, rfl, hp2.ne nl, upd_same, by decide, by decide, hp2.same sl, fun v H3 hv hp3 bt3 => ?_⟩
      obtain ⟨z, rfl, hz, hz2⟩ : ∃ z : Str, v = .str z ∧ Signs z ∧ (tl z).length ≤ 2 := by
        simp only [List.mem_cons, List.not_mem_nil, or_false] at hv
        have s1 : Signs ("<" : Str) := fun c h => by have e : tl ("<" : Str) = [60] := rfl; rw [e] at h; simp only [List.mem_cons, List.not_mem_nil, or_false] at h; exact .inl h
        have s2 : Signs (">" : Str) := fun c h => by have e : tl (">" : Str) = [62] := rfl; rw [e] at h; simp only [List.mem_cons, List.not_mem_nil, or_false] at h; exact .inr (.inl h)
        have s3 : Signs ("+" : Str) := fun c h => by have e : tl ("+" : Str) = [43] := rfl; rw [e] at h; simp only [List.mem_cons, List.not_mem_nil, or_false] at h; exact .inr (.inr h)
        have s4 : Signs ("<<" : Str) := fun c h => by have e : tl ("<<" : Str) = [60, 60] := rfl; rw [e] at h; simp only [List.mem_cons, List.not_mem_nil, or_false, or_self] at h; exact .inl h
        have s5 : Signs (">>" : Str) := fun c h => by have e : tl (">>" : Str) = [62, 62] := rfl; rw [e] at h; simp only [List.mem_cons, List.not_mem_nil, or_false, or_self] at h; exact .inr (.inl h)
        rcases hv with e | e | e | e | e | e | e
        · exact ⟨_, e, s1, by decide⟩
        · exact ⟨_, e, s2, by decide⟩
        · exact ⟨_, e, s3, by decide⟩
        · exact ⟨_, e, s3, by decide⟩
        · exact ⟨_, e, s2, by decide⟩
        · exact ⟨_, e, s4, by decide⟩
        · exact ⟨_, e, s5, by decide⟩
      have e1 : x.length = (tl x).length := TL.len_tl x
      have e2 : z.length = (tl z).length := TL.len_tl z
      refine ⟨x, z, rfl, rfl, by rw [sizeLine_eq]; omega, ?_⟩
      refine ⟨_, _, rfl, bt.trans ((But.of sl).trans bt3), hp3, fun c hc => ?_, ?_⟩
      · rw [tl_append] at hc
        rcases List.mem_append.mp hc with h | h
        · exact hs c h
        · exact hz c h
      · rw [tl_append, List.length_append]
        omega
    · obtain ⟨x, y, rfl, bt, hp2, hs, hl⟩ := z
      exact ⟨_, rfl, q x H' hs (by omega) hp2 bt⟩
end
end Lamp
set_option Elab.async false
set_option linter.all false
set_option maxRecDepth 100000
set_option maxHeartbeats 1000000
namespace Lamp
open PySem PySem.Spec PyProof.Rows L2
/-! a text the other way round, a text many times -/
def revS (z : Str) : Str := ⟨z.cps.toList.reverse.toArray⟩
theorem sliceRev (n : Nat) : Builtin.Str.strSliceIndices none none (-1) n = (List.range n).map fun k => n - 1 - k := by
  show sliceRange ((n : Int) - 1) (-1) (-1) = _
  exact PySem.W.krv_sliceRange n
theorem pickRev (a : Array Nat) : ((Builtin.Str.strSliceIndices none none (-1) a.size).filterMap (a[·]?)).toArray = a.toList.reverse.toArray := by
  rw [sliceRev, PySem.W.krv_range, List.filterMap_reverse, PySem.W.krv_all]
def tRevS (te ts : TE) : TE := fun σ H Q => te σ H fun x H1 => ts σ H1 fun y H2 => ∃ z, x = .str z ∧ y = .int (-1) ∧ z.length ≤ sizeLine ∧ Q (.str (revS z)) H2
/-- s[::-1] of a text -/
theorem pe_revS {X : Cx} {e st : Expr} {te ts : TE} {p2 pos : Pos} (he : PE X e te) (hs : PE X st ts) : PE X (.Subscript e (.Slice none none (some st) p2) pos) (tRevS te ts) := by
  refine ⟨fun pins s σ H Q I h => ?_⟩
  refine Subscript_ (thn (he.run pins s σ H _ I h) fun v s1 ⟨x, H1, I1, r1, q1⟩ => ?_)
  refine wpAny_Slice ?_
  rw [evalPart_none]
  refine wpAny_pure ?_
  refine wpAny_pure ?_
  rw [evalPart_some]
  refine thn (hs.run pins s1 σ H1 _ I1 q1) fun vs s2 ⟨y, H2, I2, r2, q2⟩ => ?_
  obtain ⟨z, rfl, rfl, hz, q⟩ := q2
  obtain ⟨t, rfl⟩ := r1
  obtain ⟨t2, rfl⟩ := r2
  have I4 : Inv X pins σ H2 { s2 with heap := s2.heap.push { cls := .type "slice", data := .fields #[.none, .none, .int (-1) t2] } } := I2.kept (t' := s2.toks) fun b ob q => Heap.get?_push_of_some _ q
  show wpAny (model X.prog X.w) X.A (subscriptTail e (.Slice none none (some st) p2) (.str z t) (.ref s2.heap.objs.size)) (EP X pins σ Q) X.xe { s2 with heap := s2.heap.push { cls := .type "slice", data := .fields #[.none, .none, .int (-1) t2] } }
  refine tail_any (ops := [.ref s2.heap.objs.size, .str z t]) (typeIs_str _ z t) F.slot_str_getitem.lookup (wpAny_getItem_str_slice (l := none) (u := none) (st := some (-1, t2)) ⟨_, Heap.get?_push_size _ rfl, rfl, rfl⟩ rfl ?_) (by with_unfolding_all rfl)
  show Made.post (if ((-1 : Int) == 1 && (Builtin.Str.strSliceIndices none none (-1) z.length).length == z.length) = true then Made.val (.str z t)
    else Made.str ⟨((Builtin.Str.strSliceIndices none none (-1) z.length).filterMap (z.cps[·]?)).toArray⟩) (EP X pins σ Q) _
  rw [if_neg (by intro h; cases h)]
  have e1 : ((Builtin.Str.strSliceIndices none none (-1) z.length).filterMap (z.cps[·]?)).toArray = (revS z).cps := pickRev z.cps
  rw [e1]
  refine ⟨?_, .str (revS z), H2, I4.tok _, ⟨_, rfl⟩, q⟩
  have : (revS z).length = z.length := by
    show z.cps.toList.reverse.toArray.size = z.cps.size
    rw [List.size_toArray, List.length_reverse, Array.length_toList]
  show (revS z).length ≤ sizeLine
  omega
/-- so many of one text -/
def repS (n : Nat) (x : Str) : Str := ⟨(List.replicate n x.cps.toList).flatten.toArray⟩
def rRepS : R2 := fun x y H Q => ∃ (z : Str) (k : Int), x = .str z ∧ y = .int k ∧ 0 < z.length ∧ 0 ≤ k ∧ z.length * k.toNat ≤ 100000 ∧ Q (.str (repS k.toNat z)) H
theorem fold_rep (b : Array Nat) : ∀ (n : Nat) (a : Array Nat), (List.replicate n b).foldl (· ++ ·) a = a ++ (List.replicate n b.toList).flatten.toArray
  | 0, a => by simp
  | n + 1, a => by
    rw [List.replicate_succ, List.foldl_cons, fold_rep b n, List.replicate_succ]
    apply Array.ext'
    simp
theorem rep_len (b : List Nat) (n : Nat) : (List.replicate n b).flatten.length = n * b.length := by
  induction n with
  | zero => simp
  | succ n ih => rw [List.replicate_succ, List.flatten_cons, List.length_append, ih, Nat.succ_mul, Nat.add_comm]
theorem op_repS {X : Cx} : OpR X (binaryOp .Mult) rRepS := by
  intro pins s σ H x y v u Q I rx ry h
  obtain ⟨z, k, rfl, rfl, z0, k0, k1, q⟩ := h
  obtain ⟨t, rfl⟩ := rx
  obtain ⟨t', rfl⟩ := ry
  have hs : (100000 : Nat) ≤ sizeLine := by decide
  have k2 : k ≤ 100000 := by
    have : k.toNat ≤ z.length * k.toNat := Nat.le_mul_of_pos_left _ z0
    omega
  have hk : ((k.toNat : Nat) : Int) = k := Int.toNat_of_nonneg k0
  refine PySem.P.mul_str (by rw [decide_eq_false (by omega), decide_eq_false (by omega)]; rfl) (fun h1 h2 => ?_) (fun h1 h2 => ?_) ?_
  · have : (z.length : Int) ≤ (2 ^ 63 - 1 : Int) / k := by
      apply Int.le_ediv_of_mul_le (by omega)
      have e : ((z.length * k.toNat : Nat) : Int) = (z.length : Int) * k := by rw [Int.natCast_mul, hk]
      rw [← e]
      omega
    omega
  · unfold Builtin.Str.tooLong
    exact decide_eq_false (by omega)
  · by_cases h1 : k < 1
    · rw [if_pos h1]
      have e : k = 0 := by omega
      subst e
      exact ⟨by decide, .str ⟨#[]⟩, H, I.tok _, ⟨_, rfl⟩, q⟩
    · rw [if_neg h1]
      by_cases h2 : (k == 1 || z.length == 0) = true
      · rw [if_pos h2]
        have e : k = 1 := by
          rw [Bool.or_eq_true] at h2
          rcases h2 with h2 | h2
          · exact eq_of_beq h2
          · have := eq_of_beq h2
            omega
        subst e
        have e1 : repS (1 : Int).toNat z = z := by
          show (⟨[z.cps.toList].flatten.toArray⟩ : Str) = z
          rw [List.flatten_cons, List.flatten_nil, List.append_nil]
        rw [e1] at q
        exact ⟨.str z, H, I, ⟨_, rfl⟩, q⟩
      · rw [if_neg h2]
        have e1 : ((List.replicate k.toNat z.cps).foldl (· ++ ·) #[]) = (repS k.toNat z).cps := by
          rw [fold_rep]
          show #[] ++ _ = _
          rw [Array.empty_append]
          rfl
        show Made.post (Made.str ⟨(List.replicate k.toNat z.cps).foldl (· ++ ·) #[]⟩) (EP X pins σ Q) s
        rw [e1]
        refine ⟨?_, .str (repS k.toNat z), H, I.tok _, ⟨_, rfl⟩, q⟩
        show ((List.replicate k.toNat z.cps.toList).flatten.toArray).size ≤ sizeLine
        rw [List.size_toArray, rep_len, Nat.mul_comm, Array.length_toList]
        exact Nat.le_trans k1 hs
end Lamp
set_option Elab.async false
set_option linter.all false
namespace Lamp
open PySem PySem.Spec PyProof.Rows L2
open TL (tl)
theorem tl_rep (n : Nat) (c : Nat) : tl (repS n ⟨#[c]⟩) = List.replicate n c := by
  show ((List.replicate n [c]).flatten).toArray.toList = _
  rw [List.toList_toArray]
  induction n with
  | zero => rfl
  | succ n ih => rw [List.replicate_succ, List.flatten_cons, ih, List.replicate_succ]; rfl
theorem tl_rev (x : Str) : tl (revS x) = (tl x).reverse := by
  show x.cps.toList.reverse.toArray.toList = _
  rw [List.toList_toArray]
end Lamp
set_option Elab.async false
set_option linter.all false
set_option maxRecDepth 100000
set_option maxHeartbeats 1000000
namespace Lamp
/-! the least walks: what they are, and that there are no shorter ones -/
def placesOf (ms : List (Int × Int)) (fin : Int) : List Int := ms.map (·.1) ++ [0, fin]
structure Low (ns : List Int) (m : Int) : Prop where
  mem : m ∈ ns
  le : ∀ y ∈ ns, m ≤ y
structure High (ns : List Int) (m : Int) : Prop where
  mem : m ∈ ns
  le : ∀ y ∈ ns, y ≤ m
def levelsOf (ms : List (Int × Int)) : Int := (ms.map (·.2)).sum
def absZ (i : Int) : Int := (i.natAbs : Int)
def leastN (ms : List (Int × Int)) (fin low high : Int) : Int := levelsOf ms + 2 * (high - low) - absZ fin
/-! presses -/
theorem walk_pre (cs : List Nat) (i : Nat) : ∀ q ∈ (walkL (cs.take i)).2, q ∈ (walkL cs).2 := fun q hq => by
  have e : walkL cs = ((walkL (cs.take i)).1 + posL (cs.drop i), (walkL (cs.take i)).2 ++ shiftL (walkL (cs.take i)).1 (prL (cs.drop i))) := by
    have h : cs = cs.take i ++ cs.drop i := (List.take_append_drop i cs).symm
    show cs.foldl walkF (0, []) = _
    rw [h, List.foldl_append, ← h]
    exact walk_from (cs.drop i) _ _
  rw [e]
  exact List.mem_append_left _ hq
theorem nodup_le : ∀ {xs S : List Int}, xs.Nodup → (∀ x ∈ xs, x ∈ S) → xs.length ≤ S.length
  | [], _, _, _ => Nat.zero_le _
  | x :: xs, S, h, hs => by
    cases h with
    | cons h1 h2 =>
      have hx := hs x (List.mem_cons_self ..)
      have ih := nodup_le (xs := xs) (S := S.erase x) h2 fun y hy => by
        have ne : y ≠ x := fun e => h1 y hy e.symm
        exact (List.mem_erase_of_ne ne).mpr (hs y (List.mem_cons_of_mem _ hy))
      rw [List.length_erase_of_mem hx] at ih
      have : 0 < S.length := List.length_pos_of_mem hx
      rw [List.length_cons]
      omega
theorem count_split (ps : List (Int × Int)) (h : ∀ q ∈ ps, q.2 = 1) (p : Int) : sumAt ps p + ((ps.filter fun q => decide (q.1 ≠ p)).length : Int) = (ps.length : Int) := by
  induction ps with
  | nil => rfl
  | cons q ps ih =>
    have ih' := ih fun r hr => h r (List.mem_cons_of_mem _ hr)
    have e := h q (List.mem_cons_self ..)
    rw [sumAt_cons, List.length_cons]
    by_cases z : q.1 = p
    · rw [if_pos z, List.filter_cons_of_neg (by simp [z]), e]
      omega
    · rw [if_neg z, List.filter_cons_of_pos (by simp [z]), List.length_cons]
      omega
theorem sum_filter (ps : List (Int × Int)) {p x : Int} (h : x ≠ p) : sumAt (ps.filter fun q => decide (q.1 ≠ p)) x = sumAt ps x := by
  induction ps with
  | nil => rfl
  | cons q ps ih =>
    rw [sumAt_cons]
    by_cases z : q.1 = p
    · rw [List.filter_cons_of_neg (by simp [z]), ih, if_neg (fun k => h (k.symm.trans z)), Int.zero_add]
    · rw [List.filter_cons_of_pos (by simp [z]), sumAt_cons, ih]
/-- so many presses at least -/
theorem presses_many : ∀ {ms ps : List (Int × Int)}, (ms.map (·.1)).Nodup → (∀ q ∈ ps, q.2 = 1) → (∀ q ∈ ms, q.2 ≤ sumAt ps q.1) → levelsOf ms ≤ (ps.length : Int)
  | [], ps, _, _, _ => by
    show (0 : Int) ≤ _
    omega
  | q :: ms, ps, nd, h1, h2 => by
    rw [List.map_cons] at nd
    cases nd with
    | cons n1 n2 =>
      have ih := presses_many (ms := ms) (ps := ps.filter fun r => decide (r.1 ≠ q.1)) n2 (fun r hr => h1 r (List.mem_filter.mp hr).1) fun r hr => by
        have ne : r.1 ≠ q.1 := fun e => n1 r.1 (List.mem_map.mpr ⟨r, hr, rfl⟩) e.symm
        rw [sum_filter ps ne]
        exact h2 r (List.mem_cons_of_mem _ hr)
      have c := count_split ps h1 q.1
      have z := h2 q (List.mem_cons_self ..)
      show q.2 + levelsOf ms ≤ _
      omega
/-! moves -/
def movesL (cs : List Nat) : Nat := (cs.filter fun c => decide (c ≠ 43)).length
theorem len_walk (cs : List Nat) : ∀ i, (cs.take i).length = movesL (cs.take i) + (walkL (cs.take i)).2.length
  | 0 => by rw [List.take_zero]; rfl
  | i + 1 => by
    have ih := len_walk cs i
    cases e : cs[i]? with
    | none =>
      have l := List.getElem?_eq_none_iff.mp e
      rw [List.take_of_length_le (by omega), ← List.take_of_length_le l]
      exact ih
    | some c =>
      rw [walkL_snoc e, List.take_add_one, e]
      unfold movesL at *
      rw [List.length_append, List.filter_append, List.length_append]
      by_cases h : c = 43
      · subst h
        rw [wf_p, List.length_append]
        show (cs.take i).length + 1 = _ + 0 + (_ + 1)
        omega
      · have h2 : ([c].filter fun c => decide (c ≠ 43)).length = 1 := by
          rw [List.filter_cons_of_pos (by simp [h])]
          rfl
        show (cs.take i).length + 1 = _ + ([c].filter fun c => decide (c ≠ 43)).length + _
        rw [h2]
        by_cases h62 : c = 62
        · subst h62
          rw [wf_r]
          show _ = _ + 1 + (walkL (cs.take i)).2.length
          omega
        · rw [wf_l h h62]
          show _ = _ + 1 + (walkL (cs.take i)).2.length
          omega
structure Span (cs : List Nat) (a b : Int) : Prop where
  a0 : a ≤ 0
  b0 : 0 ≤ b
  pa : a ≤ (walkL cs).1
  pb : (walkL cs).1 ≤ b
  pr : ∀ q ∈ (walkL cs).2, a ≤ q.1 ∧ q.1 ≤ b
  mv : 2 * (b - a) - absZ (walkL cs).1 ≤ (movesL cs : Int)
theorem absZ_le (i : Int) : (absZ i = i ∨ absZ i = -i) ∧ i ≤ absZ i ∧ -i ≤ absZ i := by
  unfold absZ
  omega
theorem span_of (cs : List Nat) : ∀ i, ∃ a b, Span (cs.take i) a b
  | 0 => ⟨0, 0, by decide, by decide, by rw [List.take_zero]; decide, by rw [List.take_zero]; decide, by rw [List.take_zero]; exact fun q h => (nomatch h), by rw [List.take_zero]; decide⟩
  | i + 1 => by
    obtain ⟨a, b, h⟩ := span_of cs i
    cases e : cs[i]? with
    | none =>
      have l := List.getElem?_eq_none_iff.mp e
      rw [List.take_of_length_le (by omega), ← List.take_of_length_le l]
      exact ⟨a, b, h⟩
    | some c =>
      have hp := h.pa
      have hq := h.pb
      have ha := h.a0
      have hb := h.b0
      have hm := h.mv
      have az := absZ_le (walkL (cs.take i)).1
      have em : movesL (cs.take (i + 1)) = movesL (cs.take i) + (if c = 43 then 0 else 1) := by
        rw [List.take_add_one, e]
        unfold movesL
        rw [List.filter_append, List.length_append]
        show _ + ([c].filter fun c => decide (c ≠ 43)).length = _
        by_cases z : c = 43
        · rw [if_pos z, List.filter_cons_of_neg (by simp [z])]
          rfl
        · rw [if_neg z, List.filter_cons_of_pos (by simp [z])]
          rfl
      by_cases h43 : c = 43
      · refine ⟨a, b, ha, hb, ?_, ?_, ?_, ?_⟩
        · rw [walkL_snoc e, h43, wf_p]; exact hp
        · rw [walkL_snoc e, h43, wf_p]; exact hq
        · rw [walkL_snoc e, h43, wf_p]
          intro q hq2
          rcases List.mem_append.mp hq2 with z | z
          · exact h.pr q z
          · rw [List.mem_singleton.mp z]; exact ⟨hp, hq⟩
        · rw [em, if_pos h43, walkL_snoc e, h43, wf_p]
          exact hm
      · by_cases h62 : c = 62
        · have az2 := absZ_le ((walkL (cs.take i)).1 + 1)
          refine ⟨a, if (walkL (cs.take i)).1 = b then b + 1 else b, ha, by split <;> omega, ?_, ?_, ?_, ?_⟩
          · rw [walkL_snoc e, h62, wf_r]; show a ≤ (walkL (cs.take i)).1 + 1; omega
          · rw [walkL_snoc e, h62, wf_r]; show (walkL (cs.take i)).1 + 1 ≤ _; split <;> omega
          · rw [walkL_snoc e, h62, wf_r]
            intro q hq2
            have := h.pr q hq2
            refine ⟨this.1, ?_⟩
            split <;> omega
          · rw [em, if_neg h43, walkL_snoc e, h62, wf_r]
            show _ - absZ ((walkL (cs.take i)).1 + 1) ≤ _
            split <;> omega
        · have az2 := absZ_le ((walkL (cs.take i)).1 + -1)
          refine ⟨if (walkL (cs.take i)).1 = a then a - 1 else a, b, by split <;> omega, hb, ?_, ?_, ?_, ?_⟩
          · rw [walkL_snoc e, wf_l h43 h62]; show _ ≤ (walkL (cs.take i)).1 + -1; split <;> omega
          · rw [walkL_snoc e, wf_l h43 h62]; show (walkL (cs.take i)).1 + -1 ≤ _; omega
          · rw [walkL_snoc e, wf_l h43 h62]
            intro q hq2
            have := h.pr q hq2
            refine ⟨?_, this.2⟩
            split <;> omega
          · rw [em, if_neg h43, walkL_snoc e, wf_l h43 h62]
            show _ - absZ ((walkL (cs.take i)).1 + -1) ≤ _
            split <;> omega
/-- no row with this round is shorter -/
theorem least_le {lv : Int} {cs : List Nat} {ms : List (Int × Int)} {low high : Int} (h0 : 0 < lv) (hr : Rising lv ms) (hs : ∀ p, sumAt ms p = sumAt (walkL cs).2 p % lv) (hl : Low (placesOf ms (walkL cs).1) low) (hh : High (placesOf ms (walkL cs).1) high) : leastN ms (walkL cs).1 low high ≤ (cs.length : Int) := by
  obtain ⟨a, b, S⟩ := span_of cs cs.length
  have e1 := len_walk cs cs.length
  rw [List.take_length] at S e1
  have one : ∀ q ∈ (walkL cs).2, q.2 = 1 := by
    have := walkL_one cs cs.length
    rw [List.take_length] at this
    exact this
  have inside : ∀ y ∈ placesOf ms (walkL cs).1, a ≤ y ∧ y ≤ b := fun y hy => by
    unfold placesOf at hy
    rcases List.mem_append.mp hy with z | z
    · obtain ⟨q, hq, rfl⟩ := List.mem_map.mp z
      have z1 := hr.lv q hq
      have z2 := hr.mem hq
      rw [hs] at z2
      have hne : sumAt (walkL cs).2 q.1 ≠ 0 := fun k => by
        rw [k, Int.zero_emod] at z2
        omega
      obtain ⟨r, hr1, er⟩ := sum_mem hne
      rw [← er]
      exact S.pr r hr1
    · simp only [List.mem_cons, List.not_mem_nil, or_false] at z
      rcases z with z | z
      · rw [z]; exact ⟨S.a0, S.b0⟩
      · rw [z]; exact ⟨S.pa, S.pb⟩
  have p1 := presses_many (ms := ms) (ps := (walkL cs).2) hr.nd one fun q hq => by
    have z2 := hr.mem hq
    rw [hs] at z2
    have nn : ∀ ps : List (Int × Int), (∀ q ∈ ps, q.2 = 1) → ∀ p, 0 ≤ sumAt ps p := fun ps => by
      induction ps with
      | nil => intro _ p; exact Int.le_refl _
      | cons q ps ih =>
        intro h p
        rw [sumAt_cons]
        have := ih (fun r hr => h r (List.mem_cons_of_mem _ hr)) p
        have := h q (List.mem_cons_self ..)
        split <;> omega
    have n0 := nn _ one q.1
    have d0 : 0 ≤ sumAt (walkL cs).2 q.1 / lv := Int.ediv_nonneg n0 (Int.le_of_lt h0)
    have m0 := Int.mul_nonneg (Int.le_of_lt h0) d0
    have e2 := Int.emod_add_mul_ediv (sumAt (walkL cs).2 q.1) lv
    omega
  have il := inside low hl.mem
  have ih := inside high hh.mem
  have mv := S.mv
  unfold leastN
  omega
end Lamp
set_option Elab.async false
set_option linter.all false
set_option maxRecDepth 100000
set_option maxHeartbeats 1000000
namespace Lamp
open PySem PySem.Spec PyProof.Rows L2
/-! a row that presses each lamp when it first comes to it -/
def inB (a b : Int) (q : Int × Int) : Bool := decide (a ≤ q.1 ∧ q.1 ≤ b)
def outB (a b : Int) (q : Int × Int) : Bool := decide (¬ (a ≤ q.1 ∧ q.1 ≤ b))
def minZ (a x : Int) : Int := if x < a then x else a
def maxZ (b x : Int) : Int := if b < x then x else b
/-- how often it presses when it comes to x -/
def popK (ms : List (Int × Int)) (a b x : Int) : Int := if a ≤ x ∧ x ≤ b then 0 else sumAt ms x
structure Row (ms : List (Int × Int)) (x a b : Int) (cs : List Nat) (n : Int) : Prop where
  ax : a ≤ x
  xb : x ≤ b
  a0 : a ≤ 0
  b0 : 0 ≤ b
  pos : posL cs = x
  sum : ∀ p, sumAt (prL cs) p = if a ≤ p ∧ p ≤ b then sumAt ms p else 0
  len : (cs.length : Int) = n + levelsOf (ms.filter (inB a b))
  sg : ∀ c ∈ cs, IsSign c
theorem rep43 (n : Nat) : posL (List.replicate n 43) = 0 ∧ ∀ p, sumAt (prL (List.replicate n 43)) p = if 0 = p then (n : Int) else 0 := by
  have e : walkL (List.replicate n 43) = (0, List.replicate n (0, 1)) := by
    unfold walkL
    rw [walk_rep, List.nil_append]
  refine ⟨by show (walkL _).1 = _; rw [e], fun p => ?_⟩
  show sumAt (walkL _).2 p = _
  rw [e]
  exact sum_rep p n
theorem levels_more {a b a' b' x : Int} (h : ∀ p : Int, (a' ≤ p ∧ p ≤ b') ↔ ((a ≤ p ∧ p ≤ b) ∨ p = x)) (hx : ¬ (a ≤ x ∧ x ≤ b)) : ∀ ms : List (Int × Int), levelsOf (ms.filter (inB a' b')) = levelsOf (ms.filter (inB a b)) + sumAt ms x
  | [] => rfl
  | q :: ms => by
    have ih := levels_more h hx ms
    rw [sumAt_cons]
    by_cases z : q.1 = x
    · have i1 : inB a' b' q = true := decide_eq_true ((h q.1).mpr (.inr z))
      have i2 : ¬ inB a b q = true := fun k => hx (by have := of_decide_eq_true k; rw [z] at this; exact this)
      rw [List.filter_cons_of_pos i1, List.filter_cons_of_neg i2, if_pos z]
      show q.2 + levelsOf _ = _
      omega
    · by_cases y : a ≤ q.1 ∧ q.1 ≤ b
      · have i1 : inB a' b' q = true := decide_eq_true ((h q.1).mpr (.inl y))
        have i2 : inB a b q = true := decide_eq_true y
        rw [List.filter_cons_of_pos i1, List.filter_cons_of_pos i2, if_neg z]
        show q.2 + levelsOf _ = q.2 + levelsOf _ + _
        omega
      · have i1 : ¬ inB a' b' q = true := fun k => by
          have := (h q.1).mp (of_decide_eq_true k)
          rcases this with k | k
          · exact y k
          · exact z k
        have i2 : ¬ inB a b q = true := fun k => y (of_decide_eq_true k)
        rw [List.filter_cons_of_neg i1, List.filter_cons_of_neg i2, if_neg z, Int.zero_add]
        exact ih
theorem wide_iff {a b x x' : Int} (ax : a ≤ x) (xb : x ≤ b) (h : x' = x + 1 ∨ x' = x - 1) (hx : ¬ (a ≤ x' ∧ x' ≤ b)) (p : Int) : (minZ a x' ≤ p ∧ p ≤ maxZ b x') ↔ ((a ≤ p ∧ p ≤ b) ∨ p = x') := by
  unfold minZ maxZ
  split <;> split <;> omega
theorem wide_in {a b x' : Int} (hx : a ≤ x' ∧ x' ≤ b) : minZ a x' = a ∧ maxZ b x' = b := by
  unfold minZ maxZ
  rw [if_neg (by omega), if_neg (by omega)]
  exact ⟨rfl, rfl⟩
/-- one step on -/
theorem Row.step {ms : List (Int × Int)} {x a b n x' : Int} {cs : List Nat} {s : Nat} (h : Row ms x a b cs n) (hs : (s = 62 ∧ x' = x + 1) ∨ (s = 60 ∧ x' = x - 1)) (hk : 0 ≤ popK ms a b x') : Row ms x' (minZ a x') (maxZ b x') (cs ++ ([s] ++ List.replicate (popK ms a b x').toNat 43)) (n + 1) := by
  have hst : posL [s] = x' - x ∧ prL [s] = [] := by
    rcases hs with ⟨rfl, e⟩ | ⟨rfl, e⟩
    · exact ⟨by show (0 : Int) + 1 = _; omega, rfl⟩
    · exact ⟨by show (0 : Int) + -1 = _; omega, rfl⟩
  obtain ⟨w1, w2⟩ := walk_app cs ([s] ++ List.replicate (popK ms a b x').toNat 43)
  obtain ⟨v1, v2⟩ := walk_app [s] (List.replicate (popK ms a b x').toNat 43)
  obtain ⟨r1, r2⟩ := rep43 (popK ms a b x').toNat
  have hp := h.pos
  have hadj : x' = x + 1 ∨ x' = x - 1 := by rcases hs with ⟨_, e⟩ | ⟨_, e⟩ <;> omega
  have ax := h.ax
  have xb := h.xb
  have a0 := h.a0
  have b0 := h.b0
  refine ⟨?_, ?_, ?_, ?_, ?_, fun p => ?_, ?_, fun c hc => ?_⟩
  · unfold minZ; split <;> omega
  · unfold maxZ; split <;> omega
  · unfold minZ; split <;> omega
  · unfold maxZ; split <;> omega
  · rw [w1, v1, r1, hst.1, hp]; omega
  · rw [w2, v2, r2, h.sum, hst.1, hst.2, sumAt_nil, hp, Int.toNat_of_nonneg hk, Int.zero_add]
    by_cases hx : a ≤ x' ∧ x' ≤ b
    · obtain ⟨e1, e2⟩ := wide_in hx
      rw [e1, e2]
      have z : popK ms a b x' = 0 := if_pos hx
      rw [z]
      split <;> split <;> omega
    · have iff := wide_iff ax xb hadj hx p
      have z : popK ms a b x' = sumAt ms x' := if_neg hx
      rw [z]
      by_cases hpx : p = x'
      · subst hpx
        rw [if_neg hx, if_pos (by omega), if_pos (iff.mpr (.inr rfl)), Int.zero_add]
      · rw [if_neg (show ¬ (0 : Int) = p - x - (x' - x) by omega), Int.add_zero]
        by_cases hpi : a ≤ p ∧ p ≤ b
        · rw [if_pos hpi, if_pos (iff.mpr (.inl hpi))]
        · rw [if_neg hpi, if_neg (fun k => (iff.mp k).elim hpi hpx)]
  · rw [List.length_append, List.length_append, List.length_replicate]
    have hl := h.len
    show ((cs.length + (1 + _) : Nat) : Int) = _
    by_cases hx : a ≤ x' ∧ x' ≤ b
    · obtain ⟨e1, e2⟩ := wide_in hx
      rw [e1, e2]
      have z : popK ms a b x' = 0 := if_pos hx
      rw [z]
      show ((cs.length + (1 + 0) : Nat) : Int) = _
      omega
    · rw [levels_more (wide_iff ax xb hadj hx) hx ms]
      have z : popK ms a b x' = sumAt ms x' := if_neg hx
      rw [z] at hk ⊢
      omega
  · rcases List.mem_append.mp hc with k | k
    · exact h.sg c k
    · rcases List.mem_append.mp k with k | k
      · rw [List.mem_singleton.mp k]
        rcases hs with ⟨e, _⟩ | ⟨e, _⟩
        · rw [e]; exact .inr (.inl rfl)
        · rw [e]; exact .inl rfl
      · exact .inr (.inr (List.eq_of_mem_replicate k))
/-- where it begins -/
theorem Row.first {ms : List (Int × Int)} (hk : 0 ≤ sumAt ms 0) : Row ms 0 0 0 (List.replicate (sumAt ms 0).toNat 43) 0 := by
  obtain ⟨r1, r2⟩ := rep43 (sumAt ms 0).toNat
  refine ⟨Int.le_refl _, Int.le_refl _, Int.le_refl _, Int.le_refl _, r1, fun p => ?_, ?_, fun c hc => .inr (.inr (List.eq_of_mem_replicate hc))⟩
  · rw [r2, Int.toNat_of_nonneg hk]
    by_cases h : (0 : Int) = p
    · subst h
      rw [if_pos rfl, if_pos ⟨Int.le_refl _, Int.le_refl _⟩]
    · rw [if_neg h, if_neg (by omega)]
  · rw [List.length_replicate, Int.zero_add]
    have e := levels_more (a := 1) (b := 0) (a' := 0) (b' := 0) (x := 0) (fun p => by omega) (by omega) ms
    have e2 : levelsOf (ms.filter (inB 1 0)) = 0 := by
      have : ms.filter (inB 1 0) = [] := by
        rw [List.filter_eq_nil_iff]
        intro q _ k
        have := of_decide_eq_true k
        omega
      rw [this]
      rfl
    rw [e, e2]
    omega
/-! what waits -/
theorem valV_out {cs : List (Int × Int)} {p : Int} (h : p ∉ cs.map (·.1)) : valV (enc cs) (Sum.inl p) = none := by
  induction cs with
  | nil => rfl
  | cons q cs ih =>
    show valV ((Sum.inl q.1, V.int q.2) :: enc cs) (Sum.inl p) = none
    rw [valV_neg (fun e => h (by rw [List.map_cons]; exact List.mem_cons.mpr (.inl (Sum.inl.inj e).symm)))]
    exact ih fun z => h (by rw [List.map_cons]; exact List.mem_cons_of_mem _ z)
theorem drop_enc (cs : List (Int × Int)) (p : Int) : dropK (enc cs) (Sum.inl p) = enc (cs.filter fun q => decide (q.1 ≠ p)) := by
  unfold dropK enc
  rw [List.filter_map]
  congr 1
  apply List.filter_congr
  intro q _
  show decide ((Sum.inl q.1 : Key) ≠ Sum.inl p) = decide (q.1 ≠ p)
  apply decide_eq_decide.mpr
  exact ⟨fun h e => h (by rw [e]), fun h e => h (Sum.inl.inj e)⟩
theorem sub_nodup {f : Int × Int → Bool} {ms : List (Int × Int)} (h : (ms.map (·.1)).Nodup) : ((ms.filter f).map (·.1)).Nodup := h.sublist (List.Sublist.map _ List.filter_sublist)
/-- what is taken when it comes to x' -/
theorem pop_spec {ms : List (Int × Int)} {a b x' a' b' : Int} (nd : (ms.map (·.1)).Nodup) (h : (a ≤ x' ∧ x' ≤ b ∧ a' = a ∧ b' = b) ∨ (¬ (a ≤ x' ∧ x' ≤ b) ∧ ∀ p : Int, (a' ≤ p ∧ p ≤ b') ↔ ((a ≤ p ∧ p ≤ b) ∨ p = x'))) :
    (∀ v, valV (enc (ms.filter (outB a b))) (Sum.inl x') = some v → v = .int (popK ms a b x') ∧ dropK (enc (ms.filter (outB a b))) (Sum.inl x') = enc (ms.filter (outB a' b'))) ∧
    (valV (enc (ms.filter (outB a b))) (Sum.inl x') = none → popK ms a b x' = 0 ∧ ms.filter (outB a b) = ms.filter (outB a' b')) := by
  by_cases hm : x' ∈ (ms.filter (outB a b)).map (·.1)
  · obtain ⟨q, hq, e⟩ := List.mem_map.mp hm
    obtain ⟨hq1, hq2⟩ := List.mem_filter.mp hq
    have hout : ¬ (a ≤ x' ∧ x' ≤ b) := by
      rw [← e]
      exact of_decide_eq_true hq2
    have hv := val_some hm
    have hl : levelAt (ms.filter (outB a b)) x' = sumAt ms x' := by
      rw [← sum_levelAt (sub_nodup nd)]
      clear hv hm
      have : ∀ ls : List (Int × Int), sumAt (ls.filter (outB a b)) x' = sumAt ls x' := fun ls => by
        induction ls with
        | nil => rfl
        | cons r ls ih =>
          rw [sumAt_cons]
          by_cases z : outB a b r = true
          · rw [List.filter_cons_of_pos z, sumAt_cons, ih]
          · rw [List.filter_cons_of_neg z, ih, if_neg (fun k => z (by rw [← k] at hout; exact decide_eq_true hout)), Int.zero_add]
      exact this ms
    rcases h with h | ⟨_, h⟩
    · exact absurd ⟨h.1, h.2.1⟩ hout
    refine ⟨fun v ev => ?_, fun en => by rw [hv] at en; cases en⟩
    rw [hv] at ev
    refine ⟨?_, ?_⟩
    · rw [← Option.some.inj ev, hl]
      unfold popK
      rw [if_neg hout]
    · rw [drop_enc, List.filter_filter]
      congr 1
      apply List.filter_congr
      intro r _
      unfold outB
      rw [← Bool.decide_and]
      apply decide_eq_decide.mpr
      have := h r.1
      constructor
      · rintro ⟨k1, k2⟩ k3
        exact (this.mp k3).elim k2 k1
      · intro k
        exact ⟨fun z => k (this.mpr (.inr z)), fun z => k (this.mpr (.inl z))⟩
  · have hn := valV_out hm
    refine ⟨fun v ev => (by rw [hn] at ev; cases ev), fun _ => ?_⟩
    rcases h with ⟨h1, h2, rfl, rfl⟩ | ⟨hout, h⟩
    · exact ⟨if_pos ⟨h1, h2⟩, rfl⟩
    · have hnot : x' ∉ ms.map (·.1) := fun k => by
        obtain ⟨q, hq, e⟩ := List.mem_map.mp k
        exact hm (List.mem_map.mpr ⟨q, List.mem_filter.mpr ⟨hq, by rw [← e] at hout; exact decide_eq_true hout⟩, e⟩)
      refine ⟨by unfold popK; rw [if_neg hout, sum_out hnot], ?_⟩
      apply List.filter_congr
      intro r hr
      unfold outB
      apply decide_eq_decide.mpr
      have := h r.1
      constructor
      · intro k z
        exact (this.mp z).elim k (fun e => hnot (List.mem_map.mpr ⟨r, hr, e⟩))
      · intro k z
        exact k (this.mpr (.inl z))
theorem popK_range {lv : Int} {ms : List (Int × Int)} {a b x : Int} (h : Rising lv ms) (h0 : 0 < lv) : 0 ≤ popK ms a b x ∧ popK ms a b x ≤ lv := by
  have := h.range h0 x
  unfold popK
  split <;> omega
/-- all of it -/
theorem Row.all {lv : Int} {ms : List (Int × Int)} {x a b n : Int} {cs : List Nat} (h : Row ms x a b cs n) (hin : ∀ q ∈ ms, a ≤ q.1 ∧ q.1 ≤ b) : (∀ p, sumAt (prL cs) p = sumAt ms p) ∧ (cs.length : Int) = n + levelsOf ms := by
  refine ⟨fun p => ?_, ?_⟩
  · rw [h.sum]
    by_cases z : a ≤ p ∧ p ≤ b
    · rw [if_pos z]
    · rw [if_neg z, sum_out]
      intro k
      obtain ⟨q, hq, rfl⟩ := List.mem_map.mp k
      exact z (hin q hq)
  · have e : ms.filter (inB a b) = ms := List.filter_eq_self.mpr fun q hq => decide_eq_true (hin q hq)
    have := h.len
    rw [e] at this
    exact this
end Lamp
set_option Elab.async false
set_option linter.all false
set_option maxRecDepth 100000
set_option maxHeartbeats 1000000
namespace Lamp
open PySem PySem.Spec PyProof.Rows L2
abbrev sReach : Stmt := top 39
abbrev sLeast : Stmt := top 40
abbrev sSteps : Stmt := top 41
theorem zip_fst2 {β : Type} : ∀ {as : List Addr} {rs : List β}, as.length = rs.length → (as.zip rs).map (fun p => V.ref p.1) = as.map V.ref
  | [], [], _ => rfl
  | [], _ :: _, h => by cases h
  | _ :: _, [], h => by cases h
  | a :: as, r :: rs, h => by
    rw [List.zip_cons_cons, List.map_cons, List.map_cons, zip_fst2 (Nat.succ.inj h)]
theorem zip_snd2 {β γ : Type} (f : β → γ) : ∀ {as : List Addr} {rs : List β}, as.length = rs.length → (as.zip rs).map (fun p => f p.2) = rs.map f
  | [], [], _ => rfl
  | [], _ :: _, h => by cases h
  | _ :: _, [], h => by cases h
  | a :: as, r :: rs, h => by
    rw [List.zip_cons_cons, List.map_cons, List.map_cons, zip_snd2 f (Nat.succ.inj h)]
theorem abs_eq (i : Int) : (if i < 0 then -i else i) = absZ i := by
  unfold absZ
  split <;> omega
def spReach (K : PySem.W.Frag) (C : Addr) : Sp := fun vs H Q _ => ∃ (a : Addr) (lv fin : Int) (ms : List (Int × Int)), vs = [.ref a] ∧ RndW K C H a lv fin ms ∧
  ∀ t low high H', Same H H' → Low (placesOf ms fin) low → High (placesOf ms fin) high → H' t = some (.tup [.int low, .int high]) → Q (.ref t) H'
def spLeast (K : PySem.W.Frag) (C : Addr) : Sp := fun vs H Q _ => ∃ (a : Addr) (lv fin : Int) (ms : List (Int × Int)), vs = [.ref a] ∧ RndW K C H a lv fin ms ∧
  ∀ low high H', Same H H' → Low (placesOf ms fin) low → High (placesOf ms fin) high → Q (.int (leastN ms fin low high)) H'
section
variable {P : Program} {w : World} {K : PySem.W.Frag} {mg : Str → Option Value} {base : Heap} {C : Addr}
theorem scReach : FnScope ["trip", "places", "place", "level"] ["trip"] (defScope sReach) := ⟨rfl, rfl, rfl, by decide +kernel, rfl, by decide +kernel, by decide +kernel⟩
theorem scLeast : FnScope ["trip", "low", "high", "place", "level"] ["trip"] (defScope sLeast) := ⟨rfl, rfl, rfl, by decide +kernel, rfl, by decide +kernel, by decide +kernel⟩
theorem scSteps : FnScope ["trip"] ["trip"] (defScope sSteps) := ⟨rfl, rfl, rfl, by decide +kernel, rfl, by decide +kernel, by decide +kernel⟩
theorem ok_reach {f : Addr} {fd : FuncData} (F : Fun K "reach" "reach" sReach f fd) (R : RCls K C) (Z : Ask3 P w K mg base C) (mmin : mg "min" = none) (mmax : mg "max" = none) : FnOk P w K mg base CX0 3 f fd ["trip"] (spReach K C) := by
  refine F.ok scReach (fun vs H Q E h => ?_) (fun cdv A outer s H vs Q E hr h => ?_)
  · obtain ⟨a, lv, fin, ms, rfl, _⟩ := h
    rfl
  · obtain ⟨a, lv, fin, ls, rfl, ⟨⟨t, ha, hp⟩, hg, hi⟩, q⟩ := h
    refine ⟨_, pss_cons (ps_set (i := 1) scReach.nd rfl (.inl rfl) (pe_op op_cat (pe_lc (own := [("place", 2), ("level", 3)]) (g := gTup K 2 (gCons (gName 2) (gCons (gName 3) gNil))) (tt := tYes) rfl scReach.nd
          (pi_tup (pe_prR Z.la R (by decide) hr (pv 0)))
          (blkOk_by (own := [("place", 2), ("level", 3)]) (N := ["trip", "places", "place", "level"]) (sc := defScope sReach) (by decide +kernel))
          (fun _ _ _ _ _ => pg_tup rfl (pgs_cons (pg_name (i := 2) scReach.nd rfl (Or.inl rfl)) (pgs_cons (pg_name (i := 3) scReach.nd rfl (Or.inl rfl)) pgs_nil))) (fun _ _ _ _ _ => pts_nil)
          (fun _ _ _ _ _ => pv 2)) (pe_lst (pa_cons pe_int (pa_cons (pe_prR Z.en R (by decide) hr (pv 0)) pa_nil)))))
      (pss_one (ps_ret (pe_tup (pa_cons (pe_callB (cr_min rfl) (by rfl) mmin (by decide +kernel) (pa_cons (pv 1) pa_nil)) (pa_cons (pe_callB (cr_max rfl) (by rfl) mmax (by decide +kernel) (pa_cons (pv 1) pa_nil)) pa_nil))))), ?_⟩
    obtain ⟨dx, hA⟩ := id ha
    obtain ⟨as, ht, hal, hat⟩ := pair_get hp
    have few := hi.few
    refine ⟨_, rfl, a, dx, _, rfl, hA, a, t, lv, fin, rfl, ha, t, rfl, ⟨_, .inl ht⟩, fun D hD => ?_⟩
    refine lc_genT (us := as.zip ls) (enc := fun u => V.ref u.1) (out := fun u => some (V.int u.2.1)) (Rel := IsV) isv_st hD (by rw [zip_fst2 hal]; exact .inl ht) (by rw [List.length_zip]; omega) ?_ ?_
    · intro i u H' hu s1 R' Z' hR hZ
      obtain ⟨u1, u2⟩ := zip_at hu
      have h1 := s1 _ _ (hat i _ _ u1 u2)
      refine ⟨u.1, _, rfl, SqT.of h1, rfl, _, _, rfl, _, _, rfl, rfl, rfl, ?_⟩
      exact ⟨_, rfl, hR _ _ _ rfl (Same.refl _) rfl⟩
    · intro H1 ys s1 hD1 hp1
      have ey := isv_all hp1
      rw [List.filterMap_eq_map', zip_snd2 (fun q : Int × Int => V.int q.1) hal] at ey
      have ey2 : ys = (ls.map (·.1)).map V.int := by
        rw [ey, List.map_map]
        rfl
      subst ey2
      refine ⟨_, rfl, a, dx, _, rfl, s1 _ _ hA, a, t, lv, fin, rfl, ha.same s1, (by show 2 ≤ sizeLine; decide), fun B nB => ?_⟩
      have s2 := same_of (o := .lst [V.int 0, V.int fin]) nB
      refine ⟨D, B, (ls.map (·.1)).map V.int, [V.int 0, V.int fin], rfl, rfl, s2 _ _ hD1, upd_same, ?_, fun c nc => ?_⟩
      · rw [List.length_map, List.length_map, sizeLine_eq]
        show ls.length + 2 ≤ _
        omega
      have s3 := same_of (o := .lst ((ls.map (·.1)).map V.int ++ [V.int 0, V.int fin])) nc
      dsimp only [gName]
      have hc : SqL K (upd (upd H1 B (.lst [V.int 0, V.int fin])) c (.lst ((ls.map (·.1)).map V.int ++ [V.int 0, V.int fin]))) c ((placesOf ls fin).map V.int) := SqL.of (by unfold placesOf; rw [upd_same, List.map_append]; rfl)
      have hne : 0 < (placesOf ls fin).length := by unfold placesOf; rw [List.length_append]; show 0 < _ + 2; omega
      refine ⟨_, rfl, c, placesOf ls fin, rfl, hc, hne, fun low l1 l2 => ?_⟩
      refine ⟨_, rfl, c, placesOf ls fin, rfl, hc, hne, fun high h1 h2 => ?_⟩
      refine ⟨(by show 2 ≤ sizeLine; decide), fun tt ntt => ?_⟩
      exact q tt low high _ (s1.trans (s2.trans (s3.trans (same_of ntt)))) ⟨l1, l2⟩ ⟨h1, h2⟩ upd_same
theorem ok_least {f : Addr} {fd : FuncData} (F : Fun K "least_number" "least_number" sLeast f fd) (R : RCls K C) (Z : Ask3 P w K mg base C) (Rc : Dr P w K mg base (spReach K C) "reach" ["trip"] 3) (ms : mg "sum" = none) (ma : mg "abs" = none) : FnOk P w K mg base CX0 4 f fd ["trip"] (spLeast K C) := by
  refine F.ok scLeast (fun vs H Q E h => ?_) (fun cdv A outer s H vs Q E hr h => ?_)
  · obtain ⟨a, lv, fin, ms, rfl, _⟩ := h
    rfl
  · obtain ⟨a, lv, fin, ls, rfl, hR, q⟩ := h
    obtain ⟨⟨t, ha, hp⟩, hg, hi⟩ := id hR
    refine ⟨_, pss_cons (ps_asg (pe_dr Rc (by decide) hr rfl (pa_cons (pv 0) pa_nil)) (pg_tup rfl (pgs_cons (pg_name (i := 1) scLeast.nd rfl (.inl rfl)) (pgs_cons (pg_name (i := 2) scLeast.nd rfl (.inl rfl)) pgs_nil))))
      (pss_one (ps_ret (pe_op op_sub (pe_op op_add (pe_callB (cr_sum rfl) (by rfl) ms (by decide +kernel) (pa_cons (pe_lc (own := [("place", 3), ("level", 4)]) (g := gTup K 2 (gCons (gName 3) (gCons (gName 4) gNil))) (tt := tYes) rfl scLeast.nd
          (pi_tup (pe_prR Z.la R (by decide) hr (pv 0)))
          (blkOk_by (own := [("place", 3), ("level", 4)]) (N := ["trip", "low", "high", "place", "level"]) (sc := defScope sLeast) (by decide +kernel))
          (fun _ _ _ _ _ => pg_tup rfl (pgs_cons (pg_name (i := 3) scLeast.nd rfl (Or.inl rfl)) (pgs_cons (pg_name (i := 4) scLeast.nd rfl (Or.inl rfl)) pgs_nil))) (fun _ _ _ _ _ => pts_nil)
          (fun _ _ _ _ _ => pv 4)) pa_nil)) (pe_op op_mul pe_int (pe_op op_sub (pv 2) (pv 1)))) (pe_callB call_abs (by rfl) ma (by decide +kernel) (pa_cons (pe_prR Z.en R (by decide) hr (pv 0)) pa_nil))))), ?_⟩
    obtain ⟨dx, hA⟩ := id ha
    obtain ⟨as, ht, hal, hat⟩ := pair_get hp
    have few := hi.few
    refine ⟨_, rfl, a, lv, fin, ls, rfl, hR, fun tt low high H0 s0 hl hh htt => ?_⟩
    refine ⟨tt, _, rfl, SqT.of htt, rfl, _, _, rfl, _, _, rfl, rfl, ?_⟩
    have hA0 := s0 _ _ hA
    have ha0 := ha.same s0
    refine ⟨_, rfl, a, dx, _, rfl, hA0, a, t, lv, fin, rfl, ha0, t, rfl, ⟨_, .inl (rd_same ht s0)⟩, fun D hD => ?_⟩
    refine lc_genT (us := as.zip ls) (enc := fun u => V.ref u.1) (out := fun u => some (V.int u.2.2)) (Rel := IsV) isv_st hD (by rw [zip_fst2 hal]; exact .inl (rd_same ht s0)) (by rw [List.length_zip]; omega) ?_ ?_
    · intro i u H' hu s1 R' Z' hR hZ
      obtain ⟨u1, u2⟩ := zip_at hu
      have h1 := s1 _ _ (s0 _ _ (hat i _ _ u1 u2))
      refine ⟨u.1, _, rfl, SqT.of h1, rfl, _, _, rfl, _, _, rfl, rfl, rfl, ?_⟩
      exact ⟨_, rfl, hR _ _ _ rfl (Same.refl _) rfl⟩
    · intro H1 ys s1 hD1 hp1
      have ey := isv_all hp1
      rw [List.filterMap_eq_map', zip_snd2 (fun q : Int × Int => V.int q.2) hal] at ey
      have ey2 : ys = (ls.map (·.2)).map V.int := by
        rw [ey, List.map_map]
        rfl
      subst ey2
      refine ⟨D, ls.map (·.2), rfl, SqL.of hD1, ?_⟩
      refine ⟨_, rfl, _, rfl, _, _, rfl, rfl, _, _, rfl, rfl, .inl ⟨by decide, by decide⟩, _, _, rfl, rfl, ?_⟩
      refine ⟨_, rfl, a, dx, _, rfl, s1 _ _ hA0, a, t, lv, fin, rfl, ha0.same s1, fin, rfl, _, _, rfl, rfl, ?_⟩
      rw [abs_eq]
      exact q low high H1 (s0.trans s1) hl hh
theorem ok_steps {f : Addr} {fd : FuncData} (F : Fun K "steps" "steps" sSteps f fd) (Cr : Dr P w K mg base (spCkR C) "check_round" ["value"] 1) (Ls : Dr P w K mg base (spLeast K C) "least_number" ["trip"] 4) : FnOk P w K mg base CX0 5 f fd ["trip"] (spLeast K C) := by
  refine F.ok scSteps (fun vs H Q E h => ?_) (fun cdv A outer s H vs Q E hr h => ?_)
  · obtain ⟨a, lv, fin, ms, rfl, _⟩ := h
    rfl
  · obtain ⟨a, lv, fin, ls, rfl, hR, q⟩ := h
    obtain ⟨⟨t, ha, hp⟩, hg, hi⟩ := id hR
    refine ⟨_, pss_cons (ps_expr (pe_dr Cr (by decide) hr rfl (pa_cons (pv 0) pa_nil))) (pss_one (ps_ret (pe_dr Ls (by decide) hr rfl (pa_cons (pv 0) pa_nil)))), ?_⟩
    exact ⟨_, rfl, a, t, lv, fin, rfl, ha, _, rfl, a, lv, fin, ls, rfl, hR, q⟩
end
end Lamp
set_option Elab.async false
set_option linter.all false
set_option maxRecDepth 100000
set_option maxHeartbeats 1000000
namespace Lamp
open PySem PySem.Spec PyProof.Rows L2
open TL (tl tl_append)
abbrev sRowBy : Stmt := top 42
/-! the row by stops -/
def xAt (s1 s2 s3 : Int) : Nat → Int
  | 0 => 0
  | 1 => s1
  | 2 => s2
  | _ => s3
def nAt (s1 s2 s3 : Int) : Nat → Int
  | 0 => 0
  | 1 => absZ s1
  | 2 => absZ s1 + absZ (s2 - s1)
  | _ => absZ s1 + absZ (s2 - s1) + absZ (s3 - s2)
/-- just which row it is -/
def stepF (ms : List (Int × Int)) (st : Int × Int × Int × List Nat) (s : Nat) : Int × Int × Int × List Nat :=
  let x := if s = 62 then st.1 + 1 else st.1 - 1
  (x, minZ st.2.1 x, maxZ st.2.2.1 x, st.2.2.2 ++ ([s] ++ List.replicate (popK ms st.2.1 st.2.2.1 x).toNat 43))
def goF (ms : List (Int × Int)) (st : Int × Int × Int × List Nat) (stop : Int) : Int × Int × Int × List Nat := (List.replicate (stop - st.1).natAbs (if st.1 < stop then 62 else 60)).foldl (stepF ms) st
def stF (ms : List (Int × Int)) (s1 s2 s3 : Int) : Nat → Int × Int × Int × List Nat
  | 0 => (0, 0, 0, List.replicate (sumAt ms 0).toNat 43)
  | j + 1 => goF ms (stF ms s1 s2 s3 j) (xAt s1 s2 s3 (j + 1))
def rowF (ms : List (Int × Int)) (s1 s2 s3 : Int) : List Nat := (stF ms s1 s2 s3 3).2.2.2
def spRowBy (K : PySem.W.Frag) : Sp := fun vs H Q _ => ∃ (t u : Addr) (lv s1 s2 s3 : Int) (ms : List (Int × Int)), vs = [.ref t, .ref u] ∧ PicB K H t ms ∧ Rising lv ms ∧ 0 < lv ∧ lv ≤ 7 ∧ ms.length ≤ 400 ∧ H u = some (.tup [.int s1, .int s2, .int s3]) ∧ nAt s1 s2 s3 3 ≤ 4000 ∧
  ∀ (y : Str) (a b : Int) H', Same H H' → Row ms s3 a b (tl y) (nAt s1 s2 s3 3) → a ≤ s1 → s1 ≤ b → a ≤ s2 → s2 ≤ b → tl y = rowF ms s1 s2 s3 → Q (.str y) H'
theorem join_tl (ys : List Str) : tl (Txt.join ("" : Str) ys) = (ys.map tl).flatten := by
  rw [TL.join_eq, TL.tl_join, show tl ("" : Str) = [] from rfl]
  generalize ys.map tl = ps
  have : ∀ ps : List (List Nat), TL.joinL [] ps = ps.flatten := fun ps => by
    induction ps with
    | nil => rfl
    | cons p r ih =>
      cases r with
      | nil =>
        show p = (p :: []).flatten
        rw [List.flatten_cons, List.flatten_nil, List.append_nil]
      | cons q r =>
        show p ++ ([] ++ TL.joinL [] (q :: r)) = _
        rw [List.nil_append, ih, List.flatten_cons (l := p)]
  exact this ps
theorem tl_plus (k : Int) : tl (repS k.toNat ("+" : Str)) = List.replicate k.toNat 43 := tl_rep _ 43
theorem levels_le : ∀ {ms : List (Int × Int)}, (∀ q ∈ ms, 0 ≤ q.2 ∧ q.2 ≤ 7) → 0 ≤ levelsOf ms ∧ levelsOf ms ≤ 7 * (ms.length : Int)
  | [], _ => ⟨Int.le_refl _, Int.le_refl _⟩
  | q :: ms, h => by
    obtain ⟨h1, h2⟩ := levels_le fun r hr => h r (List.mem_cons_of_mem _ hr)
    have := h q (List.mem_cons_self ..)
    rw [List.length_cons]
    refine ⟨?_, ?_⟩
    · show 0 ≤ q.2 + levelsOf ms
      omega
    · show q.2 + levelsOf ms ≤ _
      omega
/-- waiting.pop(place, 0) -/
theorem pop_run {σ : L2.St} {H : Hp} {c : Addr} {i j : Nat} {ms : List (Int × Int)} {a b x' a' b' : Int} {Q : VK} (hi : σ[i]? = some (some (.ref c))) (hj : σ[j]? = some (some (.int x'))) (hc : H c = some (.dK (enc (ms.filter (outB a b))))) (nd : (ms.map (·.1)).Nodup)
    (h : (a ≤ x' ∧ x' ≤ b ∧ a' = a ∧ b' = b) ∨ (¬ (a ≤ x' ∧ x' ≤ b) ∧ ∀ p : Int, (a' ≤ p ∧ p ≤ b') ↔ ((a ≤ p ∧ p ≤ b) ∨ p = x')))
    (q : ∀ H', (∀ y, y ≠ c → H' y = H y) → H' c = some (.dK (enc (ms.filter (outB a' b')))) → Q (.int (popK ms a b x')) H') : tDPop2 (tVar i) (tVar j) (tC (.int 0)) σ H Q := by
  obtain ⟨p1, p2⟩ := pop_spec nd h
  refine ⟨_, hi, c, rfl, .inl ⟨_, .inl hc⟩, _, hj, _, Sum.inl x', hc, rfl, fun v hv => ?_, fun hv => ?_⟩
  · obtain ⟨e1, e2⟩ := p1 v hv
    rw [e1, e2]
    exact q _ (fun y hy => upd_ne hy) upd_same
  · obtain ⟨e1, e2⟩ := p2 hv
    rw [e1] at q
    exact q H (fun y _ => rfl) (by rw [← e2]; exact hc)
/-- "+" * waiting.pop(place, 0) -/
theorem pop_rep {σ : L2.St} {H : Hp} {c : Addr} {i j : Nat} {ms : List (Int × Int)} {a b x' a' b' : Int} (hi : σ[i]? = some (some (.ref c))) (hj : σ[j]? = some (some (.int x'))) (hc : H c = some (.dK (enc (ms.filter (outB a b))))) (nd : (ms.map (·.1)).Nodup)
    (h : (a ≤ x' ∧ x' ≤ b ∧ a' = a ∧ b' = b) ∨ (¬ (a ≤ x' ∧ x' ≤ b) ∧ ∀ p : Int, (a' ≤ p ∧ p ≤ b') ↔ ((a ≤ p ∧ p ≤ b) ∨ p = x'))) (k0 : 0 ≤ popK ms a b x') (k7 : popK ms a b x' ≤ 7) :
    ∀ Q : VK, (∀ H', (∀ y, y ≠ c → H' y = H y) → H' c = some (.dK (enc (ms.filter (outB a' b')))) → Q (.str (repS (popK ms a b x').toNat "+")) H') → tOp rRepS (tC (.str "+")) (tDPop2 (tVar i) (tVar j) (tC (.int 0))) σ H Q := fun Q q => by
  show tDPop2 (tVar i) (tVar j) (tC (.int 0)) σ H (fun y H2 => rRepS (.str "+") y H2 Q)
  exact pop_run hi hj hc nd h fun H' off hc' => ⟨"+", _, rfl, rfl, by decide, k0, by show 1 * _ ≤ _; omega, q H' off hc'⟩
section
variable {P : Program} {w : World} {K : PySem.W.Frag} {mg : Str → Option Value} {base : Heap} {C : Addr}
abbrev rowN : List Str := ["lamps", "stops", "waiting", "place", "signs", "stop", "sign"]
theorem scRowBy : FnScope rowN ["lamps", "stops"] (defScope sRowBy) := ⟨rfl, rfl, rfl, by decide +kernel, rfl, by decide +kernel, by decide +kernel⟩
/-- where it stands within -/
structure RbAt (K : PySem.W.Frag) (H0 H : Hp) (c l : Addr) (ms : List (Int × Int)) (x a b n : Int) (ys : List Str) : Prop where
  same : Same H0 H
  dict : H c = some (.dK (enc (ms.filter (outB a b))))
  lst : H l = some (.lst (ys.map V.str))
  row : Row ms x a b (ys.map tl).flatten n
  len : (ys.length : Int) = n + 1
theorem ok_rowBy {f : Addr} {fd : FuncData} (F : Fun K "row_by" "row_by" sRowBy f fd) (md : mg "dict" = none) : FnOk P w K mg base CX0 1 f fd ["lamps", "stops"] (spRowBy K) := by
  refine F.ok scRowBy (fun vs H Q E h => ?_) (fun cdv A outer s H vs Q E hr h => ?_)
  · obtain ⟨t, u, lv, s1, s2, s3, ms, rfl, _⟩ := h
    rfl
  · obtain ⟨t, u, lv, s1, s2, s3, ms, rfl, hB, hri, h0, h7, few, hu', hn, q⟩ := h
    have hu := hu_of hr
    obtain ⟨as, hbare, hpa⟩ := id hB
    refine ⟨_, pss_cons (ps_set (i := 2) scRowBy.nd rfl (.inl rfl) (pe_callTy (call_dictT rfl) (by rfl) md (by decide +kernel) (pa_cons (pv 0) pa_nil)))
      (pss_cons (ps_set (i := 3) scRowBy.nd rfl (.inl rfl) pe_int)
      (pss_cons (ps_set (i := 4) scRowBy.nd rfl (.inl rfl) (pe_lst (pa_cons (pe_op op_repS pe_str (pe_dpop2 (pv 2) (pv 3) pe_int ⟨rfl, rfl, rfl, rfl⟩)) pa_nil)))
      (pss_cons (ps_for PassesOwn.never rfl (pi_tup (pv 1)) (pg_name (i := 5) scRowBy.nd rfl (.inl rfl))
        (pss_cons (ps_set (i := 6) scRowBy.nd rfl (.inl rfl) (pe_ifExp (pt_cmpR op_gt (pv 5) (pv 3) (nomark _)) pe_str pe_str))
        (pss_one (ps_while PassesOwn.never (pt_cmpR op_ne (pv 3) (pv 5) (nomark _))
          (pss_cons (ps_aug (i := 3) scRowBy.nd rfl (.inl rfl) (pe_ifExp (pt_cmpR op_gt (pv 5) (pv 3) (nomark _)) pe_int (pe_un un_neg pe_int)) ip_add)
          (pss_one (ps_expr (pe_bm PySem.F.plainAttrs_list PySem.F.slot_list_append PySem.F.type_list_append mt_append (pv 4) (pa_cons (pe_op op_addS (pv 6) (pe_op op_repS pe_str (pe_dpop2 (pv 2) (pv 3) pe_int ⟨rfl, rfl, rfl, rfl⟩))) pa_nil)))))))))
      (pss_one (ps_ret (pe_join pe_str (pv 4))))))), ?_⟩
    refine ⟨_, rfl, t, as, enc ms, rfl, hbare, pairs_keys hpa, fun c hc => ?_⟩
    rw [show mergeK ([] : List (Key × V)) (enc ms) = enc ms from merge_enc (acc := []) hri.nd]
    have sc := same_of (o := .dK (enc ms)) hc
    dsimp only [gName]
    refine sq_set (v := .int 0) val_c ?_
    have k0 : 0 ≤ sumAt ms 0 := (hri.range h0 0).1
    have k7 : sumAt ms 0 ≤ 7 := by have := (hri.range h0 0).2; omega
    have w0 : ms.filter (outB 1 0) = ms := List.filter_eq_self.mpr fun q _ => decide_eq_true (by omega)
    have pk : popK ms 1 0 0 = sumAt ms 0 := if_neg (by omega)
    -- the first entry
    refine pop_rep (ms := ms) (a := 1) (b := 0) (x' := 0) (a' := 0) (b' := 0) (c := c) rfl rfl (by rw [w0]; exact upd_same) hri.nd (.inr ⟨by omega, fun p => by omega⟩) (by rw [pk]; exact k0) (by rw [pk]; exact k7) _ fun H1 off1 hc1 => ?_
    rw [pk]
    have sH1 : Same H H1 := fun b o e => by
      rw [off1 b (ne_of_none e hc)]
      exact sc _ _ e
    refine ⟨(by show 1 ≤ sizeLine; decide), fun l nl => ?_⟩
    have sl := same_of (o := .lst [V.str (repS (sumAt ms 0).toNat "+")]) nl
    dsimp only [gName]
    have A0 : RbAt K H (upd H1 l (.lst [V.str (repS (sumAt ms 0).toNat "+")])) c l ms 0 0 0 0 [repS (sumAt ms 0).toNat "+"] :=
      ⟨sH1.trans sl, sl _ _ hc1, upd_same, by
        rw [List.map_cons, List.map_nil, List.flatten_cons, List.flatten_nil, List.append_nil, tl_plus]
        exact Row.first k0, rfl⟩
    have cl : c ≠ l := fun e => by rw [e, nl] at hc1; cases hc1
    have hl0 : H l = none := by
      cases e : H l with
      | none => rfl
      | some o => rw [sH1 _ _ e] at nl; cases nl
    refine ⟨_, rfl, u, rfl, ⟨_, SqT.of (A0.same _ _ hu')⟩, for_tup (xs := [V.int s1, V.int s2, V.int s3]) (fun j σ' H' => ∃ x5 x6 a b ys, σ' = [some (.ref t), some (.ref u), some (.ref c), some (.int (xAt s1 s2 s3 j)), some (.ref l), x5, x6] ∧ RbAt K H H' c l ms (xAt s1 s2 s3 j) a b (nAt s1 s2 s3 j) ys ∧ (1 ≤ j → a ≤ s1 ∧ s1 ≤ b) ∧ (2 ≤ j → a ≤ s2 ∧ s2 ≤ b) ∧ (xAt s1 s2 s3 j, a, b, (ys.map tl).flatten) = stF ms s1 s2 s3 j)
      ⟨none, none, 0, 0, _, rfl, A0, fun k => absurd k (by decide), fun k => absurd k (by decide), by
        rw [List.map_cons, List.map_nil, List.flatten_cons, List.flatten_nil, List.append_nil, tl_plus]
        rfl⟩ (fun j σ' H' _ z => by
        obtain ⟨x5, x6, a, b, ys, rfl, A, _⟩ := z
        exact SqT.of (A.same _ _ hu')) (fun j v σ' H' hv z => ?_) (fun σ' H' z => ?_)⟩
    · obtain ⟨x5, x6, a, b, ys, rfl, A, g1, g2, hG⟩ := z
      have hj : j < 3 := (List.getElem?_eq_some_iff.mp hv).1
      obtain ⟨stop, rfl, hst, hnst, hj0, hj1⟩ : ∃ stop : Int, v = .int stop ∧ xAt s1 s2 s3 (j + 1) = stop ∧ nAt s1 s2 s3 (j + 1) = nAt s1 s2 s3 j + absZ (stop - xAt s1 s2 s3 j) ∧ (j = 0 → stop = s1) ∧ (j = 1 → stop = s2) := by
        match j, hj, hv with
        | 0, _, hv => exact ⟨s1, (Option.some.inj hv).symm, rfl, by show absZ s1 = 0 + absZ (s1 - 0); rw [Int.sub_zero, Int.zero_add], fun _ => rfl, fun k => absurd k (by decide)⟩
        | 1, _, hv => exact ⟨s2, (Option.some.inj hv).symm, rfl, rfl, fun k => absurd k (by decide), fun _ => rfl⟩
        | 2, _, hv => exact ⟨s3, (Option.some.inj hv).symm, rfl, rfl, fun k => absurd k (by decide), fun k => absurd k (by decide)⟩
      have n4 : nAt s1 s2 s3 j + absZ (stop - xAt s1 s2 s3 j) ≤ 4000 := by
        rw [← hnst]
        match j, hj with
        | 0, _ => exact Int.le_trans (by show absZ s1 ≤ absZ s1 + absZ (s2 - s1) + absZ (s3 - s2); unfold absZ; omega) hn
        | 1, _ => exact Int.le_trans (by show absZ s1 + absZ (s2 - s1) ≤ absZ s1 + absZ (s2 - s1) + absZ (s3 - s2); unfold absZ; omega) hn
        | 2, _ => exact hn
      have hG2 : stF ms s1 s2 s3 (j + 1) = goF ms (xAt s1 s2 s3 j, a, b, (ys.map tl).flatten) stop := by
        show goF ms (stF ms s1 s2 s3 j) (xAt s1 s2 s3 (j + 1)) = _
        rw [← hG, hst]
      generalize xAt s1 s2 s3 j = x0 at *
      generalize nAt s1 s2 s3 j = n0 at *
      have hdir : ∃ (s : Nat), ((x0 < stop ∧ s = 62) ∨ (¬ x0 < stop ∧ s = 60)) := by
        by_cases hg : x0 < stop
        · exact ⟨62, .inl ⟨hg, rfl⟩⟩
        · exact ⟨60, .inr ⟨hg, rfl⟩⟩
      obtain ⟨s, hs⟩ := hdir
      have hsgn : Val (tIf (tTest (tOp (rI0 fun i j => .bl (decide (j < i))) (tVar 5) (tVar 3))) (tC (.str ">")) (tC (.str "<"))) [some (.ref t), some (.ref u), some (.ref c), some (.int x0), some (.ref l), some (.int stop), x6] H' (.str ⟨#[s]⟩) := by
        rcases hs with ⟨hg, rfl⟩ | ⟨hg, rfl⟩
        · exact lv_if (b := true) (an_gt (x := stop) (y := x0) (val_var rfl) (val_var rfl) (decide_eq_true hg)) (fun _ => val_c) (fun z => Bool.noConfusion z)
        · exact lv_if (b := false) (an_gt (x := stop) (y := x0) (val_var rfl) (val_var rfl) (decide_eq_false hg)) (fun z => Bool.noConfusion z) (fun _ => val_c)
      refine sq_set hsgn ?_
      obtain ⟨W, hW⟩ : ∃ W : Nat → L2.St → Hp → Prop, W = fun (m : Nat) (σ2 : L2.St) (H2 : Hp) => ∃ (x a2 b2 n : Int) (ys2 : List Str), σ2 = [some (.ref t), some (.ref u), some (.ref c), some (.int x), some (.ref l), some (.int stop), some (.str ⟨#[s]⟩)] ∧ RbAt K H H2 c l ms x a2 b2 n ys2 ∧ ((x0 < stop ∧ s = 62 ∧ x + (m : Int) = stop) ∨ (¬ x0 < stop ∧ s = 60 ∧ x - (m : Int) = stop)) ∧ n + (m : Int) = n0 + absZ (stop - x0) ∧ a2 ≤ a ∧ b ≤ b2 ∧ ∃ k : Nat, k + m = (stop - x0).natAbs ∧ (x, a2, b2, (ys2.map tl).flatten) = (List.replicate k s).foldl (stepF ms) (x0, a, b, (ys.map tl).flatten) := ⟨_, rfl⟩
      refine ⟨W, ⟨(stop - x0).natAbs, ?_⟩, fun m σ2 H2 z => ?_⟩
      · rw [hW]
        refine ⟨x0, a, b, n0, ys, rfl, A, ?_, ?_, Int.le_refl _, Int.le_refl _, 0, Nat.zero_add _, rfl⟩
        · rcases hs with ⟨hg, e⟩ | ⟨hg, e⟩
          · exact .inl ⟨hg, e, by omega⟩
          · exact .inr ⟨hg, e, by omega⟩
        · unfold absZ; rfl
      · rw [hW] at z
        obtain ⟨x, a2, b2, n, ys2, rfl, A2, hd, hnm, ha2, hb2, kk, hkk, hst2⟩ := z
        by_cases hx : x = stop
        · refine ans_ne (x := .int x) (y := .int stop) (b := false) (val_var rfl) (val_var rfl) rfl (by rw [hx, decide_eq_true rfl]; rfl) _ ?_
          refine iteF ?_
          have m0 : m = 0 := by rcases hd with ⟨_, _, e⟩ | ⟨_, _, e⟩ <;> omega
          have hn' : n = n0 + absZ (stop - x0) := by omega
          have inb := A2.row.ax
          have inb2 := A2.row.xb
          refine ⟨_, _, a2, b2, ys2, by rw [hx, hst], ?_, fun k => ?_, fun k => ?_, ?_⟩
          · rw [hst, hnst, ← hn', ← hx]
            exact A2
          · by_cases j1 : 1 ≤ j
            · have := g1 j1
              omega
            · have := hj0 (by omega)
              omega
          · by_cases j2 : 2 ≤ j
            · have := g2 j2
              omega
            · have := hj1 (by omega)
              omega
          · rw [hG2, hst, ← hx, hst2]
            unfold goF
            have e1 : kk = (x - x0).natAbs := by rw [hx]; omega
            have e2 : s = if x0 < x then 62 else 60 := by
              rw [hx]
              rcases hd with ⟨k1, k2, _⟩ | ⟨k1, k2, _⟩
              · rw [if_pos k1, k2]
              · rw [if_neg k1, k2]
            rw [← e1, ← e2]
        · refine ans_ne (x := .int x) (y := .int stop) (b := true) (val_var rfl) (val_var rfl) rfl (by rw [decide_eq_false (fun e => hx (V.int.inj e))]; rfl) _ ?_
          refine iteT ⟨fun σ3 H3 => ∃ m', m' < m ∧ W m' σ3 H3, fun _ _ z => z, ?_⟩
          have mpos : 0 < m := by rcases hd with ⟨_, _, e⟩ | ⟨_, _, e⟩ <;> omega
          obtain ⟨x', hx', hstep⟩ : ∃ x' : Int, Val (tIf (tTest (tOp (rI0 fun i j => .bl (decide (j < i))) (tVar 5) (tVar 3))) (tC (.int 1)) (tUn (rU fun i => V.int (-i)) (tC (.int 1)))) [some (.ref t), some (.ref u), some (.ref c), some (.int x), some (.ref l), some (.int stop), some (.str ⟨#[s]⟩)] H2 (.int (x' - x)) ∧ ((s = 62 ∧ x' = x + 1) ∨ (s = 60 ∧ x' = x - 1)) := by
            rcases hd with ⟨_, e, k⟩ | ⟨_, e, k⟩
            · refine ⟨x + 1, ?_, .inl ⟨e, rfl⟩⟩
              rw [show x + 1 - x = 1 by omega]
              exact lv_if (b := true) (an_gt (x := stop) (y := x) (val_var rfl) (val_var rfl) (decide_eq_true (by omega))) (fun _ => val_c) (fun z => Bool.noConfusion z)
            · refine ⟨x - 1, ?_, .inr ⟨e, rfl⟩⟩
              rw [show x - 1 - x = -1 by omega]
              exact lv_if (b := false) (an_gt (x := stop) (y := x) (val_var rfl) (val_var rfl) (decide_eq_false (by omega))) (fun z => Bool.noConfusion z) (fun _ Q q => ⟨1, rfl, q⟩)
          refine ⟨_, rfl, ?_⟩
          refine hx' _ ⟨_, _, rfl, rfl, ?_⟩
          dsimp only [gName, ipI, List.set]
          rw [show x + (x' - x) = x' by omega]
          have ax := A2.row.ax
          have xb := A2.row.xb
          have hadj : x' = x + 1 ∨ x' = x - 1 := by rcases hstep with ⟨_, e⟩ | ⟨_, e⟩ <;> omega
          have hpk := popK_range (a := a2) (b := b2) (x := x') hri h0
          have hl2 := A2.lst
          have cl2 : H2 c = some (.dK (enc (ms.filter (outB a2 b2)))) := A2.dict
          refine ⟨_, rfl, .inl ⟨rfl, _, SqL.of hl2⟩, _, rfl, ?_⟩
          refine pop_rep (ms := ms) (a := a2) (b := b2) (x' := x') (a' := minZ a2 x') (b' := maxZ b2 x') (c := c) rfl rfl cl2 hri.nd ?_ hpk.1 (by omega) _ fun H3 off3 hc3 => ?_
          · by_cases hi : a2 ≤ x' ∧ x' ≤ b2
            · have := wide_in hi
              exact .inl ⟨hi.1, hi.2, this.1, this.2⟩
            · exact .inr ⟨hi, wide_iff ax xb hadj hi⟩
          have hlc : l ≠ c := fun e => by rw [e, cl2] at hl2; cases hl2
          have hl3 : H3 l = some (.lst (ys2.map V.str)) := by rw [off3 l hlc]; exact hl2
          have hlen2 := A2.len
          refine ⟨_, _, rfl, rfl, ?_, l, _, _, rfl, rfl, hl3, ?_, ?_⟩
          · rw [show (⟨#[s]⟩ : Str).length = 1 from rfl, TL.len_tl, tl_plus, List.length_replicate, sizeLine_eq]
            omega
          · rw [List.length_map, sizeLine_eq]
            omega
          · refine ⟨m - 1, by omega, ?_⟩
            rw [hW]
            refine ⟨x', minZ a2 x', maxZ b2 x', n + 1, ys2 ++ [(⟨#[s]⟩ : Str) ++ repS (popK ms a2 b2 x').toNat "+"], rfl, ⟨?_, ?_, ?_, ?_, ?_⟩, ?_, by omega, ?_, ?_, kk + 1, by omega, ?_⟩
            · intro bb o e
              have nc : bb ≠ c := ne_of_none e hc
              have nl2 : bb ≠ l := ne_of_none e hl0
              rw [upd_ne nl2, off3 bb nc]
              exact A2.same _ _ e
            · rw [upd_ne hlc.symm]
              exact hc3
            · rw [upd_same, List.map_append]
              rfl
            · rw [List.map_append, List.flatten_append, List.map_cons, List.map_nil, List.flatten_cons, List.flatten_nil, List.append_nil, tl_append, tl_plus]
              exact A2.row.step hstep hpk.1
            · rw [List.length_append]
              show ((ys2.length + 1 : Nat) : Int) = _
              omega
            · rcases hd with ⟨k1, k2, k3⟩ | ⟨k1, k2, k3⟩
              · refine .inl ⟨k1, k2, ?_⟩
                rcases hstep with ⟨_, e⟩ | ⟨e, _⟩ <;> omega
              · refine .inr ⟨k1, k2, ?_⟩
                rcases hstep with ⟨e, _⟩ | ⟨_, e⟩ <;> omega
            · unfold minZ; split <;> omega
            · unfold maxZ; split <;> omega
            · rw [List.replicate_succ', List.foldl_append, ← hst2, List.map_append, List.flatten_append, List.map_cons, List.map_nil, List.flatten_cons, List.flatten_nil, List.append_nil, tl_append, tl_plus]
              have ex : x' = if s = 62 then x + 1 else x - 1 := by
                rcases hstep with ⟨e1, e2⟩ | ⟨e1, e2⟩
                · rw [if_pos e1, e2]
                · rw [if_neg (by omega), e2]
              show _ = stepF ms (x, a2, b2, (ys2.map tl).flatten) s
              unfold stepF
              dsimp only
              rw [← ex]
    · obtain ⟨x5, x6, a, b, ys, rfl, A, g1, g2, hG⟩ := z
      have lv7 : ∀ q ∈ ms.filter (inB a b), 0 ≤ q.2 ∧ q.2 ≤ 7 := fun q hq => by
        have := hri.lv q (List.mem_filter.mp hq).1
        omega
      have ll := levels_le lv7
      have lf := List.length_filter_le (inB a b) ms
      have hlen := A.row.len
      have hnn : nAt s1 s2 s3 [V.int s1, V.int s2, V.int s3].length = nAt s1 s2 s3 3 := rfl
      rw [hnn] at hlen
      have hsum : (ys.map (·.length)).sum = (ys.map tl).flatten.length := by
        rw [List.length_flatten, List.map_map]
        rfl
      refine ⟨⟨_, rfl⟩, _, rfl, "", l, ys, rfl, rfl, .inl (SqL.of A.lst), ?_, ?_⟩
      · rw [hsum]
        show _ + ys.length * 0 ≤ _
        omega
      · refine q _ a b H' A.same ?_ (g1 (by show 1 ≤ 3; decide)).1 (g1 (by show 1 ≤ 3; decide)).2 (g2 (by show 2 ≤ 3; decide)).1 (g2 (by show 2 ≤ 3; decide)).2 ?_
        · rw [join_tl]
          exact A.row
        · rw [join_tl]
          exact congrArg (fun z => z.2.2.2) hG
end
end Lamp
set_option Elab.async false
set_option linter.all false
set_option maxRecDepth 100000
set_option maxHeartbeats 1000000
namespace Lamp
open PySem PySem.Spec PyProof.Rows L2
open TL (tl tl_append)
abbrev sLWk : Stmt := top 43
structure IsRow (ms : List (Int × Int)) (fin : Int) (n : Int) (y : Str) : Prop where
  sg : Signs y
  pos : posL (tl y) = fin
  sum : ∀ p, sumAt (prL (tl y)) p = sumAt ms p
  len : ((tl y).length : Int) = n
def lwF (ms : List (Int × Int)) (fin low high : Int) : List Nat := if fin < 0 then rowF ms high low fin else rowF ms low high fin
def spLWk (K : PySem.W.Frag) (C xT : Addr) : Sp := fun vs H Q E => ∃ (a : Addr) (lv fin : Int) (ms : List (Int × Int)), vs = [.ref a] ∧ RndB K C H a lv fin ms ∧
  (∀ (y : Str) low high H', Same H H' → Low (placesOf ms fin) low → High (placesOf ms fin) high → leastN ms fin low high ≤ 4000 → IsRow ms fin (leastN ms fin low high) y → tl y = lwF ms fin low high → Q (.str y) H') ∧
  (∀ d low high H', Low (placesOf ms fin) low → High (placesOf ms fin) high → 4000 < leastN ms fin low high → Same H H' → H' d = some (exd d [("given", .int (leastN ms fin low high))]) → E (.ref xT) (some d) H')
theorem Low.uniq {ns : List Int} {a b : Int} (h : Low ns a) (k : Low ns b) : a = b := by
  have := h.le b k.mem
  have := k.le a h.mem
  omega
theorem High.uniq {ns : List Int} {a b : Int} (h : High ns a) (k : High ns b) : a = b := by
  have := h.le b k.mem
  have := k.le a h.mem
  omega
theorem places_0 (ms : List (Int × Int)) (fin : Int) : (0 : Int) ∈ placesOf ms fin := List.mem_append_right _ (List.mem_cons_self ..)
theorem places_fin (ms : List (Int × Int)) (fin : Int) : fin ∈ placesOf ms fin := List.mem_append_right _ (List.mem_cons_of_mem _ (List.mem_cons_self ..))
theorem places_of {ms : List (Int × Int)} {fin : Int} {q : Int × Int} (h : q ∈ ms) : q.1 ∈ placesOf ms fin := List.mem_append_left _ (List.mem_map.mpr ⟨q, h, rfl⟩)
section
variable {P : Program} {w : World} {K : PySem.W.Frag} {mg : Str → Option Value} {base : Heap} {C xT : Addr}
theorem scLWk : FnScope ["trip", "many", "low", "high"] ["trip"] (defScope sLWk) := ⟨rfl, rfl, rfl, by decide +kernel, rfl, by decide +kernel, by decide +kernel⟩
theorem ok_lwk {f : Addr} {fd : FuncData} {t1 : Tok} (F : Fun K "least_walk" "least_walk" sLWk f fd) (R : RCls K C) (Z : Ask3 P w K mg base C) (Cr : Dr P w K mg base (spCkR C) "check_round" ["value"] 1) (Ls : Dr P w K mg base (spLeast K C) "least_number" ["trip"] 4) (Rc : Dr P w K mg base (spReach K C) "reach" ["trip"] 3) (Rb : Dr P w K mg base (spRowBy K) "row_by" ["lamps", "stops"] 1)
    (ZT : XC P w K mg xT "TooMany" "given") (yT : PySem.W.typeIn K (.ref xT) = some (.type "type")) (mMS : mg "MOST_STEPS" = some (.int 4000 t1)) : FnOk P w K mg base (L2.CX P w) 6 f fd ["trip"] (spLWk K C xT) := by
  refine F.okX scLWk (fun vs H Q E h => ?_) (fun cdv A outer s H vs Q E hr h => ?_)
  · obtain ⟨a, lv, fin, ms, rfl, _⟩ := h
    rfl
  · obtain ⟨a, lv, fin, ms, rfl, hRB, q, qx⟩ := h
    have hR := hRB.w
    obtain ⟨⟨t, ha, hB⟩, hg, hi⟩ := id hRB
    have h7 := good_pos hg
    have hri := hi.rise
    refine ⟨_, pss_cons (ps_expr (pe_dr Cr (by decide) hr rfl (pa_cons (pv 0) pa_nil)))
      (pss_cons (ps_set (i := 1) scLWk.nd rfl (.inl rfl) (pe_dr Ls (by decide) hr rfl (pa_cons (pv 0) pa_nil)))
      (pss_cons (ps_if (pt_cmpR op_gt (pv 1) (pe_glob (v := .int 4000) rfl mMS ⟨_, rfl⟩) (nomark _)) (pss_one (ps_raise rfl (takes_of rfl rfl rfl rfl) (pmk_xo rfl (pe_xc ZT (hr.mono (by decide)) rfl (pv 1))))) pss_nil)
      (pss_cons (ps_asg (pe_dr Rc (by decide) hr rfl (pa_cons (pv 0) pa_nil)) (pg_tup rfl (pgs_cons (pg_name (i := 2) scLWk.nd rfl (.inl rfl)) (pgs_cons (pg_name (i := 3) scLWk.nd rfl (.inl rfl)) pgs_nil))))
      (pss_cons (ps_if (pt_cmpR op_lt (pe_prR Z.en R (by decide) hr (pv 0)) pe_int (nomark _)) (pss_one (ps_ret (pe_dr Rb (by decide) hr rfl (pa_cons (pe_prR Z.la R (by decide) hr (pv 0)) (pa_cons (pe_tup (pa_cons (pv 3) (pa_cons (pv 2) (pa_cons (pe_prR Z.en R (by decide) hr (pv 0)) pa_nil)))) pa_nil))))) pss_nil)
      (pss_one (ps_ret (pe_dr Rb (by decide) hr rfl (pa_cons (pe_prR Z.la R (by decide) hr (pv 0)) (pa_cons (pe_tup (pa_cons (pv 2) (pa_cons (pv 3) (pa_cons (pe_prR Z.en R (by decide) hr (pv 0)) pa_nil)))) pa_nil))))))))), ?_⟩
    obtain ⟨dx, hA⟩ := id ha
    refine ⟨_, rfl, a, t, lv, fin, rfl, ha, ?_⟩
    refine ⟨_, rfl, a, lv, fin, ms, rfl, hR, fun low high H1 s1 hl hh => ?_⟩
    dsimp only [gName]
    by_cases hm : leastN ms fin low high ≤ 4000
    · refine sq_no (an_gt (val_var rfl) val_c (decide_eq_false (by omega))) ?_
      refine ⟨_, rfl, a, lv, fin, ms, rfl, hR.same s1, fun tt low2 high2 H2 s2 hl2 hh2 htt => ?_⟩
      have e1 := hl2.uniq hl
      have e2 := hh2.uniq hh
      subst e1
      subst e2
      refine ⟨tt, _, rfl, SqT.of htt, rfl, _, _, rfl, _, _, rfl, rfl, ?_⟩
      have s12 := s1.trans s2
      have hA2 := s12 _ _ hA
      have ha2 := ha.same s12
      have l0 := hl.le 0 (places_0 ms fin)
      have h0 := hh.le 0 (places_0 ms fin)
      have lf := hl.le fin (places_fin ms fin)
      have hf := hh.le fin (places_fin ms fin)
      have lev := (levels_le (ms := ms) fun q hq => by have := hri.lv q hq; omega).1
      have an : Val (tProp C (spEnd C) [] E0 (tVar 0)) [some (.ref a), some (.int (leastN ms fin low2 high2)), some (.int low2), some (.int high2)] H2 (.int fin) := fun Q q => ⟨_, rfl, a, dx, _, rfl, hA2, a, t, lv, fin, rfl, ha2, q⟩
      have fine : ∀ (y : Str) (a' b' n : Int) H', Same H2 H' → Row ms fin a' b' (tl y) n → a' ≤ low2 → high2 ≤ b' → n + levelsOf ms = leastN ms fin low2 high2 → tl y = lwF ms fin low2 high2 → Q (.str y) H' := fun y a' b' n H' s3 hrow hlo hhi hn hy => by
        obtain ⟨r1, r2⟩ := hrow.all (lv := 0) fun q hq => ⟨Int.le_trans hlo (hl.le _ (places_of hq)), Int.le_trans (hh.le _ (places_of hq)) hhi⟩
        exact q y low2 high2 H' (s12.trans s3) hl hh hm ⟨fun c hc => hrow.sg c hc, hrow.pos, r1, by rw [r2, hn]⟩ hy
      by_cases hneg : fin < 0
      · refine sq_yes (an_lt an val_c (decide_eq_true hneg)) ?_
        refine ⟨_, rfl, a, dx, _, rfl, hA2, a, t, lv, fin, rfl, ha2, ?_⟩
        refine ⟨_, rfl, _, rfl, _, rfl, a, dx, _, rfl, hA2, a, t, lv, fin, rfl, ha2, (by show 3 ≤ sizeLine; decide), fun u nu => ?_⟩
        have su := same_of (o := .tup [V.int high2, V.int low2, V.int fin]) nu
        have en : nAt high2 low2 fin 3 + levelsOf ms = leastN ms fin low2 high2 := by
          show absZ high2 + absZ (low2 - high2) + absZ (fin - low2) + levelsOf ms = levelsOf ms + 2 * (high2 - low2) - absZ fin
          unfold absZ
          omega
        refine ⟨t, u, lv, high2, low2, fin, ms, rfl, hB.same (s12.trans su), hri, h7.1, h7.2, hi.few, upd_same, by omega, fun y a' b' H3 s3 hrow g1 g2 g3 g4 hy => ?_⟩
        exact fine y a' b' _ H3 (su.trans s3) hrow (by omega) (by omega) en (by unfold lwF; rw [if_pos hneg]; exact hy)
      · refine sq_no (an_lt an val_c (decide_eq_false hneg)) ?_
        refine ⟨_, rfl, a, dx, _, rfl, hA2, a, t, lv, fin, rfl, ha2, ?_⟩
        refine ⟨_, rfl, _, rfl, _, rfl, a, dx, _, rfl, hA2, a, t, lv, fin, rfl, ha2, (by show 3 ≤ sizeLine; decide), fun u nu => ?_⟩
        have su := same_of (o := .tup [V.int low2, V.int high2, V.int fin]) nu
        have en : nAt low2 high2 fin 3 + levelsOf ms = leastN ms fin low2 high2 := by
          show absZ low2 + absZ (high2 - low2) + absZ (fin - high2) + levelsOf ms = levelsOf ms + 2 * (high2 - low2) - absZ fin
          unfold absZ
          omega
        refine ⟨t, u, lv, low2, high2, fin, ms, rfl, hB.same (s12.trans su), hri, h7.1, h7.2, hi.few, upd_same, by omega, fun y a' b' H3 s3 hrow g1 g2 g3 g4 hy => ?_⟩
        exact fine y a' b' _ H3 (su.trans s3) hrow (by omega) (by omega) en (by unfold lwF; rw [if_neg hneg]; exact hy)
    · refine sq_yes (an_gt (val_var rfl) val_c (decide_eq_true (by omega))) ?_
      exact raise_run (val_var rfl) (fun a na => fr0_none (s1.free na)) (xc_raises ZT yT) fun d H' s2 hd => qx d low high H' hl hh (by omega) (s1.trans s2) hd
end
end Lamp
set_option Elab.async false
set_option linter.all false
set_option maxRecDepth 100000
set_option maxHeartbeats 1000000
namespace Lamp
open PySem PySem.Spec PyProof.Rows L2 LamX
/-! the end of a law whose defs make lambdas: the tables of their code objects -/
abbrev tabO : Obj := { cls := .none, data := .fields #[] }
abbrev MainB (mg : Str → Option Value) (h : Heap) : Prop := ∃ (bm : Addr) (ob : Obj), mg "__builtins__" = some (.ref bm) ∧ bm ≠ builtinsNs ∧ h.get? bm = some ob ∧ ob.cls = .type "module" ∧ ob.dict = some builtinsNs ∧ ob.data = .plain
theorem law_goesT {P : Program} {w : World} {K : PySem.W.Frag} {mg mb : Str → Option Value} {k : Nat} {fa a : Addr} {cs : List (Addr × Addr)} {fd : FuncData} {x : Str} {sp : Sp} {sh : Shared} {vs : List Value} {H : Hp}
    (inK : K.In sh.heap) (nsG : sh.heap.Ns mainGlobals mg) (nsB : sh.heap.Ns builtinsNs mb) (bltn : ∀ x : Str, x ≠ "__name__" → mb x = bootBuiltins x) (noLim : sh.heap.NoLimit) (noGen : sh.gens = #[])
    (tabs : ∀ p ∈ cs, sh.heap.get? p.2 = some tabO) (codes : ∀ p ∈ cs, PySem.W.CodeHd sh.heap p.1 p.2) (mainB : MainB mg sh.heap)
    (there : sh.heap.get? a = some { cls := .type "list", data := .seq vs.toArray }) (room : Room k callerA)
    (F : ∀ base : Heap, K.In base → base.Ns mainGlobals mg → (∀ p ∈ cs, TabB base mg p.1 p.2) → FnG P w K mg base k fa fd [x] sp) (hbind : ∀ (s : Shared) (u : Value), BindsTo s fd ⟨[u], []⟩ [(x, u)])
    (asked : sp [.ref a] H (fun v _ => v = .bl true) E0) (hok : HOk P w H sh.heap) (hH : ∀ p ∈ cs, H p.2 = some (.tbl #[]))
    (kinds : ∀ b u, H b = some u → K.lookup b = none ∧ ((b = a ∧ ∃ o xs, u = .frz o (.lst xs)) ∨ ∃ p ∈ cs, p.2 = b)) :
    codeAny (model P w) callerA (.call (.ref fa) ⟨[.ref a], []⟩) (fun r s' => r = .ok (.ret (.bool true)) ∧ OldK sh.heap s'.heap ∧ s'.os = sh.os ∧ AllBare s'.gens) sh := by
  have untold : ∀ {b : Addr} {o : Obj}, sh.heap.get? b = some o → o.cls ≠ .type "list" → o.cls ≠ .none → H b = none := fun {b o} e n1 n2 => by
    cases q : H b with
    | none => rfl
    | some u =>
      rcases (kinds b u q).2 with ⟨eb, _⟩ | ⟨p, hp, eb⟩
      · rw [eb, there] at e
        cases e
        exact absurd rfl n1
      · have z := tabs p hp
        rw [eb, e] at z
        cases z
        exact absurd rfl n2
  have notDict : ∀ {b : Addr} {o : Obj} {es : Array DictEntry} {ep : Nat}, sh.heap.get? b = some o → o.data = .dict es ep → H b = none := fun {b o es ep} e d => by
    cases q : H b with
    | none => rfl
    | some u =>
      rcases (kinds b u q).2 with ⟨eb, _⟩ | ⟨p, hp, eb⟩
      · rw [eb, there] at e
        cases e
        cases d
      · have z := tabs p hp
        rw [eb, e] at z
        cases z
        cases d
  have nsKeep : ∀ {b : Addr} {m : Str → Option Value}, sh.heap.Ns b m → (hidT sh.heap H).Ns b m := fun {b m} ⟨o, es, ep, e, d, r⟩ => ⟨o, es, ep, hidT_get e (notDict e d), d, r⟩
  have inK' : K.In (hidT sh.heap H) := fun b o e => hidT_get (inK b o e) (by
    cases q : H b with
    | none => rfl
    | some u =>
      have z := (kinds b u q).1
      rw [z] at e
      cases e)
  obtain ⟨mc, lim1, lim2⟩ := noLim
  have isMod : L2.Mod K mg (hidT sh.heap H) := ⟨inK', nsKeep nsG, ⟨mb, nsKeep nsB, bltn⟩, ⟨mc, nsKeep lim1, lim2⟩⟩
  have mainG : ∀ b, sh.heap.get? b = some tabO → mainGlobals ≠ b := fun b e z => by
    obtain ⟨o, es, ep, e1, d, _⟩ := nsG
    rw [z, e] at e1
    cases e1
    cases d
  have tabB : ∀ p ∈ cs, TabB (hidT sh.heap H) mg p.1 p.2 := fun p hp => by
    refine ⟨?_, ?_, mainG _ (tabs p hp)⟩
    · obtain ⟨o, us, file, tf, flags, tg, inF, text, tt, e1, r1, r2, more⟩ := codes p hp
      exact ⟨o, us, file, tf, flags, tg, inF, text, tt, hidT_get e1 (untold e1 (by rw [r1]; decide) (by rw [r1]; intro z; cases z)), r1, r2, more⟩
    · obtain ⟨bm, ob, b1, b2, b3, b4, b5, b6⟩ := mainB
      refine ⟨bm, ob, b1, b2, fun q => ?_, fun q => ?_, hidT_get b3 (untold b3 (by rw [b4]; decide) (by rw [b4]; intro z; cases z)), b4, b5, b6⟩
      · obtain ⟨o, es, ep, e, d, _⟩ := nsG
        rw [q, e] at b3
        cases b3
        rw [d] at b6
        cases b6
      · rw [q, tabs p hp] at b3
        cases b3
        cases b6
  have start0 : Env0 P w K mg (hidT sh.heap H) callerA [] sh H :=
    { frames := rfl, mod := isMod, bs := fun b o e => of_hidT e, bsz := Nat.le_of_eq (hidT_size _ _), funs := trivial, frf := (fun b hb => nomatch hb), hok := hok, bare := .of_eq noGen }
  refine codeAny_mono ((F _ inK' (nsKeep nsG) tabB).goes callerA [] sh H ⟨[.ref a], []⟩ [.ref a] [.ref a] _ _ rfl room start0 (hbind sh (.ref a)) (.cons rfl .nil) asked) fun res s' told => ?_
  match res, told with
  | .error _, told => exact False.elim told
  | .ok .next, told => exact False.elim told
  | .ok .brk, told => exact False.elim told
  | .ok .cont, told => exact False.elim told
  | .ok (.ret u), ⟨v, H', os, bare, un, hok', rv, ev⟩ =>
    have ev' : v = .bl true := ev
    subst ev'
    have eu : u = Value.bool true := rv
    subst eu
    have grown : ∀ p ∈ cs, ∃ more : Array Value, s'.heap.get? p.2 = some { cls := .none, data := .fields more } := fun p hp => by
      obtain ⟨more, z⟩ := un.tbls p.2 #[] (hH p hp)
      exact ⟨_, hok' p.2 _ z⟩
    have kept : ∀ b o, (∀ p ∈ cs, p.2 ≠ b) → sh.heap.get? b = some o → s'.heap.get? b = some o := fun b o nb e => by
      cases q : H b with
      | none => exact un.keep b o e q (fun z => nomatch z) (fun z => nomatch z)
      | some u =>
        rcases (kinds b u q).2 with ⟨_, ob, xs, rfl⟩ | ⟨p, hp, eb⟩
        · have old := (hok b _ q).1
          have new := (hok' b _ (un.frzs b ob _ q)).1
          rw [e] at old
          cases old
          exact new
        · exact absurd eb (nb p hp)
    refine ⟨rfl, ⟨fun b o e => ?_, fun b o e => ?_⟩, os, bare⟩
    · by_cases hb : ∃ p ∈ cs, p.2 = b
      · obtain ⟨p, hp, rfl⟩ := hb
        obtain ⟨more, hm⟩ := grown p hp
        have z := tabs p hp
        rw [e] at z
        cases z
        exact .inr (.inl ⟨((codes p hp).tab (tabs p hp)).isCodeTable, rfl, #[], more, rfl, by rw [Array.empty_append]; exact hm⟩)
      · exact .inl (kept b o (fun p hp z => hb ⟨p, hp, z⟩) e)
    · by_cases hb : ∃ p ∈ cs, p.2 = b
      · obtain ⟨p, hp, rfl⟩ := hb
        obtain ⟨more, hm⟩ := grown p hp
        exact ⟨_, hm⟩
      · exact ⟨o, kept b o (fun p hp z => hb ⟨p, hp, z⟩) e⟩
/-- the place of a code object, and of its table -/
def codeA : Value → Addr
  | .ref c => c
  | _ => 0
def tabIn (K : PySem.W.Frag) (c : Addr) : Option Addr := match K.lookup c with
  | some ⟨_, _, .fields vs, _⟩ => (match (vs[11]? : Option Value) with
    | some (Value.ref q) => some q
    | _ => none)
  | _ => none
def tabA (K : PySem.W.Frag) (v : Value) : Addr := (tabIn K (codeA v)).getD 0
def isStrV : Value → Bool
  | .str _ _ => true
  | _ => false
def isIntV : Value → Bool
  | .int _ _ => true
  | _ => false
def isBoolV : Value → Bool
  | .bool _ => true
  | _ => false
def isRefV : Value → Bool
  | .ref _ => true
  | _ => false
def codeB (K : PySem.W.Frag) (v : Value) : Bool := isRefV v && (match K.lookup (codeA v) with
  | some ⟨.type t, _, .fields vs, _⟩ => decide (t = "code") && (decide (vs[11]? = some (.ref (tabA K v))) && (isStrV (vs.getD 18 .none) && (isIntV (vs.getD 7 .none) && (isBoolV (vs.getD 9 .none) && (isIntV (vs.getD 10 .none) && (decide (codeA v ≠ tabA K v) && (K.lookup (tabA K v)).isNone))))))
  | _ => false)
theorem codeB_ok {K : PySem.W.Frag} {v : Value} (h : codeB K v = true) : v = .ref (codeA v) ∧ K.lookup (tabA K v) = none ∧ ∃ dd vs sl, K.lookup (codeA v) = some ⟨.type "code", dd, .fields vs, sl⟩ ∧ vs[11]? = some (.ref (tabA K v)) ∧ ∀ hp : Heap, K.In hp → PySem.W.CodeHd hp (codeA v) (tabA K v) := by
  unfold codeB at h
  simp only [Bool.and_eq_true] at h
  obtain ⟨h1, h⟩ := h
  have isR : v = .ref (codeA v) := by
    cases v <;> first | rfl | (cases h1)
  refine ⟨isR, ?_⟩
  split at h
  · rename_i t dd vs sl look
    simp only [Bool.and_eq_true, decide_eq_true_eq] at h
    obtain ⟨rfl, h2, h3, h4, h5, h6, h7, h8⟩ := h
    refine ⟨Option.isNone_iff_eq_none.mp h8, dd, vs, sl, look, h2, fun hp inK => ?_⟩
    have e11 : vs.getD 11 .none = .ref (tabA K v) := by
      obtain ⟨l, e⟩ := Array.getElem?_eq_some_iff.mp h2
      unfold Array.getD
      rw [dif_pos l]
      exact e
    obtain ⟨s1, s2, es⟩ : ∃ a b, vs.getD 18 .none = .str a b := by
      generalize vs.getD 18 .none = z at h3 ⊢
      cases z <;> first | exact ⟨_, _, rfl⟩ | (cases h3)
    obtain ⟨i1, i2, ei⟩ : ∃ a b, vs.getD 7 .none = .int a b := by
      generalize vs.getD 7 .none = z at h4 ⊢
      cases z <;> first | exact ⟨_, _, rfl⟩ | (cases h4)
    obtain ⟨b1, eb⟩ : ∃ a, vs.getD 9 .none = .bool a := by
      generalize vs.getD 9 .none = z at h5 ⊢
      cases z <;> first | exact ⟨_, rfl⟩ | (cases h5)
    obtain ⟨j1, j2, ej⟩ : ∃ a b, vs.getD 10 .none = .int a b := by
      generalize vs.getD 10 .none = z at h6 ⊢
      cases z <;> first | exact ⟨_, _, rfl⟩ | (cases h6)
    exact ⟨_, vs, s1, s2, i1, i2, b1, j1, j2, inK _ _ look, rfl, rfl, h2, e11, es, ei, eb, ej, h7⟩
  · cases h
/-- a def of the top with its code object's table -/
def TabOf (K : PySem.W.Frag) (mg : Str → Option Value) (xs : List Str) (p : Addr × Addr) : Prop := ∃ x ∈ xs, ∃ (f : Addr) (o : Obj) (fd : FuncData) (v : Value), mg x = some (.ref f) ∧ K.lookup f = some o ∧ o.data = .func fd ∧ fd.code = v ∧ codeB K v = true ∧ p = (codeA v, tabA K v)
open PySem.W in
theorem walk_ofGT {l : PySem.W.OpenLaw} {n k : Nat} {q : Program} {loose : List Str} {XP : (Str → Option Value) → Heap → Prop} {YP : World → Heap → Prop} {d : DefRec} {K : Params → PySem.W.Frag} {x : Str} (xs : List Str)
    (hn : l.most = some n) (hn2 : n ≤ sizeLine) (hdf : d.params.defaults = []) (hr : Room k callerA) (hrec : ∀ x ∈ xs, ((recsOf q).any fun e => e.name == x) = true) (hY : ∀ (w : World) (h : Heap), YP w h → (K w.params).In h)
    (F : ∀ (w : World) (mg : Str → Option Value) (fa : Addr) (h : Heap), (K w.params).In h → h.Ns mainGlobals mg → mg d.name = some (.ref fa) → ∃ (fd : FuncData) (cs : List (Addr × Addr)) (sp : Sp), (∀ p ∈ cs, TabOf (K w.params) mg xs p) ∧ (∀ (s : Shared) (u : Value), BindsTo s fd ⟨[u], []⟩ [(x, u)]) ∧
      (∀ (H : Hp) (a : Addr) (ns : List Int), ns.length ≤ n → (∀ z ∈ ns, Builtin.Int.intBits z ≤ 1048576) → (∀ p ∈ cs, H p.2 = some (.tbl #[])) → SqL (K w.params) H a (ns.map V.int) → sp [.ref a] H (fun v _ => v = .bl true) E0) ∧
        ∀ base : Heap, (K w.params).In base → base.Ns mainGlobals mg → (∀ p ∈ cs, TabB base mg p.1 p.2) → FnG l.prog w (K w.params) mg base k fa fd [x] sp) :
    PySem.W.WalkO q loose XP YP l.row.toRowW d [] (fun f vs => PySem.call f vs) :=
  Att.attach_callB hn hdf fun w s₀ s₁ mg mb fa o pm cd doc a vs ns G Y ho hd hcd hmg hobj hints hlen hbits hg => by
    have inK := hY w _ Y
    obtain ⟨fd, cs, sp, tabs, hb, hsp, hF⟩ := F w mg fa _ inK G.T.g hmg
    have facts : ∀ p ∈ cs, s₁.heap.get? p.2 = some tabO ∧ (K w.params).lookup p.2 = none ∧ PySem.W.CodeHd s₁.heap p.1 p.2 := fun p hp => by
      obtain ⟨y, hy, f, o1, fd1, v, m1, k1, k2, k3, cb, rfl⟩ := tabs p hp
      obtain ⟨ev, noTab, dd, vs1, sl, k4, k5, hd1⟩ := codeB_ok cb
      refine ⟨?_, noTab, hd1 _ inK⟩
      obtain ⟨dL, hm, hn1⟩ := List.any_eq_true.mp (hrec y hy)
      have hn2 : dL.name = y := beq_iff_eq.mp hn1
      obtain ⟨a', o', fd', c', P', h1, h2, h3, h4, h5, h6⟩ := G.T.tab dL hm
      rw [hn2, m1] at h1
      cases h1
      have g1 := inK _ _ k1
      rw [g1] at h2
      cases h2
      rw [k2] at h3
      cases h3
      rw [k3, ev] at h4
      cases h4
      obtain ⟨⟨oc, vc, e1, _, e3, e4⟩, hP⟩ := h6
      have g2 := inK _ _ k4
      rw [g2] at e1
      cases e1
      cases e3
      rw [k5] at e4
      cases e4
      exact hP
    have same := hints.length
    have vals := vals_ints hints
    have short : ns.length ≤ sizeLine := Nat.le_trans hlen hn2
    have notA : ∀ p ∈ cs, p.2 ≠ a := fun p hp z => by
      have e := (facts p hp).1
      rw [z, hobj] at e
      cases e
    cases look : (K w.params).lookup a with
    | some ob =>
      have e := inK a ob look
      rw [hobj] at e
      cases e
      let H : Hp := fun b => if b ∈ cs.map (·.2) then some (.tbl #[]) else none
      have on : ∀ p ∈ cs, H p.2 = some (.tbl #[]) := fun p hp => if_pos (List.mem_map.mpr ⟨p, hp, rfl⟩)
      refine law_goesT (H := H) (cs := cs) inK G.T.g G.T.b G.T.builtins G.T.nolimit hg (fun p hp => (facts p hp).1) (fun p hp => (facts p hp).2.2) G.T.bmain hobj hr hF hb (hsp H a ns hlen hbits on ?_) (fun b u z => ?_) on (fun b u z => ?_)
      · exact .inr ⟨_, vs.toArray, _, look, rfl, rfl, rfl, by rw [List.size_toArray, same]; exact short, vals⟩
      · by_cases hb : b ∈ cs.map (·.2)
        · have z2 := (if_pos hb).symm.trans z
          cases z2
          obtain ⟨p, hp, rfl⟩ := List.mem_map.mp hb
          exact (facts p hp).1
        · have z2 := (if_neg hb).symm.trans z
          cases z2
      · by_cases hb : b ∈ cs.map (·.2)
        · obtain ⟨p, hp, rfl⟩ := List.mem_map.mp hb
          exact ⟨(facts p hp).2.1, .inr ⟨p, hp, rfl⟩⟩
        · have z2 := (if_neg hb).symm.trans z
          cases z2
    | none =>
      let held : HO := .frz { cls := .type "list", data := .seq vs.toArray } (.lst (ns.map V.int))
      let H : Hp := fun b => if b = a then some held else if b ∈ cs.map (·.2) then some (.tbl #[]) else none
      have on : ∀ p ∈ cs, H p.2 = some (.tbl #[]) := fun p hp => (if_neg (notA p hp)).trans (if_pos (List.mem_map.mpr ⟨p, hp, rfl⟩))
      have atA : H a = some held := if_pos rfl
      refine law_goesT (H := H) (cs := cs) inK G.T.g G.T.b G.T.builtins G.T.nolimit hg (fun p hp => (facts p hp).1) (fun p hp => (facts p hp).2.2) G.T.bmain hobj hr hF hb (hsp H a ns hlen hbits on (.inl (.inr ⟨_, atA⟩))) (fun b u z => ?_) on (fun b u z => ?_)
      · by_cases hb : b = a
        · subst hb
          rw [atA] at z
          cases z
          exact ⟨hobj, by rw [List.length_map]; exact short, vs, _, vals, hobj⟩
        · have z1 := (if_neg hb).symm.trans z
          by_cases hb2 : b ∈ cs.map (·.2)
          · have z2 := (if_pos hb2).symm.trans z1
            cases z2
            obtain ⟨p, hp, rfl⟩ := List.mem_map.mp hb2
            exact (facts p hp).1
          · have z2 := (if_neg hb2).symm.trans z1
            cases z2
      · by_cases hb : b = a
        · subst hb
          rw [atA] at z
          cases z
          exact ⟨look, .inl ⟨rfl, _, _, rfl⟩⟩
        · have z1 := (if_neg hb).symm.trans z
          by_cases hb2 : b ∈ cs.map (·.2)
          · obtain ⟨p, hp, rfl⟩ := List.mem_map.mp hb2
            exact ⟨(facts p hp).2.1, .inr ⟨p, hp, rfl⟩⟩
          · have z2 := (if_neg hb2).symm.trans z1
            cases z2
end Lamp
set_option Elab.async false
set_option linter.all false
set_option maxRecDepth 100000
set_option maxHeartbeats 1000000
namespace Lamp
open PySem PySem.Spec PyProof.Rows L2
/-! parts of tuples, tuples behind one another: whatever object it is -/
theorem cut_lo (xs : List V) {k : Nat} (h : k ≤ xs.length) : cutV xs none (some (k : Int)) = xs.take k := by
  unfold cutV
  rw [HT.sIx_none, HT.sIx_nat, Nat.min_eq_left h]
  rfl
theorem cut_hi (xs : List V) (k : Nat) : cutV xs (some (k : Int)) none = xs.drop k := by
  unfold cutV
  rw [HT.sIx_none, HT.sIx_nat]
  by_cases h : k ≤ xs.length
  · rw [Nat.min_eq_left h]
    exact List.take_of_length_le (by rw [List.length_drop]; exact Nat.le_refl _)
  · rw [Nat.min_eq_right (by omega), List.drop_length, List.drop_of_length_le (by omega)]
    exact List.take_nil
theorem paired_take {α β : Type} {R : α → β → Prop} : ∀ (n : Nat) {xs : List α} {ys : List β}, Paired R xs ys → Paired R (xs.take n) (ys.take n)
  | 0, _, _, _ => by simp only [List.take_zero]; exact .nil
  | n + 1, _, _, .nil => .nil
  | n + 1, _, _, .cons h t => .cons h (paired_take n t)
theorem paired_drop {α β : Type} {R : α → β → Prop} : ∀ (n : Nat) {xs : List α} {ys : List β}, Paired R xs ys → Paired R (xs.drop n) (ys.drop n)
  | 0, _, _, h => h
  | n + 1, _, _, .nil => .nil
  | n + 1, _, _, .cons _ t => paired_drop n t
theorem sl_any {K : PySem.W.Frag} {H : Hp} {a : Addr} {xs : List V} {lo hi : Option Int} {Q : VK} (h : H a = some (.tup xs)) (k : ∀ b H', Same H H' → H' b = some (.tup (cutV xs lo hi)) → Q (.ref b) H') : rSlA K (.ref a) lo hi H Q := by
  refine ⟨a, xs, rfl, SqT.of h, fun w => ?_, fun _ p np => k p _ (same_of np) upd_same⟩
  have e : cutV xs lo hi = xs := by
    unfold cutV
    rw [w.1, w.2]
    exact List.take_of_length_le (by rw [List.length_drop]; omega)
  exact k a H (Same.refl H) (by rw [e]; exact h)
theorem cat_any {K : PySem.W.Frag} {H : Hp} {a b : Addr} {xs ys : List V} {Q : VK} (h1 : H a = some (.tup xs)) (h2 : H b = some (.tup ys)) (hl : xs.length + ys.length ≤ sizeLine) (k : ∀ c H', Same H H' → H' c = some (.tup (xs ++ ys)) → Q (.ref c) H') : rCatA K (.ref a) (.ref b) H Q := by
  refine ⟨a, b, xs, ys, rfl, rfl, SqT.of h1, SqT.of h2, hl, fun e => ?_, fun _ e => ?_, fun _ _ p np => k p _ (same_of np) upd_same⟩
  · subst e
    exact k b H (Same.refl H) h2
  · subst e
    exact k a H (Same.refl H) (by rw [List.append_nil]; exact h1)
end Lamp
set_option Elab.async false
set_option linter.all false
set_option maxRecDepth 100000
set_option maxHeartbeats 1000000
namespace Lamp
open PySem PySem.Spec PyProof.Rows L2 LamX
/-! values of any kind -/
inductive T
  | non
  | bl (b : Bool)
  | int (i : Int)
  | str (x : Str)
  | tup (ts : List T)
  | lst
  | dct
mutual
inductive An (K : PySem.W.Frag) (H : Hp) : V → T → Prop
  | non : An K H .non .non
  | bl (b : Bool) : An K H (.bl b) (.bl b)
  | int (i : Int) : An K H (.int i) (.int i)
  | str (x : Str) : An K H (.str x) (.str x)
  | tup {a : Addr} {xs : List V} {ts : List T} : SqT K H a xs → AnAll K H xs ts → An K H (.ref a) (.tup ts)
  | lst {a : Addr} {xs : List V} : SqL K H a xs → An K H (.ref a) .lst
  | dct {a : Addr} {kvs : List (Key × V)} : H a = some (.dK kvs) → An K H (.ref a) .dct
inductive AnAll (K : PySem.W.Frag) (H : Hp) : List V → List T → Prop
  | nil : AnAll K H [] []
  | cons {v : V} {vs : List V} {t : T} {ts : List T} : An K H v t → AnAll K H vs ts → AnAll K H (v :: vs) (t :: ts)
end
theorem sqT_ext {K : PySem.W.Frag} {H H' : Hp} {a : Addr} {xs : List V} (e : ExtN H H') (h : SqT K H a xs) : SqT K H' a xs := by
  rcases h with (h | ⟨o, h⟩) | h
  · exact .inl (.inl (e _ _ h fun _ z => by cases z))
  · exact .inl (.inr ⟨o, e _ _ h fun _ z => by cases z⟩)
  · exact .inr h
theorem sqL_ext {K : PySem.W.Frag} {H H' : Hp} {a : Addr} {xs : List V} (e : ExtN H H') (h : SqL K H a xs) : SqL K H' a xs := by
  rcases h with (h | ⟨o, h⟩) | h
  · exact .inl (.inl (e _ _ h fun _ z => by cases z))
  · exact .inl (.inr ⟨o, e _ _ h fun _ z => by cases z⟩)
  · exact .inr h
mutual
theorem an_ext {K : PySem.W.Frag} {H H' : Hp} (e : ExtN H H') : ∀ (t : T) (v : V), An K H v t → An K H' v t
  | .non, _, h => by cases h; exact .non
  | .bl _, _, h => by cases h; exact .bl _
  | .int _, _, h => by cases h; exact .int _
  | .str _, _, h => by cases h; exact .str _
  | .lst, _, h => by
    cases h with
    | lst hs => exact .lst (sqL_ext e hs)
  | .dct, _, h => by
    cases h with
    | dct hs => exact .dct (e _ _ hs fun _ z => by cases z)
  | .tup ts, _, h => by
    cases h with
    | tup hs ha => exact .tup (sqT_ext e hs) (anAll_ext e ts _ ha)
theorem anAll_ext {K : PySem.W.Frag} {H H' : Hp} (e : ExtN H H') : ∀ (ts : List T) (vs : List V), AnAll K H vs ts → AnAll K H' vs ts
  | [], _, h => by cases h; exact .nil
  | t :: ts, _, h => by
    cases h with
    | cons h1 h2 => exact .cons (an_ext e t _ h1) (anAll_ext e ts _ h2)
theorem dp_ext {K : PySem.W.Frag} {H H' : Hp} (e : ExtN H H') : ∀ (d : PyData) (v : V), Dp K H v d → Dp K H' v d
  | .none, _, h => by cases h; exact .non
  | .bool _, _, h => by cases h; exact .bl _
  | .int _, _, h => by cases h; exact .int _
  | .str _, _, h => by cases h; exact .str _
  | .list ds, _, h => by
    cases h with
    | lst hs ha => exact .lst (sqL_ext e hs) (dpAll_ext e ds _ ha)
  | .tuple ds, _, h => by
    cases h with
    | tup hs ha => exact .tup (sqT_ext e hs) (dpAll_ext e ds _ ha)
  | .dict _, _, h => by cases h
theorem dpAll_ext {K : PySem.W.Frag} {H H' : Hp} (e : ExtN H H') : ∀ (ds : List PyData) (vs : List V), DpAll K H vs ds → DpAll K H' vs ds
  | [], _, h => by cases h; exact .nil
  | d :: ds, _, h => by
    cases h with
    | cons h1 h2 => exact .cons (dp_ext e d _ h1) (dpAll_ext e ds _ h2)
end
theorem ext_same {H H' : Hp} (e : Same H H') : ExtN H H' := ExtN.of e
theorem dq_ext {K : PySem.W.Frag} {H H' : Hp} (e : ExtN H H') {d : PyData} {v : V} (h : Dq K H v d) : Dq K H' v d := by
  cases h with
  | plain h => exact .plain (dp_ext e d v h)
  | dict h1 h2 => exact .dict (e _ _ h1 fun _ z => by cases z) h2
theorem an_same {K : PySem.W.Frag} {H H' : Hp} (e : Same H H') {t : T} {v : V} (h : An K H v t) : An K H' v t := an_ext (ext_same e) t v h
theorem anAll_same {K : PySem.W.Frag} {H H' : Hp} (e : Same H H') {ts : List T} {vs : List V} (h : AnAll K H vs ts) : AnAll K H' vs ts := anAll_ext (ext_same e) ts vs h
theorem Pail.ext {H H' : Hp} {p : Addr} (h : Pail H p) (s : ExtN H H') : Pail H' p := by
  obtain ⟨x, y, z, e, r⟩ := h
  exact ⟨x, y, z, s _ _ e (fun _ z => by cases z), r⟩
/-- all but p and the tables stands as it stood -/
def ButN (p : Addr) (H H' : Hp) : Prop := ExtN (delH H p) (delH H' p)
theorem ButN.of {p : Addr} {H H' : Hp} (b : But p H H') : ButN p H H' := ext_same b.del
theorem ButN.trans {p : Addr} {H H1 H2 : Hp} (a : ButN p H H1) (b : ButN p H1 H2) : ButN p H H2 := ExtN.trans a b
theorem ButN.ext {p : Addr} {H H' : Hp} (e : ExtN H H') : ButN p H H' := fun a o h n => by
  by_cases z : a = p
  · rw [z, delH_same] at h; cases h
  · rw [delH_ne z] at h ⊢
    exact e a o h n
/-! data among them -/
mutual
def tOf : PyData → T
  | .none => .non
  | .bool b => .bl b
  | .int i => .int i
  | .str x => .str x
  | .tuple ds => .tup (tOfAll ds)
  | .list _ => .lst
  | .dict _ => .dct
def tOfAll : List PyData → List T
  | [] => []
  | d :: ds => tOf d :: tOfAll ds
end
mutual
theorem an_dp {K : PySem.W.Frag} {H : Hp} : ∀ (d : PyData) (v : V), Dp K H v d → An K H v (tOf d)
  | .none, _, h => by cases h; simp only [tOf]; exact .non
  | .bool _, _, h => by cases h; simp only [tOf]; exact .bl _
  | .int _, _, h => by cases h; simp only [tOf]; exact .int _
  | .str _, _, h => by cases h; simp only [tOf]; exact .str _
  | .list ds, _, h => by
    cases h with
    | lst hs ha => simp only [tOf]; exact .lst hs
  | .tuple ds, _, h => by
    cases h with
    | tup hs ha => simp only [tOf]; exact .tup hs (anAll_dp ds _ ha)
  | .dict _, _, h => by cases h
theorem anAll_dp {K : PySem.W.Frag} {H : Hp} : ∀ (ds : List PyData) (vs : List V), DpAll K H vs ds → AnAll K H vs (tOfAll ds)
  | [], _, h => by cases h; simp only [tOfAll]; exact .nil
  | d :: ds, _, h => by
    cases h with
    | cons h1 h2 => simp only [tOfAll]; exact .cons (an_dp d _ h1) (anAll_dp ds _ h2)
end
theorem an_dq {K : PySem.W.Frag} {H : Hp} {d : PyData} {v : V} (h : Dq K H v d) : An K H v (tOf d) := by
  cases h with
  | plain h => exact an_dp d v h
  | dict h1 h2 => simp only [tOf]; exact .dct h1
/-! rows of them -/
section
variable {K : PySem.W.Frag} {H : Hp}
theorem anAll_len : ∀ {ts : List T} {vs : List V}, AnAll K H vs ts → vs.length = ts.length
  | [], _, h => by cases h; rfl
  | t :: ts, _, h => by
    cases h with
    | cons h1 h2 => rw [List.length_cons, List.length_cons, anAll_len h2]
theorem anAll_get : ∀ {ts : List T} {vs : List V} {i : Nat} {v : V}, AnAll K H vs ts → vs[i]? = some v → ∃ t, ts[i]? = some t ∧ An K H v t
  | [], _, _, _, h, e => by cases h; simp at e
  | t :: ts, _, i, v, h, e => by
    cases h with
    | @cons v' vs' _ _ h1 h2 =>
      cases i with
      | zero => simp only [List.getElem?_cons_zero] at e ⊢; cases e; exact ⟨t, rfl, h1⟩
      | succ i => simp only [List.getElem?_cons_succ] at e ⊢; exact anAll_get h2 e
theorem anAll_take : ∀ (n : Nat) {ts : List T} {vs : List V}, AnAll K H vs ts → AnAll K H (vs.take n) (ts.take n)
  | 0, _, _, _ => by simp only [List.take_zero]; exact .nil
  | n + 1, _, _, .nil => .nil
  | n + 1, _, _, .cons h t => .cons h (anAll_take n t)
theorem anAll_drop : ∀ (n : Nat) {ts : List T} {vs : List V}, AnAll K H vs ts → AnAll K H (vs.drop n) (ts.drop n)
  | 0, _, _, h => h
  | n + 1, _, _, .nil => .nil
  | n + 1, _, _, .cons _ t => anAll_drop n t
theorem anAll_app : ∀ {ts us : List T} {vs ws : List V}, AnAll K H vs ts → AnAll K H ws us → AnAll K H (vs ++ ws) (ts ++ us)
  | _, _, _, _, .nil, s => s
  | _, _, _, _, .cons r t, s => .cons r (anAll_app t s)
theorem anAll_rev : ∀ {ts : List T} {vs : List V}, AnAll K H vs ts → AnAll K H vs.reverse ts.reverse
  | _, _, .nil => .nil
  | _, _, .cons r t => by rw [List.reverse_cons, List.reverse_cons]; exact anAll_app (anAll_rev t) (.cons r .nil)
end
/-! how deep, how long, how great they are -/
def Fits (w : Nat) (b : Int) : Nat → T → Prop
  | _, .int i => -b ≤ i ∧ i ≤ b
  | 0, .tup ts => ts = []
  | n + 1, .tup ts => ts.length ≤ w ∧ ∀ t ∈ ts, Fits w b n t
  | _, _ => True
theorem fits_int {w n : Nat} {b i : Int} : Fits w b n (.int i) = (-b ≤ i ∧ i ≤ b) := by cases n <;> rfl
theorem fits_non {w n : Nat} {b : Int} : Fits w b n .non := by cases n <;> exact True.intro
theorem fits_bl {w n : Nat} {b : Int} {c : Bool} : Fits w b n (.bl c) := by cases n <;> exact True.intro
theorem fits_str {w n : Nat} {b : Int} {x : Str} : Fits w b n (.str x) := by cases n <;> exact True.intro
theorem fits_lst {w n : Nat} {b : Int} : Fits w b n .lst := by cases n <;> exact True.intro
theorem fits_dct {w n : Nat} {b : Int} : Fits w b n .dct := by cases n <;> exact True.intro
theorem fits_tup {w n : Nat} {b : Int} {ts : List T} (h : Fits w b n (.tup ts)) : ts = [] ∨ ∃ m, n = m + 1 ∧ ts.length ≤ w ∧ ∀ t ∈ ts, Fits w b m t := by
  cases n with
  | zero => exact .inl h
  | succ m => exact .inr ⟨m, rfl, h⟩
theorem fits_mono {w w' : Nat} {b b' : Int} (hw : w ≤ w') (hb : b ≤ b') : ∀ (n n' : Nat) (t : T), n ≤ n' → Fits w b n t → Fits w' b' n' t := by
  intro n
  induction n with
  | zero =>
    intro n' t hn h
    cases t with
    | int i => rw [fits_int] at h ⊢; omega
    | tup ts =>
      have e : ts = [] := h
      subst e
      cases n' with
      | zero => rfl
      | succ m => exact ⟨Nat.zero_le _, fun t ht => by cases ht⟩
    | non => exact fits_non
    | bl _ => exact fits_bl
    | str _ => exact fits_str
    | lst => exact fits_lst
    | dct => exact fits_dct
  | succ n ih =>
    intro n' t hn h
    cases t with
    | int i => rw [fits_int] at h ⊢; omega
    | tup ts =>
      obtain ⟨l, all⟩ := h
      cases n' with
      | zero => omega
      | succ m => exact ⟨by omega, fun t ht => ih m t (by omega) (all t ht)⟩
    | non => exact fits_non
    | bl _ => exact fits_bl
    | str _ => exact fits_str
    | lst => exact fits_lst
    | dct => exact fits_dct
end Lamp
set_option Elab.async false
set_option linter.all false
set_option maxRecDepth 100000
set_option maxHeartbeats 1000000
namespace Lamp
open PySem PySem.Spec PyProof.Rows L2 LamX HT
/-! a tuple read backwards -/
theorem rev_places (n : Nat) : Builtin.Slice.slicePlaces ((n : Int) - 1) (-1) (-1) = n := by
  unfold Builtin.Slice.slicePlaces
  have h1 : ¬ (-1 : Int) > 0 := by omega
  simp only [h1, if_false]
  by_cases h : (n : Int) - 1 > -1
  · simp only [h, if_true]
    have e : -(-1 : Int) = 1 := by decide
    rw [e, Int.ediv_one]
    omega
  · simp only [h, if_false]
    omega
theorem fm_same {α β : Type} {f g : α → Option β} : ∀ {l : List α}, (∀ a ∈ l, f a = g a) → l.filterMap f = l.filterMap g
  | [], _ => rfl
  | a :: r, h => by rw [List.filterMap_cons, List.filterMap_cons, h a (List.mem_cons_self ..), fm_same fun b hb => h b (List.mem_cons_of_mem _ hb)]
theorem rev_pick (xs : Array Value) : ((List.range xs.size).filterMap fun (m : Nat) => xs[(((xs.size : Int) - 1) + (m : Int) * (-1)).toNat]?).toArray = xs.toList.reverse.toArray := by
  have e : ((List.range xs.size).filterMap fun (m : Nat) => xs[(((xs.size : Int) - 1) + (m : Int) * (-1)).toNat]?) = ((List.range xs.size).map (fun k => xs.size - 1 - k)).filterMap (xs[·]?) := by
    rw [List.filterMap_map]
    refine fm_same fun m hm => ?_
    have lt := List.mem_range.mp hm
    have e : (((xs.size : Int) - 1) + (m : Int) * (-1)).toNat = xs.size - 1 - m := by omega
    show xs[(((xs.size : Int) - 1) + (m : Int) * (-1)).toNat]? = xs[xs.size - 1 - m]?
    rw [e]
  rw [e, PySem.W.krv_range, List.filterMap_reverse, PySem.W.krv_all]
section
variable {prog : Program} {w : World} {A : Around} {E : Value → Shared → Prop} {s : Shared}
theorem applied_rev {sl : Addr} {vk : Value} {n : Nat} {Q : Int × Int × Nat → Shared → Prop} (hs : s.heap.IsSliceOf sl .none .none vk) (pk : IsPart vk (some (-1))) (h : Q ((n : Int) - 1, -1, n) s) : wpAny (model prog w) A (Builtin.Slice.sliceApplied (.ref sl) (pure (n : Int))) Q E s := by
  obtain ⟨ob, there, _, parts⟩ := id hs
  unfold Builtin.Slice.sliceApplied Builtin.Slice.sliceFields
  refine wpAny_bind (wpAny_bind (wpAny_field there parts (x := .none) rfl (wpAny_bind (wpAny_field there parts (x := .none) rfl (wpAny_bind (wpAny_field there parts (x := vk) rfl (wpAny_pure ?_)))))))
  refine wpAny_bind (slicePart_ pk ?_)
  show wpAny _ _ (if ((-1 : Int) == 0) = true then _ else _) _ _ s
  rw [if_neg (by decide)]
  refine wpAny_bind (slicePart_none (wpAny_bind (slicePart_none (wpAny_bind (wpAny_pure ?_)))))
  show wpAny _ _ (pure (((n : Int) - 1), (-1 : Int), Builtin.Slice.slicePlaces ((n : Int) - 1) (-1) (-1))) _ _ s
  rw [rev_places]
  exact wpAny_pure h
theorem item_rev {t sl : Addr} {items : Array Value} {vk : Value} {Q : Value → Shared → Prop} (ht : IsTup s.heap t items) (hs : s.heap.IsSliceOf sl .none .none vk) (pk : IsPart vk (some (-1))) (hz : items.size ≤ sizeLine)
    (h : Q (.ref s.heap.objs.size) { s with heap := s.heap.push { cls := .type "tuple", data := .seq items.toList.reverse.toArray } }) : wpAny (model prog w) A (getItem (.ref t) (.ref sl)) Q E s := by
  have fits : sizeOk (.seq items.toList.reverse.toArray) := by
    show items.toList.reverse.toArray.size ≤ sizeLine
    rw [List.size_toArray, List.length_reverse, Array.length_toList]
    exact hz
  obtain ⟨ob, there, isSl, _⟩ := id hs
  have slT : s.TypeIs (.ref sl) "slice" := ⟨ob, there, isSl⟩
  unfold getItem
  try with_reducible refine wpAny_holding ?_
  first | refine wpAny_bind (wpAny_pure ?_) | skip
  refine wpAny_bind (wpAny_sequenceKey ht.typeIs (by decide) ?_)
  refine wpAny_bind (wpAny_callSpecial?_slot (name := Str.ofString "__getitem__") ht.typeIs PyProof.Rows.slot_tuple_getitem (wpAny_call_entry PyProof.Rows.slot_tuple_getitem ht.typeIs entry_tuple_getitem ?_ (args_tuple_getitem _ _)))
  show wpAny _ _ (Builtin.Tuple.tupleItemsOf (.ref t) >>= _) _ _ s
  refine wpAny_bind (tupleItemsOf_ ht (wpAny_bind (wpAny_typeOf slT ?_)))
  rw [if_pos (by decide)]
  refine wpAny_bind (applied_rev hs pk ?_)
  have no : ¬ (((items.size : Int) - 1 == 0 && (-1 : Int) == 1 && items.size == items.size) = true) := by
    have e : ((-1 : Int) == 1) = false := by decide
    rw [e, Bool.and_false, Bool.false_and]
    decide
  show wpAny _ _ (if (((items.size : Int) - 1) == 0 && (-1 : Int) == 1 && items.size == items.size) = true then _ else _) _ _ s
  rw [if_neg no, rev_pick]
  first
    | exact wpAny_bind (m := Builtin.Tuple.tupleExact _) (wpAny_newObj_type (wpAny_pure ⟨_, rfl, wpAny_pure h⟩) fits)
    | exact wpAny_bind (m := Builtin.Tuple.tupleExact _) (wpAny_newObj_type (wpAny_bind (wpAny_pure (wpAny_pure ⟨_, rfl, wpAny_pure h⟩))) fits)
    | exact wpAny_bind (wpAny_bind (m := Builtin.Tuple.tupleExact _) (wpAny_newObj_type (wpAny_pure (wpAny_pure ⟨_, rfl, wpAny_pure h⟩)) fits))
    | exact wpAny_bind (wpAny_bind (m := Builtin.Tuple.tupleExact _) (wpAny_newObj_type (wpAny_pure ⟨_, rfl, wpAny_pure h⟩) fits))
end
def tRevT (K : PySem.W.Frag) (te : TE) : TE := fun σ H Q => te σ H fun x H1 => ∃ a xs, x = .ref a ∧ SqT K H1 a xs ∧ ∀ p, H1 p = none → Q (.ref p) (upd H1 p (.tup xs.reverse))
theorem pe_revT {X : Cx} {e : Expr} {te : TE} {k : Nat} {p1 p2 p3 pos : Pos} (he : PE X e te) : PE X (.Subscript e (.Slice none none (some (.UnaryOp .USub (.Constant (.int 1) k p1) p2)) p3) pos) (tRevT X.K te) := by
  refine ⟨fun pins s σ H Q I told => Subscript_ (thn (he.run pins s σ H _ I told) fun v s1 ⟨x, H1, I1, r1, a, xs, ex, hx, q⟩ => ?_)⟩
  subst ex
  cases r1
  have step : PO X (some (.UnaryOp .USub (.Constant (.int 1) k p1) p2)) (tPart (tUn (rU fun i => .int (-i)) (tC (.int 1)))) := po_some (pe_un un_neg pe_int)
  refine wpAny_Slice (thn (po_none.run pins s1 σ H1 (fun o H2 => o = none ∧ H2 = H1) I1 ⟨rfl, rfl⟩) fun vl s2 ⟨l, H2, I2, pl, el, e2⟩ => ?_)
  subst el e2
  refine thn (po_none.run pins s2 σ H2 (fun o H3 => o = none ∧ H3 = H2) I2 ⟨rfl, rfl⟩) fun vu s3 ⟨u, H3, I3, pu, eu, e3⟩ => ?_
  subst eu e3
  refine thn (step.run pins s3 σ H3 (fun o H4 => o = some (-1) ∧ H4 = H3) I3 ⟨1, rfl, -1, rfl, rfl, rfl⟩) fun vs s4 ⟨o, H4, I4, ps, eo, e4⟩ => ?_
  subst eo e4
  cases pl
  cases pu
  have I5 : Inv X pins σ H4 { s4 with heap := s4.heap.push { cls := .type "slice", data := .fields #[.none, .none, vs] } } := I4.kept (t' := s4.toks) fun b ob q => Heap.get?_push_of_some _ q
  obtain ⟨its, r, ht, hz⟩ := I5.tuple hx
  have hlen := r.length
  show wpAny (model X.prog X.w) X.A (subscriptTail e (.Slice none none (some (.UnaryOp .USub (.Constant (.int 1) k p1) p2)) p3) (.ref a) (.ref s4.heap.objs.size)) (EP X pins σ Q) X.xe { s4 with heap := s4.heap.push { cls := .type "slice", data := .fields #[.none, .none, vs] } }
  refine tail_any (ops := [.ref a, .ref s4.heap.objs.size]) ht.typeIs (PyProof.Rows.slot_tuple_getitem.lookup) ?_ (by with_unfolding_all rfl)
  refine item_rev ht (Heap.IsSliceOf.new _ .none .none vs) ps (by rw [List.size_toArray]; omega) ?_
  refine ⟨.ref _, _, I5.laid (t' := s4.toks) (o := .tup xs.reverse) (fun b ob q => Heap.get?_push_of_some _ q) (Nat.le_refl _) ?_, rfl, q _ (I5.hok.fresh (Nat.le_refl _))⟩
  exact ⟨by rw [List.length_reverse]; exact hz, _, r.reverse, _, Heap.get?_push_size _ rfl, rfl, 0, rfl⟩
/-! isinstance of them -/
def isI : T → Bool
  | .int _ => true
  | .bl _ => true
  | _ => false
def isB : T → Bool
  | .bl _ => true
  | _ => false
def isT : T → Bool
  | .tup _ => true
  | _ => false
def whole : T → Bool
  | .int _ => true
  | _ => false
section
variable {K : PySem.W.Frag} {H : Hp} {σ : L2.St} {te : TE} {v : V} {t : T}
theorem ty_lst {a : Addr} {xs : List V} (h : SqL K H a xs) : TyX K H (.ref a) (.type "list") := by
  rcases h with (h | ⟨o, h⟩) | ⟨o, its, n, h, c, _⟩
  · exact .base (.lst h)
  · exact .base (.frz h)
  · exact .kList h c
theorem ty_tup {a : Addr} {xs : List V} (h : SqT K H a xs) : TyX K H (.ref a) (.type "tuple") := by
  rcases h with (h | ⟨o, h⟩) | ⟨o, its, n, h, c, _⟩
  · exact .base (.tup h)
  · exact .fTuple h
  · exact .kTuple h c
theorem isi_int (h : An K H v t) {Q : VK} (q : Q (.bl (isI t)) H) : rIsi K [v, .ty "int"] H Q := by
  cases h with
  | non => exact ⟨_, _, _, .type "int", false, rfl, .ty "int", .base .non, kit_ty (by decide +kernel), q⟩
  | bl b => exact ⟨_, _, _, .type "int", true, rfl, .ty "int", .base (.bl b), kit_ty (by decide +kernel), q⟩
  | int i => exact ⟨_, _, _, .type "int", true, rfl, .ty "int", .base (.int i), kit_ty (by decide +kernel), q⟩
  | str x => exact ⟨_, _, _, .type "int", false, rfl, .ty "int", .base (.str x), kit_ty (by decide +kernel), q⟩
  | tup h _ => exact ⟨_, _, _, .type "int", false, rfl, .ty "int", ty_tup h, kit_ty (by decide +kernel), q⟩
  | lst h => exact ⟨_, _, _, .type "int", false, rfl, .ty "int", ty_lst h, kit_ty (by decide +kernel), q⟩
  | dct h => exact ⟨_, _, _, .type "int", false, rfl, .ty "int", .base (.dK h), kit_ty (by decide +kernel), q⟩
theorem isi_bool (h : An K H v t) {Q : VK} (q : Q (.bl (isB t)) H) : rIsi K [v, .ty "bool"] H Q := by
  cases h with
  | non => exact ⟨_, _, _, .type "bool", false, rfl, .ty "bool", .base .non, kit_ty (by decide +kernel), q⟩
  | bl b => exact ⟨_, _, _, .type "bool", true, rfl, .ty "bool", .base (.bl b), kit_ty (by decide +kernel), q⟩
  | int i => exact ⟨_, _, _, .type "bool", false, rfl, .ty "bool", .base (.int i), kit_ty (by decide +kernel), q⟩
  | str x => exact ⟨_, _, _, .type "bool", false, rfl, .ty "bool", .base (.str x), kit_ty (by decide +kernel), q⟩
  | tup h _ => exact ⟨_, _, _, .type "bool", false, rfl, .ty "bool", ty_tup h, kit_ty (by decide +kernel), q⟩
  | lst h => exact ⟨_, _, _, .type "bool", false, rfl, .ty "bool", ty_lst h, kit_ty (by decide +kernel), q⟩
  | dct h => exact ⟨_, _, _, .type "bool", false, rfl, .ty "bool", .base (.dK h), kit_ty (by decide +kernel), q⟩
theorem isi_tuple (h : An K H v t) {Q : VK} (q : Q (.bl (isT t)) H) : rIsi K [v, .ty "tuple"] H Q := by
  cases h with
  | non => exact ⟨_, _, _, .type "tuple", false, rfl, .ty "tuple", .base .non, kit_ty (by decide +kernel), q⟩
  | bl b => exact ⟨_, _, _, .type "tuple", false, rfl, .ty "tuple", .base (.bl b), kit_ty (by decide +kernel), q⟩
  | int i => exact ⟨_, _, _, .type "tuple", false, rfl, .ty "tuple", .base (.int i), kit_ty (by decide +kernel), q⟩
  | str x => exact ⟨_, _, _, .type "tuple", false, rfl, .ty "tuple", .base (.str x), kit_ty (by decide +kernel), q⟩
  | tup h _ => exact ⟨_, _, _, .type "tuple", true, rfl, .ty "tuple", ty_tup h, kit_ty (by decide +kernel), q⟩
  | lst h => exact ⟨_, _, _, .type "tuple", false, rfl, .ty "tuple", ty_lst h, kit_ty (by decide +kernel), q⟩
  | dct h => exact ⟨_, _, _, .type "tuple", false, rfl, .ty "tuple", .base (.dK h), kit_ty (by decide +kernel), q⟩
theorem v_int (h : Val te σ H v) (a : An K H v t) : Val (tCB (rIsi K) (tCons te (tCons (tC (.ty "int")) tNil))) σ H (.bl (isI t)) := fun Q q => h _ (isi_int a q)
theorem v_bool (h : Val te σ H v) (a : An K H v t) : Val (tCB (rIsi K) (tCons te (tCons (tC (.ty "bool")) tNil))) σ H (.bl (isB t)) := fun Q q => h _ (isi_bool a q)
theorem v_tuple (h : Val te σ H v) (a : An K H v t) : Val (tCB (rIsi K) (tCons te (tCons (tC (.ty "tuple")) tNil))) σ H (.bl (isT t)) := fun Q q => h _ (isi_tuple a q)
/-- isinstance(v, int) and not isinstance(v, bool) -/
theorem whole_and (hI : Val te σ H v) (h : An K H v t) : Val (tAndV (tCB (rIsi K) (tCons te (tCons (tC (.ty "int")) tNil))) (tNotV (tCB (rIsi K) (tCons te (tCons (tC (.ty "bool")) tNil))))) σ H (.bl (whole t)) := by
  intro Q q
  refine v_int hI h _ ⟨isI t, rfl, ?_⟩
  cases t with
  | int i => exact iteT (v_bool hI h _ ⟨false, rfl, q⟩)
  | bl b => exact iteT (v_bool hI h _ ⟨true, rfl, q⟩)
  | non => exact iteF q
  | str x => exact iteF q
  | tup ts => exact iteF q
  | lst => exact iteF q
  | dct => exact iteF q
/-! parts of tuples, whatever they hold -/
theorem sl_anyT {a : Addr} {xs : List V} {lo hi : Option Int} {Q : VK} (h : SqT K H a xs) (k : ∀ b H', Same H H' → SqT K H' b (cutV xs lo hi) → Q (.ref b) H') : rSlA K (.ref a) lo hi H Q := by
  refine ⟨a, xs, rfl, h, fun w => ?_, fun _ p np => k p _ (same_of np) (SqT.of upd_same)⟩
  have e : cutV xs lo hi = xs := by
    unfold cutV
    rw [w.1, w.2]
    exact List.take_of_length_le (by rw [List.length_drop]; omega)
  exact k a H (Same.refl H) (by rw [e]; exact h)
theorem cat_anyT {a b : Addr} {xs ys : List V} {Q : VK} (h1 : SqT K H a xs) (h2 : SqT K H b ys) (hl : xs.length + ys.length ≤ sizeLine) (k : ∀ c H', Same H H' → SqT K H' c (xs ++ ys) → Q (.ref c) H') : rCatA K (.ref a) (.ref b) H Q := by
  refine ⟨a, b, xs, ys, rfl, rfl, h1, h2, hl, fun e => ?_, fun _ e => ?_, fun _ _ p np => k p _ (same_of np) (SqT.of upd_same)⟩
  · subst e
    exact k b H (Same.refl H) h2
  · subst e
    exact k a H (Same.refl H) (by rw [List.append_nil]; exact h1)
end
/-- t != (), whatever t holds -/
def rNeT0 (K : PySem.W.Frag) : R2 := fun x y H Q => ∃ (a b : Addr) (xs : List V), x = .ref a ∧ y = .ref b ∧ SqT K H a xs ∧ SqT K H b [] ∧ Q (.bl (!xs.isEmpty)) H
theorem op_neT0 {X : Cx} (hu : X.A.units < cLine) : OpR X (compareOp .NotEq) (rNeT0 X.K) := by
  intro pins s σ H x y v u Q I rx ry h
  obtain ⟨a, b, xs, rfl, rfl, ha, hb, q⟩ := h
  cases rx
  cases ry
  obtain ⟨its, r1, ⟨⟨c1, d1, t1, sl1⟩, ho1, hc1, n1, hd1⟩, _⟩ := I.tuple ha
  obtain ⟨its2, r2, ⟨⟨c2, d2, t2, sl2⟩, ho2, hc2, n2, hd2⟩, _⟩ := I.tuple hb
  cases r2
  simp only at hc1 hd1 hc2 hd2
  subst hc1 hd1 hc2 hd2
  refine richCompare_meets_room (op := .NotEq) ⟨_, ho1, rfl⟩ ⟨_, ho2, rfl⟩ PySem.F.slot_tuple_ne PySem.F.entry_tuple_ne (PySem.F.args_tuple_ne_2 _ _) (PySem.SeqAt.tuple_neAt a b its.toArray ([] : List Value).toArray n1 n2 d1 d2 sl1 sl2 (fun _ => true))
    ⟨ho1, ho2, fun j h1 h2 => absurd h2 (by simp), ?_⟩ hu
  have hlen := r1.length
  have e : (!((List.range (min its.toArray.size ([] : List Value).toArray.size)).all (fun _ => true) && its.toArray.size == ([] : List Value).toArray.size)) = !xs.isEmpty := by
    cases xs with
    | nil =>
      cases r1
      rfl
    | cons c r =>
      cases r1
      simp
  rw [e]
  exact ⟨(fun z => nomatch z), ⟨.bl (!xs.isEmpty), H, I, rfl, q⟩⟩
end Lamp
set_option Elab.async false
set_option linter.all false
set_option maxRecDepth 100000
set_option maxHeartbeats 1000000
namespace Lamp
open PySem PySem.Spec PyProof.Rows L2 LamX
/-! laws whose defs make lambdas -/
section
variable {K : PySem.W.Frag}
/-- what is changed is a list -/
theorem tabs_butL {T : List (Addr × Str)} {H H' : Hp} {p : Addr} {xs : List V} (hp : H p = some (.lst xs)) (b : But p H H') (t : Tabs T H) : Tabs T H' := fun x hx => by
  obtain ⟨ps, h1, h2, h3⟩ := t x hx
  have n1 : x.1 ≠ p := fun z => by rw [z, hp] at h1; cases h1
  refine ⟨ps, b _ _ n1 h1, h2, fun pos cv hc => ?_⟩
  obtain ⟨c', e1, e2⟩ := h3 pos cv hc
  have n2 : c' ≠ p := fun z => by rw [z, hp] at e2; unfold CodeO at e2; cases e2
  exact ⟨c', e1, b _ _ n2 e2⟩
theorem tabs_upd {T : List (Addr × Str)} {H : Hp} {l : Addr} {xs ys : List V} (h : H l = some (.lst xs)) (t : Tabs T H) : Tabs T (upd H l (.lst ys)) := fun x hx => by
  obtain ⟨ps, h1, h2, h3⟩ := t x hx
  have n1 : x.1 ≠ l := fun z => by rw [z, h] at h1; cases h1
  refine ⟨ps, by rw [upd_ne n1]; exact h1, h2, fun pos cv hc => ?_⟩
  obtain ⟨c', e1, e2⟩ := h3 pos cv hc
  have n2 : c' ≠ l := fun z => by rw [z, h] at e2; unfold CodeO at e2; cases e2
  exact ⟨c', e1, by rw [upd_ne n2]; exact e2⟩
end
section
variable {P : Program} {w : World} {K : PySem.W.Frag} {mg : Str → Option Value} {base : Heap}
/-- the rule for a def whose code object is asked -/
theorem okGC {x qual : Str} {st : Stmt} {f : Addr} {fd : FuncData} {N ps : List Str} {k : Nat} {sp : Sp} (F : Fun K x qual st f fd) (S : FnScope N ps (defScope st)) (len : ∀ vs H Q E, sp vs H Q E → vs.length = ps.length)
    (hbody : ∀ (cdv : Value) (A : Around) (outer : List Env) (s : Shared) (H : Hp) (vs : List V) (Q : VK) (E : XK), fd.code = cdv → A.guards = some [] → Room k (A.deeper (envOfC qual (defScope st) s.heap.objs.size f cdv)) → sp vs H Q E →
      ∃ t, PSs (cxOf CX0 P w K mg base N qual (defScope st) f cdv A outer s H E).nox (defBody st) t ∧ t { nx := fun _ H' => Q .non H', rt := Q } (start N vs) H) : FnG P w K mg base (k + 1) f fd ps sp := by
  obtain ⟨oc, od, kV, doc, pm, an, cdv, ct, osl, efd, hlk, hcode⟩ := F.ex
  subst efd
  refine ⟨len, fun A out s H ar us vs Q E hgd hroom hst hbind hvals hs => ?_⟩
  have hcount := len _ _ _ _ hs
  have inK : K.In s.heap := hst.mod.kin.keeps fun b o e => (hst.bs b o e).1
  have noLim : s.heap.NoLimit := hst.mod.nolimit.keeps fun b o e => (hst.bs b o e).1
  refine codeAny_call_function hroom.depth (inK _ _ hlk) rfl S.co S.gen rfl (PySem.W.codeRec_of inK hcode) (hbind _ _ _ _ ?_)
  refine wpAny_newFunctionEnv_cells S.kind (fun y hy => ?_) fun env eenv s1 xin => ?_
  · obtain ⟨nm, val⟩ := y
    cases S.par nm (List.of_mem_zip hy).1 with
    | inl isLocal => exact .inl isLocal
    | inr isCell => exact .inr ⟨isCell, PySem.W.cellsFrom_some _ _ _ (.inl isCell)⟩
  subst eenv
  refine ⟨noLim.keeps xin.toInCall.keep, codeAny_func ?_⟩
  obtain ⟨t, ht0, hq⟩ := hbody cdv A out s H vs Q E rfl hgd (hroom.deeper _) hs
  have ht := ht0.nox
  have inv0 : Inv (cxOf CX0 P w K mg base N qual (defScope st) f cdv A out s H E) [] (start N vs) H s1 := inv_start S hroom.hd hst hcount hvals xin
  have fin : ∀ {σ' : L2.St} {H' : Hp} {v : V} {u : Value} {s' : Shared}, Inv (cxOf CX0 P w K mg base N qual (defScope st) f cdv A out s H E) [] σ' H' s' → RelV v u → Q v H' → CE out P w H s Q u s' := fun J rv q => ⟨_, _, J.os, J.bare, J.base, J.hok, rv, q⟩
  refine wpAny_mono (ht.run [] s1 (start N vs) H _ inv0 hq) (fun flow s' told => ?_) fun e s' told => told
  match flow, told with
  | .ret u, ⟨v, σ', H', J, rv, q⟩ => exact fin J rv q
  | .next, ⟨σ', H', J, q⟩ => exact fin (v := V.non) (u := Value.none) J rfl q
  | .brk, ⟨_, _, _, q⟩ => exact False.elim q
  | .cont, ⟨_, _, _, q⟩ => exact False.elim q
end
theorem passes_lam2 {X : Cx} {E : XK} {A : Around} {outer : List Env} {s : Shared} {H : Hp} {scope : Scope} {f c' : Addr} : Passes (L2.CX (lamCx X A outer s H E scope f c').prog (lamCx X A outer s H E scope f c').w) (lamCx X A outer s H E scope f c') E := passes_call (X := lamCx X A outer s H E scope f c') (takes_of rfl rfl rfl rfl) fun _ _ _ _ h => h
end Lamp
set_option Elab.async false
set_option linter.all false
set_option maxRecDepth 100000
set_option maxHeartbeats 1000000
namespace Lamp
open PySem PySem.Spec PyProof.Rows L2 LamX
abbrev sThing : Stmt := top 51
section
variable {P : Program} {w : World} {K : PySem.W.Frag} {mg : Str → Option Value} {base : Heap}
/-! the things -/
def things : List PyData := [.none, .bool true, .bool false, .int 0, .int 1, .int (-1), .int 2, .int 4, .int (-(10 ^ (39 : Int).toNat)), .str "", .str "a", .str "levels 2 end 0 dark", .tuple [], .tuple [.int 0], .tuple [.int 0, .int 1], .str "A"] ++
  [.list [], .list [.int 1], .dict [], .dict [(.str "a", .int 1)], .tuple [.tuple [.int 0, .int 1]], .tuple [.tuple [.int 1, .int 1], .tuple [.int 0, .int 1]], .tuple [.str "step", .int 1], .tuple [.none], .str "abcdefghi", .str "+>", .int 11]
theorem things_ok : things.all okD = true := by decide +kernel
def spThing (K : PySem.W.Frag) : Sp := fun vs H Q _ => ∃ (p : Addr), vs = [.ref p] ∧ Pail H p ∧ ∀ (v : V) (d : PyData) H', Dq K (delH H' p) v d → d ∈ things → Pail H' p → But p H H' → Q v H'
theorem sq_lstQ {ta : TA} {ds : List PyData} {t2 : TS} {D : Ends} {σ : L2.St} {H : Hp} {i : Nat} {p : Addr} (h : EvQs K p ta ds) (hp : Pail H p) (hl : ds.length ≤ 100)
    (k : ∀ l vs H', H' l = some (.lst vs) → l ≠ p → Same H H' → Paired (Dq K (delH H' p)) vs ds → t2 D (σ.set i (some (.ref l))) H') : tSeq (tAsg (tLst ta) (gName i)) t2 D σ H := h σ H hp _ fun vs H1 s1 d1 => by
  have hlen := Paired.length d1
  refine ⟨Nat.le_of_lt (small1000 (by omega)), fun r hr => ?_⟩
  have s2 : Same H1 (upd H1 r (.lst vs)) := same_of hr
  exact k r vs _ upd_same ((hp.same s1).ne hr) (s1.trans s2) (paired_same (But.of s2).del d1)
theorem sq_catQ {ta : TA} {ds ds0 : List PyData} {vs0 : List V} {t2 : TS} {D : Ends} {σ : L2.St} {H : Hp} {i : Nat} {p l0 : Addr} (hx : σ[i]? = some (some (.ref l0))) (h0 : H l0 = some (.lst vs0)) (ne0 : l0 ≠ p) (d0 : Paired (Dq K (delH H p)) vs0 ds0) (h : EvQs K p ta ds) (hp : Pail H p) (hl : ds.length ≤ 100) (hl0 : ds0.length ≤ 100)
    (k : ∀ l vs H', H' l = some (.lst vs) → l ≠ p → Same H H' → Paired (Dq K (delH H' p)) vs (ds0 ++ ds) → t2 D (σ.set i (some (.ref l))) H') : tSeq (tAsg (tOp rCat (tVar i) (tLst ta)) (gName i)) t2 D σ H := by
  refine ⟨_, hx, h σ H hp _ fun vs H1 s1 d1 => ?_⟩
  have hlen := Paired.length d1
  have hlen0 := Paired.length d0
  refine ⟨Nat.le_of_lt (small1000 (by omega)), fun r hr => ?_⟩
  have s2 : Same H1 (upd H1 r (.lst vs)) := same_of hr
  refine ⟨l0, r, vs0, vs, rfl, rfl, s2 _ _ (s1 _ _ h0), upd_same, Nat.le_of_lt (small1000 (by omega)), fun r2 hr2 => ?_⟩
  have s3 : Same (upd H1 r (.lst vs)) (upd (upd H1 r (.lst vs)) r2 (.lst (vs0 ++ vs))) := same_of hr2
  exact k r2 _ _ upd_same (((hp.same s1).same s2).ne hr2) ((s1.trans s2).trans s3) (paired_app (paired_same (But.of ((s1.trans s2).trans s3)).del d0) (paired_same (But.of (s2.trans s3)).del d1))
theorem scThing : FnScope ["_law_pail", "_law_menu"] ["_law_pail"] (defScope sThing) := ⟨rfl, rfl, rfl, by decide +kernel, rfl, by decide +kernel, by decide +kernel⟩
local macro_rules | `(tactic| walk_at "pe") => `(tactic| first
  | exact pe_non
  | exact pe_bl
  | exact pe_int
  | exact pe_str
  | (refine' pe_un un_neg ?ha; (case ha => walk_at "pe"))
  | (refine' pe_op op_pow ?ha ?hb; (case ha => walk_at "pe"); (case hb => walk_at "pe"))
  | (refine' pe_tup ?ha; (case ha => walk_at "pa"))
  | (refine' pe_lst ?ha; (case ha => walk_at "pa"))
  | exact pe_dnewK
  | exact pe_disp (pps_cons pe_str pe_int pps_nil) (by rfl) (by rfl) (fun z => by cases z) (by decide))
local macro_rules | `(tactic| walk_at "pa") => `(tactic| first
  | exact pa_nil
  | (refine' pa_cons ?ha ?hb; (case ha => walk_at "pe"); (case hb => walk_at "pa")))
local macro_rules | `(tactic| walk_at "evp") => `(tactic| first
  | exact evp_non
  | exact evp_bl
  | exact evp_int
  | exact evp_str
  | (refine' evp_neg ?ha; (case ha => walk_at "evp"))
  | exact evp_pow ⟨by decide, by decide, by decide⟩
  | (refine' evp_tup ?ha ?hb; (case ha => walk_at "evps"); (case hb => decide))
  | (refine' evp_lst ?ha ?hb; (case ha => walk_at "evps"); (case hb => decide)))
local macro_rules | `(tactic| walk_at "evps") => `(tactic| first
  | exact evps_nil
  | (refine' evps_cons ?ha ?hb; (case ha => walk_at "evp"); (case hb => walk_at "evps")))
local macro_rules | `(tactic| walk_at "evqs") => `(tactic| first
  | exact evqs_nil
  | (refine' evqs_cons ?ha ?hb; (case ha => first | exact evq_d0 | exact evq_d1 | (refine' evq_of ?hc; (case hc => walk_at "evp"))); (case hb => walk_at "evqs")))
theorem ok_thing {f fA : Addr} {fd fdA : FuncData} {k : Nat} (F : Fun K "_law_thing" "_law_thing" sThing f fd) (G : FnOk P w K mg base CX0 k fA fdA ["_law_pail", "_law_some_here"] spAny) (bA : Binds K fdA ["_law_pail", "_law_some_here"] []) (mA : mg "_law_any_of" = some (.ref fA)) (kA : PySem.W.keepIn K (.ref fA) = true) :
    FnOk P w K mg base CX0 (k + 1) f fd ["_law_pail"] (spThing K) := by
  refine F.ok scThing (fun vs H Q E h => ?_) (fun cdv A outer s H vs Q E hr h => ?_)
  · obtain ⟨p, rfl, _⟩ := h
    rfl
  · obtain ⟨p, rfl, hp, q⟩ := h
    refine ⟨_, pss_cons (ps_set (i := 1) scThing.nd rfl (.inl rfl) (pe_lst (by walk_at "pa")))
      (pss_cons (ps_set (i := 1) scThing.nd rfl (.inl rfl) (pe_op op_cat (pv 1) (pe_lst (by walk_at "pa"))))
      (pss_one (ps_ret (pe_call G hr rfl mA kA bA .nil pass0 (pa_cons (pv 0) (pa_cons (pv 1) pa_nil)))))), ?_⟩
    refine sq_lstQ (K := K) (ds := things.take 16) (by walk_at "evqs") hp (by decide) fun l0 vs0 H0 hl0 ne0 s0 d0 => ?_
    refine sq_catQ (K := K) (ds := things.drop 16) (l0 := l0) rfl hl0 ne0 d0 (by walk_at "evqs") (hp.same s0) (by decide) (by decide) fun l1 vs1 H1 hl1 ne1 s1 d1 => ?_
    have hlen : vs1.length = 27 := by rw [Paired.length d1]; decide
    refine ⟨_, rfl, _, rfl, p, l1, vs1, rfl, ne1, hl1, by omega, by omega, (hp.same s0).same s1, fun v H2 hv hp2 bt => ?_⟩
    obtain ⟨d, hd, hdq⟩ := paired_mem d1 hv
    exact q v d H2 (dq_same bt.del hdq) (by rw [← List.take_append_drop 16 things]; exact hd) hp2 ((But.of (s0.trans s1)).trans bt)
theorem things_okD {d : PyData} (h : d ∈ things) : okD d = true := by
  have hall := things_ok
  rw [List.all_eq_true] at hall
  exact hall d h
end
end Lamp
set_option Elab.async false
set_option linter.all false
set_option maxRecDepth 100000
set_option maxHeartbeats 1000000
namespace Lamp
open PySem PySem.Spec PyProof.Rows L2 LamX
/-! values of any kind are no instances -/
structure NoKd (K : PySem.W.Frag) (C : Addr) : Prop where
  k1 : PySem.W.kitOne K (.type "NoneType") (.ref C) = some false
  k2 : PySem.W.kitOne K (.type "bool") (.ref C) = some false
  k3 : PySem.W.kitOne K (.type "int") (.ref C) = some false
  k4 : PySem.W.kitOne K (.type "str") (.ref C) = some false
  k5 : PySem.W.kitOne K (.type "list") (.ref C) = some false
  k6 : PySem.W.kitOne K (.type "tuple") (.ref C) = some false
  k7 : PySem.W.kitOne K (.type "dict") (.ref C) = some false
def noKdB (K : PySem.W.Frag) (C : Addr) : Bool := ["NoneType", "bool", "int", "str", "list", "tuple", "dict"].all fun n => decide (PySem.W.kitOne K (.type n) (.ref C) = some false)
theorem noKdB_ok {K : PySem.W.Frag} {C : Addr} (h : noKdB K C = true) : NoKd K C := by
  unfold noKdB at h
  simp only [List.all_cons, List.all_nil, Bool.and_eq_true, decide_eq_true_eq] at h
  obtain ⟨h1, h2, h3, h4, h5, h6, h7, _⟩ := h
  exact ⟨h1, h2, h3, h4, h5, h6, h7⟩
theorem isi_own {K : PySem.W.Frag} {H : Hp} {C : Addr} {v : V} {t : T} (N : NoKd K C) (h : An K H v t) {Q : VK} (q : Q (.bl false) H) : rIsi K [v, .ref C] H Q := by
  cases h with
  | non => exact ⟨_, _, _, .ref C, false, rfl, .own C, .base .non, N.k1, q⟩
  | bl b => exact ⟨_, _, _, .ref C, false, rfl, .own C, .base (.bl b), N.k2, q⟩
  | int i => exact ⟨_, _, _, .ref C, false, rfl, .own C, .base (.int i), N.k3, q⟩
  | str x => exact ⟨_, _, _, .ref C, false, rfl, .own C, .base (.str x), N.k4, q⟩
  | tup h _ => exact ⟨_, _, _, .ref C, false, rfl, .own C, ty_tup h, N.k6, q⟩
  | lst h => exact ⟨_, _, _, .ref C, false, rfl, .own C, ty_lst h, N.k5, q⟩
  | dct h => exact ⟨_, _, _, .ref C, false, rfl, .own C, .base (.dK h), N.k7, q⟩
end Lamp
set_option Elab.async false
set_option linter.all false
set_option maxRecDepth 100000
set_option maxHeartbeats 1000000
namespace Lamp
open PySem PySem.Spec PyProof.Rows L2
/-! an exception that is handled, at p: with a dict of its own, or without -/
/-- the exception's class and its dict -/
structure PinO (p : Addr × Obj) (D : Addr) (d : Option Addr) : Prop where
  z : Zc (.ref D) d p.2
  f : ∃ vs, p.2.data = .fields vs
theorem PinO.some {p : Addr × Obj} {D dd : Addr} (h : PinO p D (some dd)) : Pinned p D dd := ⟨h.z, h.f⟩
/-- what stands where its dict is told to be -/
def DictO (H : Hp) : Option Addr → Prop
  | none => True
  | some dd => ∃ fs, H dd = some (exd dd fs)
section
variable {X : Cx} {p : Addr × Obj} {D : Addr} {d : Option Addr}
/-- isinstance(e, c) of it -/
def rIsO (K : PySem.W.Frag) (a D : Addr) (d : Option Addr) : List V → Hp → VK → Prop := fun xs H Q => ∃ (c : V) (u : Value) (b : Bool), xs = [.ref a, c] ∧ DictO H d ∧ ClsV c u ∧ PySem.W.kitOne K (.ref D) u = some b ∧ Q (.bl b) H
theorem call_isO (G : ClsG X.K) (T : ∃ (B newId initId : String) (tail : List Value), EC X.K D B newId initId tail) (hp : p ∈ X.pn) (Z : PinO p D d) : CallR X (.builtin "isinstance") (rIsO X.K p.1 D d) := by
  cases d with
  | some dd =>
    intro pins s σ H xs us Q I r h
    obtain ⟨c, cv, b, rfl, ⟨fs, hd⟩, hc, hk, q⟩ := h
    exact call_isP G T hp Z.some pins s σ H _ us Q I r ⟨c, cv, b, fs, rfl, hd, hc, hk, q⟩
  | none =>
    intro pins s σ H xs us Q I r h
    obtain ⟨c, cv, b, rfl, _, hc, hk, q⟩ := h
    obtain ⟨u1, u2, rfl, r1, r2⟩ := vals2 r
    have e1 : u1 = Value.ref p.1 := r1
    subst e1
    have e2 := hc.eq r2
    subst e2
    obtain ⟨⟨h1, h2⟩, vs, h3⟩ := Z
    have pin := (I.pin p (List.mem_append_left _ hp)).1
    have J : PySem.W.InstAt s.heap p.1 p.2 D none := ⟨pin, h1, by unfold PySem.W.notCls; rw [h3] <;> rfl, by rw [h2]; trivial⟩
    obtain ⟨B, newId, initId, tail, T⟩ := T
    have isCls : (PySem.W.clsIn X.K D).isSome = true := by
      obtain ⟨cd, hcd, _⟩ := PySem.W.any_some T.hd
      rw [hcd]
      rfl
    exact PySem.W.kia_one (PySem.W.kitx_exc isCls T.ga T.gg T.exC T.cls G.get G.tak T.obj) I.kIn J hk (fun z => nomatch z) fun tk => ⟨.bl b, H, I.tok tk, rfl, q⟩
end
/-! a def that is called where an exception is handled: what it promises of it -/
abbrev SpO := Addr → Addr → Option Addr → Sp
structure FnO (P : Program) (w : World) (K : PySem.W.Frag) (mg : Str → Option Value) (base : Heap) (k : Nat) (f : Addr) (fd : FuncData) (ps : List Str) (sp : SpO) : Prop where
  many : ∀ a D d vs H Q E, sp a D d vs H Q E → vs.length = ps.length
  goes : ∀ (A : Around) (out : List Env) (s : Shared) (H : Hp) (ar : Args) (us : List Value) (vs : List V) (Q : VK) (p : Addr × Obj) (D : Addr) (d : Option Addr), A.guards = some [] → L2H.RoomH k A → L2H.PinOk out H s p → PinO p D d → Env0 P w K mg base A out s H →
    BindsTo s fd ar (ps.zip us) → Vals vs us → sp p.1 D d vs H Q E0 → codeAny (model P w) A (.call (.ref f) ar) (CR CX0 out P w H s Q E0) s
section
variable {P : Program} {w : World} {K : PySem.W.Frag} {mg : Str → Option Value} {base : Heap}
/-- the rule for such a def, by its body -/
theorem okO {x qual : Str} {st : Stmt} {f : Addr} {fd : FuncData} {N ps : List Str} {k : Nat} {sp : SpO} (F : Fun K x qual st f fd) (S : FnScope N ps (defScope st)) (len : ∀ a D d vs H Q E, sp a D d vs H Q E → vs.length = ps.length)
    (hbody : ∀ (cdv : Value) (A : Around) (outer : List Env) (s : Shared) (H : Hp) (vs : List V) (Q : VK) (p : Addr × Obj) (D : Addr) (d : Option Addr), A.guards = some [] → L2H.RoomH k (A.deeper (envOfC qual (defScope st) s.heap.objs.size f cdv)) → PinO p D d → sp p.1 D d vs H Q E0 →
      ∃ t, PSs (L2H.cxH CX0 P w K mg base N qual (defScope st) f cdv A outer s H E0 p).nox (defBody st) t ∧ t { nx := fun _ H' => Q .non H', rt := Q } (start N vs) H) : FnO P w K mg base (k + 1) f fd ps sp := by
  obtain ⟨oc, od, kV, doc, pm, an, cdv, ct, osl, efd, hlk, hcode⟩ := F.ex
  subst efd
  refine ⟨len, fun A out s H ar us vs Q p D d hgd hroom hpin hz hst hbind hvals hs => ?_⟩
  have hcount := len _ _ _ _ _ _ _ hs
  have inK : K.In s.heap := hst.mod.kin.keeps fun b o e => (hst.bs b o e).1
  have noLim : s.heap.NoLimit := hst.mod.nolimit.keeps fun b o e => (hst.bs b o e).1
  refine codeAny_call_function hroom.depth (inK _ _ hlk) rfl S.co S.gen rfl (PySem.W.codeRec_of inK hcode) (hbind _ _ _ _ ?_)
  refine wpAny_newFunctionEnv_cells S.kind (fun y hy => ?_) fun env eenv s1 xin => ?_
  · obtain ⟨nm, val⟩ := y
    cases S.par nm (List.of_mem_zip hy).1 with
    | inl isLocal => exact .inl isLocal
    | inr isCell => exact .inr ⟨isCell, PySem.W.cellsFrom_some _ _ _ (.inl isCell)⟩
  subst eenv
  refine ⟨noLim.keeps xin.toInCall.keep, codeAny_func ?_⟩
  obtain ⟨t, ht0, hq⟩ := hbody cdv A out s H vs Q p D d hgd (hroom.deeper _) hz hs
  have ht := ht0.nox
  have inv0 : Inv (L2H.cxH CX0 P w K mg base N qual (defScope st) f cdv A out s H E0 p) [] (start N vs) H s1 := L2H.inv_startH S hpin hst hcount hvals xin
  have fin : ∀ {σ' : L2.St} {H' : Hp} {v : V} {u : Value} {s' : Shared}, Inv (L2H.cxH CX0 P w K mg base N qual (defScope st) f cdv A out s H E0 p) [] σ' H' s' → RelV v u → Q v H' → CE out P w H s Q u s' := fun J rv q => ⟨_, _, J.os, J.bare, J.base, J.hok, rv, q⟩
  refine wpAny_mono (ht.run [] s1 (start N vs) H _ inv0 hq) (fun flow s' told => ?_) fun e s' told => told
  match flow, told with
  | .ret u, ⟨v, σ', H', J, rv, q⟩ => exact fin J rv q
  | .next, ⟨σ', H', J, q⟩ => exact fin (v := V.non) (u := Value.none) J rfl q
  | .brk, ⟨_, _, _, q⟩ => exact False.elim q
  | .cont, ⟨_, _, _, q⟩ => exact False.elim q
end
section
variable {X : Cx} {k : Nat} {f : Addr} {fd : FuncData} {ps : List Str} {sp : SpO} {x : Str} {q pos : Pos} {e : Expr} {es : List Expr} {t : TA} {p : Addr × Obj} {D : Addr} {d : Option Addr}
theorem runO {pins : List (Addr × Obj)} {σ : L2.St} {H : Hp} {s : Shared} {Q : VK} {us : List Value} {vs : List V} (F : FnO X.prog X.w X.K X.mg X.base k f fd ps sp) (hgd : X.A.guards = some []) (hr : L2H.RoomH k X.A) (hp : p ∈ X.pn) (Z : PinO p D d) (hb : Binds X.K fd ps [])
    (I : Inv X pins σ H s) (r : Vals vs us) (h : sp p.1 D d vs H Q E0) : wpAny (model X.prog X.w) X.A (call (.ref f) us) (EP X pins σ Q) X.xe s := by
  have hl : (us ++ []).length = ps.length := by rw [List.append_nil, ← r.length]; exact F.many _ _ _ _ _ _ _ h
  have hbb := hb s us I.kIn hl
  rw [List.append_nil] at hbb
  obtain ⟨g1, g2, g3, g4, g5⟩ := I.pin p (List.mem_append_left _ hp)
  have pin : L2H.PinOk X.stack H s p := ⟨g1, g2, fun hm => (List.mem_cons.mp (I.stkSub p.1 hm)).elim g3 g4, g5⟩
  refine wpAny_call (codeAny_mono (F.goes X.A X.stack s H ⟨us, []⟩ us vs Q p D d hgd hr pin Z I.env0 hbb r h) fun res s' told => ?_)
  match res, told with
  | .error _, told => exact False.elim told
  | .ok (.ret u), told => exact I.after told
  | .ok .next, told => exact False.elim told
  | .ok .brk, told => exact False.elim told
  | .ok .cont, told => exact False.elim told
/-- f(e, ..), where p is handled -/
theorem pe_callO (F : FnO X.prog X.w X.K X.mg X.base k f fd ps sp) (hgd : X.A.guards = some []) (hr : L2H.RoomH k X.A) (hp : p ∈ X.pn) (Z : PinO p D d) (hg : Gl X x) (hm : X.mg x = some (.ref f)) (hk : PySem.W.keepIn X.K (.ref f) = true) (hb : Binds X.K fd ps [])
    (ha : PA X (e :: es) t) (hdb : (x == ("__debug__" : Str)) = false := by decide) (he : starEach (e :: es) X.env = (false, eval e X.env) :: starEach es X.env := by rfl) (hpl : (backTo pos (starEach es X.env)).any (·.1) = false := by rfl) :
    PE X (.Call (.Name x q) (e :: es) [] pos) (tCallG (sp p.1 D d) t) :=
  ⟨fun pins s σ H Q I h => wpAny_Call_Name_kw (ld_glob I hg hm (PySem.W.callWith_K (h₀ := X.base) I.ok.mod.kin hk (thn (ha.run pos pins s σ H _ I h) fun us s1 ⟨vs, H1, I1, r, q⟩ =>
    ⟨I1.kIn, runO F hgd hr hp Z hb I1 r q⟩) he hpl) hdb)⟩
end
end Lamp
set_option Elab.async false
set_option linter.all false
set_option maxRecDepth 100000
set_option maxHeartbeats 1000000
namespace Lamp
open PySem PySem.Spec PyProof.Rows L2 LamX
/-! as LampB, the exception with a dict of its own or without -/
def raisO (K : PySem.W.Frag) (c1 c2 c3 : Value) (sp : SpO) (Q : VK) : XK := fun cls d H' => ∃ D, cls = .ref D ∧ PySem.W.exmAny K cls [c1, c2, c3] = some true ∧ ∀ a, H' a = none → sp a D d [.ref a] H' Q E0
def TTanO (K : PySem.W.Frag) (c1 c2 c3 : Value) (sp : SpO) : (XK → Hp → VK → Prop) → Hp → VK → Prop := fun tl H Q => ∀ f, tl (raisO K c1 c2 c3 sp Q) H (backE f Q)
/-- its suite -/
def tSuiteO (sp : SpO) (a : Addr) (cls : Value) (d : Option Addr) : TS := fun D' σ H => ∃ D, cls = .ref D ∧ tRet (tCallG (sp a D d) (tCons (tVar 2) tNil)) D' σ H
section
variable {P : Program} {w : World} {K : PySem.W.Frag} {mg : Str → Option Value} {base : Heap}
/-- what is known of the def that sorts errors -/
structure SortO (P : Program) (w : World) (K : PySem.W.Frag) (mg : Str → Option Value) (base : Heap) (sp : SpO) (k : Nat) : Prop where
  ex : ∃ (f : Addr) (fd : FuncData), FnO P w K mg base k f fd ["_law_e"] sp ∧ Binds K fd ["_law_e"] [] ∧ mg "_law_sort" = some (.ref f) ∧ PySem.W.keepIn K (.ref f) = true
theorem ans_givesO {X : Cx} {x q : Str} {sg : Scope} {g cA cB cC : Addr} {cdg : Value} {k j1 j2 : Nat} {sp : SpO} {p1 p2 p3 p4 p5 p6 p7 p8 p9 p10 p11 p12 p13 p14 p15 p16 p17 p18 : Pos} (hgd : X.A.guards = some []) (hr : Room (k + 1) X.A) (S : SortO X.prog X.w X.K X.mg X.base sp k)
    (Sg : FnScope ansN ["_law_call_here"] sg) (mA : X.mg "WrongValue" = some (.ref cA)) (mB : X.mg "WrongName" = some (.ref cB)) (mC : X.mg "NotPossible" = some (.ref cC)) (v1 : sg.names.lookup ("_law_got" : Str) = some NameKind.local) (v2 : sg.names.lookup ("_law_e" : Str) = some NameKind.local)
    (gA : sg.names.lookup ("WrongValue" : Str) = some .globalImplicit) (gB : sg.names.lookup ("WrongName" : Str) = some .globalImplicit) (gC : sg.names.lookup ("NotPossible" : Str) = some .globalImplicit) (gS : sg.names.lookup ("_law_sort" : Str) = some .globalImplicit) :
    GivesTo X ansN x sg g cdg [.Try [.Assign [.Name "_law_got" p1] (.Call (.Name "_law_call_here" p2) [] [] p3) p4] [.ExceptHandler (some (.Tuple [.Name "WrongValue" p5, .Name "WrongName" p6, .Name "NotPossible" p7] j1 p8)) (some "_law_e") [.Return (some (.Call (.Name "_law_sort" p9) [.Name "_law_e" p10] [] p11)) p12] p13] [] [] p14,
      .Return (some (.List [.Constant (.str "back") j2 p15, .Name "_law_got" p16] p17)) p18] "_law_call_here" q (TTanO X.K (.ref cA) (.ref cB) (.ref cC) sp) := by
  intro f c' s H Q tl act hc h
  obtain ⟨fS, fdS, F, b, m, kp⟩ := S.ex
  have rm : L2H.RoomH k (X.A.deeper (envOfC x sg s.heap.objs.size g cdg)) := L2H.roomH_of (hr.deeper _)
  refine ⟨_, pss_cons (ps_try_tup (X := (cxOf C8.CX0 X.prog X.w X.K X.mg X.base ansN x sg g cdg X.A X.stack s H C8.E0).nox) (i := 2) (c1 := .ref cA) (c2 := .ref cB) (c3 := .ref cC)
      (tb := fun W D σ H => ∃ Ech : XK, (∀ cls d σ' H', Ech cls d H' → W cls d σ' H') ∧ σ[0]? = some (some (.ref f)) ∧ H c' = some (CodeO c' q) ∧ tl Ech H (fun v H' => D.nx (σ.set 1 (some v)) H')) (ts := tSuiteO sp)
      rfl rfl Sg.nd rfl v2 ⟨gA, rfl, .inl mA⟩ ⟨gB, rfl, .inl mB⟩ ⟨gC, rfl, .inl mC⟩ (fun W pn xe tk _ => ?_) (fun a oe cls d pn hz hf => ?_)) (pss_one (ps_ret (pe_lst (pa_cons pe_str (pa_cons (pv (x := "_law_got") 1 rfl (.inl v1)) pa_nil))))), ?_⟩
  · refine ⟨fun pins s' σ H' D I h' => ?_⟩
    obtain ⟨Ech, hW, h1, h2, h3⟩ := h'
    have hp := act W pn xe Ech p2 p3 tk hW
    have hs : PS ((cxOf C8.CX0 X.prog X.w X.K X.mg X.base ansN x sg g cdg X.A X.stack s H C8.E0).tr pn xe) (.Assign [.Name "_law_got" p1] (.Call (.Name "_law_call_here" p2) [] [] p3) p4) _ := ps_set (i := 1) Sg.nd rfl (.inl v1) hp
    exact (pss_one hs).run pins s' σ H' D I ⟨h1, h2, h3⟩
  · refine ⟨fun pins s' σ H' D I h' => ?_⟩
    obtain ⟨Dc, rfl, h'⟩ := h'
    refine PSs.run (pss_one (ps_ret (pe_callO (X := ((cxOf C8.CX0 X.prog X.w X.K X.mg X.base ansN x sg g cdg X.A X.stack s H C8.E0).nox).suite a ((a, oe) :: pn)) (p := (a, oe)) (D := Dc) (d := d) F hgd ⟨rm.dp, rm.un⟩ (List.mem_cons_self ..) ⟨hz, hf⟩ gS m kp b (pa_cons (pv (x := "_law_e") 2 rfl (.inl v2)) pa_nil)))) pins s' σ H' D I h'
  · refine ⟨raisO X.K (.ref cA) (.ref cB) (.ref cC) sp Q, ?_, rfl, hc, h f⟩
    rintro cls d σ' H' ⟨Dc, rfl, e, hq⟩ hlen
    refine ⟨e, fun a na => ⟨Dc, rfl, .ref a, ?_, hq a na⟩⟩
    have l3 : σ'.length = 3 := hlen
    have l2 : 2 < σ'.length := by omega
    exact List.getElem?_set_self l2
/-- what is known of the def -/
structure AnsO (P : Program) (w : World) (K : PySem.W.Frag) (mg : Str → Option Value) (base : Heap) (cA cB cC : Addr) (sp : SpO) (k : Nat) : Prop where
  S : SortO P w K mg base sp k
  mA : mg "WrongValue" = some (.ref cA)
  mB : mg "WrongName" = some (.ref cB)
  mC : mg "NotPossible" = some (.ref cC)
  ex : ∃ (g : Addr) (st : Stmt) (fd : FuncData) (j1 j2 : Nat) (p1 p2 p3 p4 p5 p6 p7 p8 p9 p10 p11 p12 p13 p14 p15 p16 p17 p18 : Pos), Fun K "_law_answer" "_law_answer" st g fd ∧ Binds K fd ["_law_call_here"] [] ∧ mg "_law_answer" = some (.ref g) ∧ PySem.W.keepIn K (.ref g) = true ∧
    FnScope ansN ["_law_call_here"] (defScope st) ∧ ((defScope st).names.lookup ("_law_call_here" : Str) = some NameKind.local ∧ (defScope st).names.lookup ("_law_got" : Str) = some NameKind.local ∧ (defScope st).names.lookup ("_law_e" : Str) = some NameKind.local) ∧
    ((defScope st).names.lookup ("WrongValue" : Str) = some .globalImplicit ∧ (defScope st).names.lookup ("WrongName" : Str) = some .globalImplicit ∧ (defScope st).names.lookup ("NotPossible" : Str) = some .globalImplicit ∧ (defScope st).names.lookup ("_law_sort" : Str) = some .globalImplicit) ∧
    defBody st = [.Try [.Assign [.Name "_law_got" p1] (.Call (.Name "_law_call_here" p2) [] [] p3) p4] [.ExceptHandler (some (.Tuple [.Name "WrongValue" p5, .Name "WrongName" p6, .Name "NotPossible" p7] j1 p8)) (some "_law_e") [.Return (some (.Call (.Name "_law_sort" p9) [.Name "_law_e" p10] [] p11)) p12] p13] [] [] p14,
      .Return (some (.List [.Constant (.str "back") j2 p15, .Name "_law_got" p16] p17)) p18]
/-- _law_answer(lambda: body) -/
theorem pe_ansO {X : Cx} {cA cB cC c Pt : Addr} {sp : SpO} {k kS : Nat} {T : List (Addr × Str)} {params : Arguments} {body : Expr} {scope : Scope} {t : XK → TE} {p lpos pos : Pos} (Z : AnsO X.prog X.w X.K X.mg X.base cA cB cC sp kS) (hk : kS ≤ k + 1) (hgd : X.A.guards = some []) (hr : Room (k + 2) X.A) (hg : Gl X "_law_answer")
    (TB : TabB X.base X.mg c Pt) (hcode : X.env.code = .ref c) (hmT : (Pt, X.env.qual ++ "<lambda>") ∈ T) (hu : ∀ p ∈ T, p.1 = Pt → p.2 = X.env.qual ++ "<lambda>") (L : LamS X.env.scope scope) (hdef : defaultsOf params X.env = ([], []))
    (hbind : ∀ (q : Str) (cl : List (Str × Addr)) (pm cv ctv : Value), bindArgs (PySem.W.kla_fn "<lambda>" q params body scope cl pm cv ctv) ⟨[], []⟩ = pure [])
    (hbody : ∀ (A : Around) (outer : List Env) (s : Shared) (H : Hp) (E : XK) (f c' : Addr), Room k (A.deeper (lamEnv X scope s.heap.objs.size f c')) → PE (lamCx X A outer s H E scope f c') body (t E)) :
    PE X (.Call (.Name "_law_answer" p) [.Lambda params body scope lpos] [] pos) (tLam T (TTanO X.K (.ref cA) (.ref cB) (.ref cC) sp) t) := by
  obtain ⟨g, st, fd, j1, j2, p1, p2, p3, p4, p5, p6, p7, p8, p9, p10, p11, p12, p13, p14, p15, p16, p17, p18, F, b, m, kp, Sg, ⟨v0, v1, v2⟩, ⟨gA, gB, gC, gS⟩, hbg⟩ := Z.ex
  obtain ⟨oc, od, kV, doc, pm, an, cdv, ct, osl, efd, hlk, hcodeA⟩ := F.ex
  subst efd
  rw [hbg] at hlk b
  exact pe_lamcall (bg := _) (k := k) (a := "_law_call_here") (Ng := ansN) hg m kp hlk hcodeA b Sg rfl (.inl v0) (ans_givesO (k := k + 1) hgd hr ⟨by
    obtain ⟨f1, fd1, F1, r1⟩ := Z.S.ex
    exact ⟨f1, fd1, ⟨F1.many, fun A out s H ar us vs Q p D d h1 h2 => F1.goes A out s H ar us vs Q p D d h1 (h2.mono hk)⟩, r1⟩⟩ Sg Z.mA Z.mB Z.mC v1 v2 gA gB gC gS) TB hcode hmT hu hr L hdef hbind hbody
end
end Lamp
set_option Elab.async false
set_option linter.all false
set_option maxRecDepth 100000
set_option maxHeartbeats 1000000
namespace Lamp
open PySem PySem.Spec PyProof.Rows L2 LamX
open TL (tl)
/-! defs that are given values of any kind, and raise -/
/-- an error with this value is raised -/
def Up (E : XK) (H : Hp) (x : Addr) (y : V) : Prop := ∀ d H', Same H H' → H' d = some (exd d [("given", y)]) → E (.ref x) (some d) H'
theorem Up.on {E : XK} {H H1 : Hp} {x : Addr} {y : V} (h : Up E H x y) (s : Same H H1) : Up E H1 x y := fun d H' s' e => h d H' (s.trans s') e
def UpI (E : XK) (H : Hp) (x : Addr) (y : V) : Prop := ∀ d H', Same H H' → H' d = some (exd d [("index", y)]) → E (.ref x) (some d) H'
theorem UpI.on {E : XK} {H H1 : Hp} {x : Addr} {y : V} (h : UpI E H x y) (s : Same H H1) : UpI E H1 x y := fun d H' s' e => h d H' (s.trans s') e
def levelsB : T → Bool
  | .int i => decide (i = 2 ∨ i = 3 ∨ i = 5 ∨ i = 7)
  | _ => false
def isS : T → Bool
  | .str _ => true
  | _ => false
/-- the first sign that bars a text -/
def BadAt (cs : List Nat) (i : Nat) : Prop := i < cs.length ∧ i ≤ 4000 ∧ (∀ j c, j < i → cs[j]? = some c → IsSign c) ∧ (i = 4000 ∨ ∀ c, cs[i]? = some c → ¬ IsSign c)
def spIsIntA (K : PySem.W.Frag) : Sp := fun vs H Q _ => ∃ (v : V) (t : T), vs = [v] ∧ An K H v t ∧ Q (.bl (whole t)) H
def spIsLevelsA (K : PySem.W.Frag) : Sp := fun vs H Q _ => ∃ (v : V) (t : T), vs = [v] ∧ An K H v t ∧ Q (.bl (levelsB t)) H
def spCkLvX (K : PySem.W.Frag) (xL : Addr) : Sp := fun vs H Q E => ∃ (v : V) (t : T), vs = [v] ∧ An K H v t ∧ (levelsB t = true → Q .non H) ∧ (levelsB t = false → Up E H xL v)
def spCkRA (K : PySem.W.Frag) (C xR : Addr) : Sp := fun vs H Q E => ∃ (v : V), vs = [v] ∧ ((∃ (a t : Addr) (lv fin : Int), v = .ref a ∧ RoundAt C H a lv t fin ∧ Q .non H) ∨ (∃ t, An K H v t ∧ Up E H xR v))
def spAskE (K : PySem.W.Frag) (xR : Addr) : Sp := fun vs H Q E => ∃ (v : V) (t : T), vs = [v] ∧ An K H v t ∧ Up E H xR v
def spWSignB : Sp := fun vs H Q _ => ∃ (x : Str) (i : Nat), vs = [.str x] ∧ BadAt (tl x) i ∧ ∀ H', Same H H' → Q (.int (i : Int)) H'
def spWalkedE (K : PySem.W.Frag) (xL xS : Addr) : Sp := fun vs H Q E => ∃ (p v : V) (tp tv : T), vs = [p, v] ∧ An K H p tp ∧ An K H v tv ∧ ((levelsB tp = false ∧ Up E H xL p) ∨ (levelsB tp = true ∧ ((isS tv = false ∧ UpI E H xS .non) ∨ ∃ (x : Str) (i : Nat), v = .str x ∧ BadAt (tl x) i ∧ UpI E H xS (.int (i : Int)))))
theorem isi_str {K : PySem.W.Frag} {H : Hp} {v : V} {t : T} (h : An K H v t) {Q : VK} (q : Q (.bl (isS t)) H) : rIsi K [v, .ty "str"] H Q := by
  cases h with
  | non => exact ⟨_, _, .type "NoneType", .type "str", false, rfl, .ty "str", .base .non, kit_ty (by decide +kernel), q⟩
  | bl b => exact ⟨_, _, .type "bool", .type "str", false, rfl, .ty "str", .base (.bl b), kit_ty (by decide +kernel), q⟩
  | int i => exact ⟨_, _, .type "int", .type "str", false, rfl, .ty "str", .base (.int i), kit_ty (by decide +kernel), q⟩
  | str x => exact isi_ss q
  | tup h _ => exact ⟨_, _, .type "tuple", .type "str", false, rfl, .ty "str", ty_tup h, kit_ty (by decide +kernel), q⟩
  | lst h => exact ⟨_, _, .type "list", .type "str", false, rfl, .ty "str", ty_lst h, kit_ty (by decide +kernel), q⟩
  | dct h => exact ⟨_, _, .type "dict", .type "str", false, rfl, .ty "str", .base (.dK h), kit_ty (by decide +kernel), q⟩
section
variable {P : Program} {w : World} {K : PySem.W.Frag} {mg : Str → Option Value} {base : Heap} {C xL xR xS : Addr}
theorem ok_isIntA {f : Addr} {fd : FuncData} (F : Fun K "is_integer" "is_integer" sIsInt f fd) (mis : mg "isinstance" = none) (mi : mg "int" = none) (mb : mg "bool" = none) : FnOk P w K mg base CX0 1 f fd ["value"] (spIsIntA K) := by
  refine F.ok scIsInt (fun vs H Q E h => ?_) (fun cdv A outer s H vs Q E hr h => ?_)
  · obtain ⟨v, t, rfl, _⟩ := h
    rfl
  · obtain ⟨v, t, rfl, ha, q⟩ := h
    refine ⟨_, pss_one (ps_ret (pe_and (pe_callB call_isi (by rfl) mis (by decide +kernel) (pa_cons (pv 0) (pa_cons (pe_bltn (v := .ty "int") (by rfl) mi (by decide +kernel) rfl) pa_nil)))
      (pe_one (pe_not (pe_callB call_isi (by rfl) mis (by decide +kernel) (pa_cons (pv 0) (pa_cons (pe_bltn (v := .ty "bool") (by rfl) mb (by decide +kernel) rfl) pa_nil))))))), ?_⟩
    exact st_ret (whole_and (val_var rfl) ha) q
theorem an_int {H : Hp} {v : V} {t : T} (h : An K H v t) (e : whole t = true) : ∃ i, v = .int i ∧ t = .int i := by
  cases h <;> first | exact ⟨_, rfl, rfl⟩ | cases e
theorem in_levels {i : Int} : inV (V.int i) [.int 2, .int 3, .int 5, .int 7] = decide (i = 2 ∨ i = 3 ∨ i = 5 ∨ i = 7) := by
  by_cases h : i = 2 ∨ i = 3 ∨ i = 5 ∨ i = 7
  · rw [decide_eq_true h]
    rcases h with rfl | rfl | rfl | rfl <;> decide
  · rw [decide_eq_false h]
    have h2 : i ≠ 2 := fun z => h (.inl z)
    have h3 : i ≠ 3 := fun z => h (.inr (.inl z))
    have h5 : i ≠ 5 := fun z => h (.inr (.inr (.inl z)))
    have h7 : i ≠ 7 := fun z => h (.inr (.inr (.inr z)))
    simp [inV, eqV, Ne.symm h2, Ne.symm h3, Ne.symm h5, Ne.symm h7]
theorem ok_isLevelsA {f aL : Addr} {fd : FuncData} (F : Fun K "is_levels" "is_levels" sIsLevels f fd) (I : Dr P w K mg base (spIsIntA K) "is_integer" ["value"] 1) (mL : mg "LEVELS" = some (.ref aL)) (four : ∀ H, SqT K H aL [.int 2, .int 3, .int 5, .int 7]) : FnOk P w K mg base CX0 2 f fd ["value"] (spIsLevelsA K) := by
  refine F.ok scIsLevels (fun vs H Q E h => ?_) (fun cdv A outer s H vs Q E hr h => ?_)
  · obtain ⟨v, t, rfl, _⟩ := h
    rfl
  · obtain ⟨v, t, rfl, ha, q⟩ := h
    refine ⟨_, pss_one (ps_ret (pe_and (pe_dr I (Nat.le_refl _) hr rfl (pa_cons (pv 0) pa_nil)) (pe_one (pe_cmpR op_in_seq (pv 0) (pe_glob (v := .ref aL) rfl mL rfl) (by rfl))))), ?_⟩
    refine ⟨_, rfl, v, t, rfl, ha, whole t, rfl, ?_⟩
    cases e : whole t with
    | true =>
      obtain ⟨i, rfl, rfl⟩ := an_int ha e
      refine iteT ⟨_, rfl, aL, _, rfl, .inr (four H), rfl, by decide, ?_⟩
      rw [in_levels]
      exact q
    | false =>
      refine iteF ?_
      cases t with
      | int i => cases e
      | _ => exact q
theorem ok_ckLvX {f : Addr} {fd : FuncData} (F : Fun K "check_levels" "check_levels" sCkLv f fd) (Il : Dr P w K mg base (spIsLevelsA K) "is_levels" ["value"] 2) (ZL : XC P w K mg xL "InvalidLevels" "given") (yL : PySem.W.typeIn K (.ref xL) = some (.type "type")) : FnOk P w K mg base (L2.CX P w) 3 f fd ["value"] (spCkLvX K xL) := by
  refine F.okX scCkLv (fun vs H Q E h => ?_) (fun cdv A outer s H vs Q E hr h => ?_)
  · obtain ⟨v, t, rfl, _⟩ := h
    rfl
  · obtain ⟨v, t, rfl, ha, q, qx⟩ := h
    refine ⟨_, pss_one (ps_if (pt_not (pt_val (pe_dr Il (by decide) hr rfl (pa_cons (pv 0) pa_nil)))) (pss_one (ps_raise rfl (takes_of rfl rfl rfl rfl) (pmk_xo rfl (pe_xc ZL hr rfl (pv 0))))) pss_nil), ?_⟩
    cases e : levelsB t with
    | true =>
      refine st_no (ans_not (b := true) (ans_val fun Q2 q2 => ⟨_, rfl, v, t, rfl, ha, ?_⟩)) (q e)
      rw [e]
      exact q2
    | false =>
      refine st_yes (ans_not (b := false) (ans_val fun Q2 q2 => ⟨_, rfl, v, t, rfl, ha, ?_⟩)) ?_
      · rw [e]
        exact q2
      · exact raise_run (val_var rfl) (fun a na => fr0_none na) (xc_raises ZL yL) fun d H' s1 hd => qx e d H' s1 hd
theorem ok_ckRA {f : Addr} {fd : FuncData} (F : Fun K "check_round" "check_round" sCkR f fd) (R : RCls K C) (S : IsR K C) (N : NoKd K C) (mR : mg "Round" = some (.ref C)) (mis : mg "isinstance" = none) (ZR : XC P w K mg xR "NotRound" "given") (yR : PySem.W.typeIn K (.ref xR) = some (.type "type")) : FnOk P w K mg base (L2.CX P w) 3 f fd ["value"] (spCkRA K C xR) := by
  refine F.okX scCkR (fun vs H Q E h => ?_) (fun cdv A outer s H vs Q E hr h => ?_)
  · obtain ⟨v, rfl, _⟩ := h
    rfl
  · obtain ⟨v, rfl, h⟩ := h
    refine ⟨_, pss_one (ps_if (pt_not (pt_val (pe_callB call_isi (by rfl) mis (by decide +kernel) (pa_cons (pv 0) (pa_cons (pe_glob (v := .ref C) rfl mR rfl) pa_nil))))) (pss_one (ps_raise rfl (takes_of rfl rfl rfl rfl) (pmk_xo rfl (pe_xc ZR hr rfl (pv 0))))) pss_nil), ?_⟩
    rcases h with ⟨a, t, lv, fin, rfl, ha, q⟩ | ⟨t, ha, qx⟩
    · exact st_no (ans_not (b := true) (ans_val (v_isR R S (val_var rfl) ha))) q
    · refine st_yes (ans_not (b := false) (ans_val fun Q2 q2 => ⟨_, rfl, isi_own N ha q2⟩)) ?_
      exact raise_run (val_var rfl) (fun a na => fr0_none na) (xc_raises ZR yR) fun d H' s1 hd => qx d H' s1 hd
theorem ok_stepsE {f : Addr} {fd : FuncData} (F : Fun K "steps" "steps" sSteps f fd) (Cr : DrX P w K mg base (spCkRA K C xR) "check_round" ["value"] 3) : FnOk P w K mg base (L2.CX P w) 4 f fd ["trip"] (spAskE K xR) := by
  refine F.okX scSteps (fun vs H Q E h => ?_) (fun cdv A outer s H vs Q E hr h => ?_)
  · obtain ⟨x, t, rfl, _⟩ := h
    rfl
  · obtain ⟨x, t, rfl, hx, qx⟩ := h
    exact ⟨_, pss_cons (ps_expr (pe_drX Cr (by decide) hr rfl (passes_on (takes_of rfl rfl rfl rfl)) (pa_cons (pv 0) pa_nil))) pss_never, _, rfl, x, rfl, .inr ⟨t, hx, qx⟩⟩
theorem ok_lwkE {f : Addr} {fd : FuncData} (F : Fun K "least_walk" "least_walk" sLWk f fd) (Cr : DrX P w K mg base (spCkRA K C xR) "check_round" ["value"] 3) : FnOk P w K mg base (L2.CX P w) 4 f fd ["trip"] (spAskE K xR) := by
  refine F.okX scLWk (fun vs H Q E h => ?_) (fun cdv A outer s H vs Q E hr h => ?_)
  · obtain ⟨x, t, rfl, _⟩ := h
    rfl
  · obtain ⟨x, t, rfl, hx, qx⟩ := h
    exact ⟨_, pss_cons (ps_expr (pe_drX Cr (by decide) hr rfl (passes_on (takes_of rfl rfl rfl rfl)) (pa_cons (pv 0) pa_nil))) pss_never, _, rfl, x, rfl, .inr ⟨t, hx, qx⟩⟩
theorem sign_not {c : Nat} (h : ¬ IsSign c) : inV (V.str ⟨#[c]⟩) [.str "<", .str ">", .str "+"] = false := by
  have h1 : c ≠ 60 := fun e => h (.inl e)
  have h2 : c ≠ 62 := fun e => h (.inr (.inl e))
  have h3 : c ≠ 43 := fun e => h (.inr (.inr e))
  show inV (V.str ⟨#[c]⟩) [V.str ⟨#[60]⟩, V.str ⟨#[62]⟩, V.str ⟨#[43]⟩] = false
  simp [inV, eqV, Ne.symm h1, Ne.symm h2, Ne.symm h3]
theorem ok_wsignB {f aS : Addr} {fd : FuncData} {t1 : Tok} (F : Fun K "wrong_sign" "wrong_sign" sWSign f fd) (mS : mg "SIGNS" = some (.ref aS)) (three : ∀ H, SqT K H aS [.str "<", .str ">", .str "+"]) (mMS : mg "MOST_STEPS" = some (.int 4000 t1)) (me : mg "enumerate" = none) : FnOk P w K mg base CX0 1 f fd ["row"] spWSignB := by
  refine F.ok scWSign (fun vs H Q E h => ?_) (fun cdv A outer s H vs Q E hr h => ?_)
  · obtain ⟨x, i, rfl, _⟩ := h
    rfl
  · obtain ⟨x, k, rfl, ⟨hk, hk4, hs, hb⟩, q⟩ := h
    refine ⟨_, pss_cons (ps_for PassesOwn.never rfl (pi_enumS rfl me (pa_cons (pv 0) pa_nil)) (pg_tup rfl (pgs_cons (pg_name (i := 1) scWSign.nd rfl (.inl rfl)) (pgs_cons (pg_name (i := 2) scWSign.nd rfl (.inl rfl)) pgs_nil)))
        (pss_one (ps_if (PW.pt (pw_or (pt_cmpR op_notIn_seq (pv 2) (pe_glob (v := .ref aS) rfl mS rfl) (by rfl)) (pw_or1 (pt_cmpR op_eq (pv 1) (pe_glob (v := .int 4000) rfl mMS ⟨_, rfl⟩) (nomark _))))) (pss_one (ps_ret (pv 1))) pss_nil)))
      (pss_one (ps_ret pe_non)), ?_⟩
    have hsz : x.cps.size = (tl x).length := rfl
    refine ⟨_, rfl, x, rfl, for_enumS (fun i σ H' => ∃ a b, σ = [some (.str x), a, b] ∧ Same H H' ∧ i ≤ k) ⟨_, _, rfl, Same.refl H, Nat.zero_le _⟩ (fun i c σ H' T hx z hT => ?_) (fun σ H' z => ?_)⟩
    · obtain ⟨a, b, rfl, s1, hik⟩ := z
      have hi : i < x.cps.size := (Array.getElem?_eq_some_iff.mp hx).1
      have hx2 : (tl x)[i]? = some c := by rw [show tl x = x.cps.toList from rfl, Array.getElem?_toList]; exact hx
      have s2 := s1.trans (same_of (o := .tup [V.int (i : Nat), V.str ⟨#[c]⟩]) hT)
      refine ⟨T, _, rfl, SqT.of upd_same, rfl, _, _, rfl, _, _, rfl, rfl, ?_⟩
      by_cases ik : i = k
      · subst ik
        by_cases hc : IsSign c
        · have e4 : i = 4000 := by
            rcases hb with e | e
            · exact e
            · exact absurd hc (e c hx2)
          refine ⟨_, rfl, aS, _, rfl, .inr (three _), rfl, by decide, ?_⟩
          rw [sign_in hc]
          refine ⟨false, rfl, iteF ?_⟩
          refine ⟨_, rfl, rfl, true, (by rw [e4]; rfl), iteT ⟨_, rfl, ?_⟩⟩
          exact q _ s2
        · refine ⟨_, rfl, aS, _, rfl, .inr (three _), rfl, by decide, ?_⟩
          rw [sign_not hc]
          exact ⟨true, rfl, iteT (iteT ⟨_, rfl, q _ s2⟩)⟩
      · have hc : IsSign c := hs i c (by omega) hx2
        refine st_no (ans_or (ans_cmp (val_var rfl) val_c fun Q q => ⟨aS, _, rfl, .inr (three _), rfl, by decide, by rw [sign_in hc]; exact q⟩) (ans_eq (val_var rfl) val_c rfl (decide_eq_false (fun e => by have := V.int.inj e; omega)))) ?_
        exact ⟨_, _, rfl, s2, by omega⟩
    · obtain ⟨a, b, rfl, s1, hik⟩ := z
      omega
theorem ok_walkedE {f : Addr} {fd : FuncData} (F : Fun K "walked" "walked" sWalked f fd) (Cl : DrX P w K mg base (spCkLvX K xL) "check_levels" ["value"] 3) (Ws : Dr P w K mg base spWSignB "wrong_sign" ["row"] 1) (ZS : XC P w K mg xS "InvalidSteps" "index") (yS : PySem.W.typeIn K (.ref xS) = some (.type "type")) (mis : mg "isinstance" = none) (ms : mg "str" = none) : FnOk P w K mg base (L2.CX P w) 4 f fd ["levels", "steps"] (spWalkedE K xL xS) := by
  refine F.okX scWalked (fun vs H Q E h => ?_) (fun cdv A outer s H vs Q E hr h => ?_)
  · obtain ⟨p, v, tp, tv, rfl, _⟩ := h
    rfl
  · obtain ⟨p, v, tp, tv, rfl, hp, hv, h⟩ := h
    refine ⟨_, pss_cons (ps_expr (pe_drX Cl (by decide) hr rfl (passes_on (takes_of rfl rfl rfl rfl)) (pa_cons (pv 0) pa_nil)))
      (pss_cons (ps_if (pt_not (pt_val (pe_callB call_isi (by rfl) mis (by decide +kernel) (pa_cons (pv 1) (pa_cons (pe_bltn (v := .ty "str") (by rfl) ms (by decide +kernel) rfl) pa_nil))))) (pss_one (ps_raise rfl (takes_of rfl rfl rfl rfl) (pmk_xo rfl (pe_xc ZS (hr.mono (by decide)) rfl pe_non)))) pss_nil)
      (pss_cons (ps_set (i := 2) scWalked.nd rfl (.inl rfl) (pe_dr Ws (by decide) hr rfl (pa_cons (pv 1) pa_nil)))
      (pss_cons (ps_if (pt_cmpR op_notN1 (pv 2) pe_non (nomark _)) (pss_one (ps_raise rfl (takes_of rfl rfl rfl rfl) (pmk_xo rfl (pe_xc ZS (hr.mono (by decide)) rfl (pv 2))))) pss_nil) pss_never))), ?_⟩
    rcases h with ⟨e, up⟩ | ⟨e, h⟩
    · exact ⟨_, rfl, p, tp, rfl, hp, fun z => by (rw [e] at z; cases z), fun _ => up⟩
    · refine ⟨_, rfl, p, tp, rfl, hp, fun _ => ?_, fun z => by (rw [e] at z; cases z)⟩
      dsimp only
      rcases h with ⟨e2, up⟩ | ⟨x, i, rfl, bad, up⟩
      · refine sq_yes (ans_not (b := false) (ans_val fun Q q => ⟨_, rfl, isi_str hv (by rw [e2]; exact q)⟩)) ?_
        exact raise_run val_c (fun a na => fr0_none na) (xc_raises ZS yS) fun d H' s1 hd => up d H' s1 hd
      · refine sq_no (ans_not (b := true) (ans_val fun Q q => ⟨_, rfl, isi_ss q⟩)) ?_
        refine ⟨_, rfl, x, i, rfl, bad, fun H1 s1 => ?_⟩
        dsimp only [gName]
        refine sq_yes (ans_notN (x := .int (i : Int)) (val_var rfl) rfl) ?_
        exact raise_run (val_var rfl) (fun a na => fr0_none (s1.free na)) (xc_raises ZS yS) fun d H' s2 hd => up.on s1 d H' s2 hd
end
end Lamp
set_option Elab.async false
set_option linter.all false
set_option maxRecDepth 100000
set_option maxHeartbeats 1000000
namespace Lamp
open PySem PySem.Spec PyProof.Rows L2 LamX
abbrev sSort : Stmt := top 54
/-! the sorting of errors: of each class, with a value of any kind -/
structure KdG (K : PySem.W.Frag) (cA cB cC x0 x1 x2 x3 D : Addr) (p0 p1 p2 b0 b1 b2 b3 : Bool) : Prop where
  T : ∃ (B newId initId : String) (tail : List Value), EC K D B newId initId tail
  ki : PySem.W.findIn K (.ref D) "index" = some none
  kg : PySem.W.findIn K (.ref D) "given" = some none
  k1 : PySem.W.kitOne K (.ref D) (.ref cA) = some p0
  k2 : PySem.W.kitOne K (.ref D) (.ref cB) = some p1
  k3 : PySem.W.kitOne K (.ref D) (.ref cC) = some p2
  k4 : PySem.W.kitOne K (.ref D) (.type "ValueError") = some p0
  k5 : PySem.W.kitOne K (.ref D) (.type "LookupError") = some p1
  k6 : PySem.W.kitOne K (.ref D) (.type "ArithmeticError") = some p2
  y0 : PySem.W.kitOne K (.ref D) (.ref x0) = some b0
  y1 : PySem.W.kitOne K (.ref D) (.ref x1) = some b1
  y2 : PySem.W.kitOne K (.ref D) (.ref x2) = some b2
  y3 : PySem.W.kitOne K (.ref D) (.ref x3) = some b3
def kdgB (K : PySem.W.Frag) (cA cB cC x0 x1 x2 x3 D : Addr) (p0 p1 p2 b0 b1 b2 b3 : Bool) : Bool :=
  [(Value.ref cA, p0), (.ref cB, p1), (.ref cC, p2), (.type "ValueError", p0), (.type "LookupError", p1), (.type "ArithmeticError", p2), (.ref x0, b0), (.ref x1, b1), (.ref x2, b2), (.ref x3, b3)].all (fun q => decide (PySem.W.kitOne K (.ref D) q.1 = some q.2)) && (decide (PySem.W.findIn K (.ref D) "index" = some none) && decide (PySem.W.findIn K (.ref D) "given" = some none))
theorem kdgB_ok {K : PySem.W.Frag} {cA cB cC x0 x1 x2 x3 D : Addr} {p0 p1 p2 b0 b1 b2 b3 : Bool} (T : ∃ (B newId initId : String) (tail : List Value), EC K D B newId initId tail) (h : kdgB K cA cB cC x0 x1 x2 x3 D p0 p1 p2 b0 b1 b2 b3 = true) : KdG K cA cB cC x0 x1 x2 x3 D p0 p1 p2 b0 b1 b2 b3 := by
  unfold kdgB at h
  simp only [List.all_cons, List.all_nil, Bool.and_eq_true, decide_eq_true_eq] at h
  obtain ⟨⟨h1, h2, h3, h4, h5, h6, g0, g1, g2, g3, _⟩, e1, e2⟩ := h
  exact ⟨T, e1, e2, h1, h2, h3, h4, h5, h6, g0, g1, g2, g3⟩
structure NmG (mg : Str → Option Value) (cA cB cC x0 x1 x2 x3 : Addr) : Prop where
  mA : mg "WrongValue" = some (.ref cA)
  mB : mg "WrongName" = some (.ref cB)
  mC : mg "NotPossible" = some (.ref cC)
  m0 : mg "InvalidLevels" = some (.ref x0)
  m1 : mg "InvalidSteps" = some (.ref x1)
  m2 : mg "NotRound" = some (.ref x2)
  m3 : mg "TooMany" = some (.ref x3)
  n1 : mg "ValueError" = none
  n2 : mg "LookupError" = none
  n3 : mg "ArithmeticError" = none
def ErrG (x0 x1 x2 x3 : Addr) (D : Addr) (f m : Str) : Prop := (D = x0 ∧ f = "given" ∧ m = "InvalidLevels") ∨ (D = x1 ∧ f = "index" ∧ m = "InvalidSteps") ∨ (D = x2 ∧ f = "given" ∧ m = "NotRound") ∨ (D = x3 ∧ f = "given" ∧ m = "TooMany")
def spSort (K : PySem.W.Frag) (x0 x1 x2 x3 : Addr) : SpO := fun a D d vs H Q _ => vs = [.ref a] ∧ ((∃ (dd : Addr) (f m : Str) (y : V) (dt : PyData), d = some dd ∧ ErrG x0 x1 x2 x3 D f m ∧ H dd = some (exd dd [(f, y)]) ∧ Dq K H y dt ∧ okD dt = true ∧ ∀ l H', Same H H' → H l = none → H' l = some (.lst [.str m, .str dt.shown]) → Q (.ref l) H'))
def One3 (p0 p1 p2 : Bool) : Prop := (p0 = true ∧ p1 = false ∧ p2 = false) ∨ (p0 = false ∧ p1 = true ∧ p2 = false) ∨ (p0 = false ∧ p1 = false ∧ p2 = true)
def flG (p0 p1 p2 : Bool) : PyData := .list ([p0, p1, p2].map PyData.bool)
theorem flG_ok {p0 p1 p2 : Bool} (h : One3 p0 p1 p2) : SeqAt.shaped (flG p0 p1 p2) = true ∧ PyData.eqv (flG p0 p1 p2) (flG p0 p1 p2) = true ∧ (([p0, p1, p2].map PyData.bool).countP fun z => PyData.eqv z (.bool true)) = 1 := by
  rcases h with ⟨rfl, rfl, rfl⟩ | ⟨rfl, rfl, rfl⟩ | ⟨rfl, rfl, rfl⟩ <;> decide +kernel
theorem sq_lstVn {ta : TA} {σ : L2.St} {H : Hp} {vs : List V} {t2 : TS} {D : Ends} {i : Nat} (h : VA ta σ H vs) (hl : vs.length ≤ 100) (k : ∀ l H', H l = none → H' l = some (.lst vs) → Same H H' → t2 D (σ.set i (some (.ref l))) H') : tSeq (tAsg (tLst ta) (gName i)) t2 D σ H :=
  h _ ⟨Nat.le_of_lt (small1000 (by omega)), fun r hr => k r _ hr upd_same (same_of hr)⟩
section
variable {K : PySem.W.Frag} {σ : L2.St} {H : Hp} {i : Nat} {a D D' : Addr} {d : Option Addr} {b : Bool}
theorem v_isO (h : σ[i]? = some (some (.ref a))) (hd : DictO H d) (hk : PySem.W.kitOne K (.ref D) (.ref D') = some b) :
    Val (tCB (rIsO K a D d) (tCons (tVar i) (tCons (tC (.ref D')) tNil))) σ H (.bl b) := fun Q q => ⟨_, h, _, _, b, rfl, hd, .own D', hk, q⟩
theorem v_isOT {n : String} (h : σ[i]? = some (some (.ref a))) (hd : DictO H d) (hk : PySem.W.kitOne K (.ref D) (.type n) = some b) :
    Val (tCB (rIsO K a D d) (tCons (tVar i) (tCons (tC (.ty n)) tNil))) σ H (.bl b) := fun Q q => ⟨_, h, _, _, b, rfl, hd, .ty n, hk, q⟩
end
theorem DictO.same {H H' : Hp} {d : Option Addr} (h : DictO H d) (s : Same H H') : DictO H' d := by
  cases d with
  | none => trivial
  | some dd =>
    obtain ⟨fs, h⟩ := h
    exact ⟨fs, s _ _ h⟩
section
variable {P : Program} {w : World} {K : PySem.W.Frag} {mg : Str → Option Value} {base : Heap} {cA cB cC x0 x1 x2 x3 : Addr}
theorem scSort : FnScope ["_law_e", "_law_bases", "_law_plain", "_law_found"] ["_law_e"] (defScope sSort) := ⟨rfl, rfl, rfl, by decide +kernel, rfl, by decide +kernel, by decide +kernel⟩
/-- what is told at last -/
theorem sort_end {p0 p1 p2 : Bool} (h3 : One3 p0 p1 p2) {a l1 l2 l3 l4 : Addr} {H4 : Hp} {D : Ends} (e1 : H4 l1 = some (.lst [.bl p0, .bl p1, .bl p2])) (e2 : H4 l2 = some (.lst [.bl p0, .bl p1, .bl p2])) (e3 : H4 l3 = some (.lst [.ref l4])) (q : D.rt (.ref l4) H4) :
    tRet (tIf (tAnd (tTest (tOp rEq (tCB (fun xs H Q => ∃ p ys, xs = [.ref p] ∧ (SqL K H p ys ∨ SqT K H p ys) ∧ Q (.int ys.length) H) (tCons (tVar 3) tNil)) (tC (.int 1)))) (tAnd (tTest (tOp (rEqD K) (tVar 1) (tVar 2))) (tTest (tOp rEq (tBM K "list" (rCntD K) (tVar 1) (tCons (tC (.bl true)) tNil)) (tC (.int 1)))))) (tOp (rIxL K) (tVar 3) (tC (.int 0))) (tLst (tCons (tC (.str "other")) (tCons (tC (.str "")) tNil)))) D [some (.ref a), some (.ref l1), some (.ref l2), some (.ref l3)] H4 := by
  obtain ⟨f1, f2, f3⟩ := flG_ok h3
  have a3 : Ans (tTest (tOp rEq (tBM K "list" (rCntD K) (tVar 1) (tCons (tC (.bl true)) tNil)) (tC (.int 1)))) [some (.ref a), some (.ref l1), some (.ref l2), some (.ref l3)] H4 true := by
    refine ans_eq (x := .int 1) (y := .int 1) (fun Q q => ⟨_, rfl, .inl ⟨rfl, _, SqL.of e1⟩, l1, _, .bl true, [p0, p1, p2].map PyData.bool, .bool true, rfl, rfl, SqL.of e1, dpAll_bools (bs := [p0, p1, p2]), .bl true, by rcases h3 with ⟨rfl, rfl, rfl⟩ | ⟨rfl, rfl, rfl⟩ | ⟨rfl, rfl, rfl⟩ <;> decide, by decide, by rcases h3 with ⟨rfl, rfl, rfl⟩ | ⟨rfl, rfl, rfl⟩ | ⟨rfl, rfl, rfl⟩ <;> decide, ?_⟩) val_c rfl rfl
    rw [f3]
    exact q
  have a2 : Ans (tTest (tOp (rEqD K) (tVar 1) (tVar 2))) [some (.ref a), some (.ref l1), some (.ref l2), some (.ref l3)] H4 true := by
    intro Q q
    refine ⟨_, rfl, _, rfl, flG p0 p1 p2, flG p0 p1 p2, .lst (SqL.of e1) (dpAll_bools (bs := [p0, p1, p2])), .lst (SqL.of e2) (dpAll_bools (bs := [p0, p1, p2])), f1, f1, _, rfl, ?_⟩
    rw [f2]
    exact q
  have a1 : Ans (tTest (tOp rEq (tCB (fun xs H Q => ∃ p ys, xs = [.ref p] ∧ (SqL K H p ys ∨ SqT K H p ys) ∧ Q (.int ys.length) H) (tCons (tVar 3) tNil)) (tC (.int 1)))) [some (.ref a), some (.ref l1), some (.ref l2), some (.ref l3)] H4 true := ans_eq (x := .int 1) (y := .int 1) (fun Q q => ⟨_, rfl, l3, _, rfl, .inl (SqL.of e3), q⟩) val_c rfl rfl
  refine ans_and a1 (ans_and a2 a3) _ ?_
  exact iteT ⟨_, rfl, l3, _, 0, .ref l4, rfl, rfl, SqL.of e3, rfl, q⟩
theorem ok_sort {f : Addr} {fd : FuncData} (F : Fun K "_law_sort" "_law_sort" sSort f fd) (G : ClsG K) (N : NmG mg cA cB cC x0 x1 x2 x3) (D0 : KdG K cA cB cC x0 x1 x2 x3 x0 true false false true false false false) (D1 : KdG K cA cB cC x0 x1 x2 x3 x1 true false false false true false false) (D2 : KdG K cA cB cC x0 x1 x2 x3 x2 true false false false false true false) (D3 : KdG K cA cB cC x0 x1 x2 x3 x3 false false true false false false true)
    (mis : mg "isinstance" = none) (mp : mg "repr" = none) (ml : mg "len" = none) : FnO P w K mg base 2 f fd ["_law_e"] (spSort K x0 x1 x2 x3) := by
  refine okO F scSort (fun a D d vs H Q E h => ?_) (fun cdv A outer s H vs Q p D d hgd hr Z h => ?_)
  · obtain ⟨rfl, _⟩ := h
    rfl
  · have hu : (A.deeper (envOfC "_law_sort" (defScope sSort) s.heap.objs.size f cdv)).units + 64 < cLine := by have := hr.un; omega
    have hp : p ∈ (L2H.cxH CX0 P w K mg base ["_law_e", "_law_bases", "_law_plain", "_law_found"] "_law_sort" (defScope sSort) f cdv A outer s H E0 p).nox.pn := List.mem_cons_self ..
    obtain ⟨rfl, h⟩ := h
    rcases h with ⟨dd, fl, m, y, dt, rfl, he, hd, hq, kd, q⟩
    · obtain ⟨p0, p1, p2, b0, b1, b2, b3, DD, h3', hb⟩ : ∃ p0 p1 p2 b0 b1 b2 b3, KdG K cA cB cC x0 x1 x2 x3 D p0 p1 p2 b0 b1 b2 b3 ∧ One3 p0 p1 p2 ∧ ((b0 = true ∧ b1 = false ∧ b2 = false ∧ b3 = false ∧ fl = "given" ∧ m = "InvalidLevels") ∨ (b0 = false ∧ b1 = true ∧ b2 = false ∧ b3 = false ∧ fl = "index" ∧ m = "InvalidSteps") ∨ (b0 = false ∧ b1 = false ∧ b2 = true ∧ b3 = false ∧ fl = "given" ∧ m = "NotRound") ∨ (b0 = false ∧ b1 = false ∧ b2 = false ∧ b3 = true ∧ fl = "given" ∧ m = "TooMany")) := by
        rcases he with ⟨rfl, e1, e2⟩ | ⟨rfl, e1, e2⟩ | ⟨rfl, e1, e2⟩ | ⟨rfl, e1, e2⟩
        · exact ⟨_, _, _, _, _, _, _, D0, .inl ⟨rfl, rfl, rfl⟩, .inl (⟨rfl, rfl, rfl, rfl, e1, e2⟩)⟩
        · exact ⟨_, _, _, _, _, _, _, D1, .inl ⟨rfl, rfl, rfl⟩, .inr (.inl (⟨rfl, rfl, rfl, rfl, e1, e2⟩))⟩
        · exact ⟨_, _, _, _, _, _, _, D2, .inl ⟨rfl, rfl, rfl⟩, .inr (.inr (.inl (⟨rfl, rfl, rfl, rfl, e1, e2⟩)))⟩
        · exact ⟨_, _, _, _, _, _, _, D3, .inr (.inr ⟨rfl, rfl, rfl⟩), .inr (.inr (.inr (⟨rfl, rfl, rfl, rfl, e1, e2⟩)))⟩
      have kd3 := okD_of kd
      have hD : DictO H (some dd) := ⟨_, hd⟩
      refine ⟨_, pss_cons (ps_set (i := 1) scSort.nd rfl (.inl rfl) (pe_lst (pa_cons (pe_callB (call_isO G DD.T hp Z) (by rfl) mis (by decide +kernel) (pa_cons (pv 0) (pa_cons (pe_glob (v := .ref cA) rfl N.mA rfl) pa_nil))) (pa_cons (pe_callB (call_isO G DD.T hp Z) (by rfl) mis (by decide +kernel) (pa_cons (pv 0) (pa_cons (pe_glob (v := .ref cB) rfl N.mB rfl) pa_nil))) (pa_cons (pe_callB (call_isO G DD.T hp Z) (by rfl) mis (by decide +kernel) (pa_cons (pv 0) (pa_cons (pe_glob (v := .ref cC) rfl N.mC rfl) pa_nil))) pa_nil)))))
        (pss_cons (ps_set (i := 2) scSort.nd rfl (.inl rfl) (pe_lst (pa_cons (pe_callB (call_isO G DD.T hp Z) (by rfl) mis (by decide +kernel) (pa_cons (pv 0) (pa_cons (pe_bltn (v := .ty "ValueError") (by rfl) N.n1 (by decide +kernel) rfl) pa_nil))) (pa_cons (pe_callB (call_isO G DD.T hp Z) (by rfl) mis (by decide +kernel) (pa_cons (pv 0) (pa_cons (pe_bltn (v := .ty "LookupError") (by rfl) N.n2 (by decide +kernel) rfl) pa_nil))) (pa_cons (pe_callB (call_isO G DD.T hp Z) (by rfl) mis (by decide +kernel) (pa_cons (pv 0) (pa_cons (pe_bltn (v := .ty "ArithmeticError") (by rfl) N.n3 (by decide +kernel) rfl) pa_nil))) pa_nil)))))
        (pss_cons (ps_set (i := 3) scSort.nd rfl (.inl rfl) (pe_lst pa_nil))
        (pss_cons (ps_if (pt_val (pe_callB (call_isO G DD.T hp Z) (by rfl) mis (by decide +kernel) (pa_cons (pv 0) (pa_cons (pe_glob (v := .ref x0) rfl N.m0 rfl) pa_nil)))) (pss_one (ps_expr (pe_bm PySem.F.plainAttrs_list PySem.F.slot_list_append PySem.F.type_list_append mt_append (pv 3) (pa_cons (pe_lst (pa_cons pe_str (pa_cons (pe_callB (call_reprD hgd hu) (by rfl) mp (by decide +kernel) (pa_cons (pe_xfP DD.T DD.kg hp Z.some (pv 0)) pa_nil)) pa_nil))) pa_nil)))) pss_nil)
        (pss_cons (ps_if (pt_val (pe_callB (call_isO G DD.T hp Z) (by rfl) mis (by decide +kernel) (pa_cons (pv 0) (pa_cons (pe_glob (v := .ref x1) rfl N.m1 rfl) pa_nil)))) (pss_one (ps_expr (pe_bm PySem.F.plainAttrs_list PySem.F.slot_list_append PySem.F.type_list_append mt_append (pv 3) (pa_cons (pe_lst (pa_cons pe_str (pa_cons (pe_callB (call_reprD hgd hu) (by rfl) mp (by decide +kernel) (pa_cons (pe_xfP DD.T DD.ki hp Z.some (pv 0)) pa_nil)) pa_nil))) pa_nil)))) pss_nil)
        (pss_cons (ps_if (pt_val (pe_callB (call_isO G DD.T hp Z) (by rfl) mis (by decide +kernel) (pa_cons (pv 0) (pa_cons (pe_glob (v := .ref x2) rfl N.m2 rfl) pa_nil)))) (pss_one (ps_expr (pe_bm PySem.F.plainAttrs_list PySem.F.slot_list_append PySem.F.type_list_append mt_append (pv 3) (pa_cons (pe_lst (pa_cons pe_str (pa_cons (pe_callB (call_reprD hgd hu) (by rfl) mp (by decide +kernel) (pa_cons (pe_xfP DD.T DD.kg hp Z.some (pv 0)) pa_nil)) pa_nil))) pa_nil)))) pss_nil)
        (pss_cons (ps_if (pt_val (pe_callB (call_isO G DD.T hp Z) (by rfl) mis (by decide +kernel) (pa_cons (pv 0) (pa_cons (pe_glob (v := .ref x3) rfl N.m3 rfl) pa_nil)))) (pss_one (ps_expr (pe_bm PySem.F.plainAttrs_list PySem.F.slot_list_append PySem.F.type_list_append mt_append (pv 3) (pa_cons (pe_lst (pa_cons pe_str (pa_cons (pe_callB (call_reprD hgd hu) (by rfl) mp (by decide +kernel) (pa_cons (pe_xfP DD.T DD.kg hp Z.some (pv 0)) pa_nil)) pa_nil))) pa_nil)))) pss_nil)
        (pss_one (ps_ret (pe_ifExp (PW.pt (pw_and (pt_cmpR op_eq (pe_callB call_len_seq (by rfl) ml PySem.boot_len (pa_cons (pv 3) pa_nil)) pe_int (nomark _)) (pw_and (pt_cmpR (op_eqD hu) (pv 1) (pv 2) (nomark _)) (pw_and1 (pt_cmpR op_eq (pe_bm PySem.F.plainAttrs_list PySem.F.slot_list_count PySem.F.type_list_count (mt_cntD hu) (pv 1) (pa_cons pe_bl pa_nil)) pe_int (nomark _)))))) (pe_ix ix_list (pv 3) pe_int (fun _ _ => rfl)) (pe_lst (pa_cons pe_str (pa_cons pe_str pa_nil)))))))))))), ?_⟩
      refine sq_lstV (va_cons (v_isO rfl hD DD.k1) (va_cons (v_isO rfl hD DD.k2) (va_cons (v_isO rfl hD DD.k3) va_nil))) (by show 3 ≤ 100; decide) fun l1 H1 h1 s1 => ?_
      have hD1 := hD.same s1
      refine sq_lstV (va_cons (v_isOT rfl hD1 DD.k4) (va_cons (v_isOT rfl hD1 DD.k5) (va_cons (v_isOT rfl hD1 DD.k6) va_nil))) (by show 3 ≤ 100; decide) fun l2 H2 h2 s2 => ?_
      refine sq_lstVn va_nil (by decide) fun l3 H3 n3 h3 s3 => ?_
      have n3 := (s1.trans s2).free n3
      dsimp only [List.set, L2.start, List.map, List.length, List.replicate, List.append]
      have g2 := s3 _ _ h2
      have g1 := s3 _ _ (s2 _ _ h1)
      have s03 := (s1.trans s2).trans s3
      have hD3 := hD.same s03
      have n31 : l1 ≠ l3 := fun z => by rw [z, h3] at g1; cases g1
      have n32 : l2 ≠ l3 := fun z => by rw [z, h3] at g2; cases g2
      have hd3 := s03 _ _ hd
      have hq3 := dq_same s03 hq
      rcases hb with ⟨rfl, rfl, rfl, rfl, rfl, rfl⟩ | ⟨rfl, rfl, rfl, rfl, rfl, rfl⟩ | ⟨rfl, rfl, rfl, rfl, rfl, rfl⟩ | ⟨rfl, rfl, rfl, rfl, rfl, rfl⟩
      · refine sq_yes (ans_val (v_isO rfl hD3 DD.y0)) ?_
        refine ⟨_, rfl, .inl ⟨rfl, _, SqL.of h3⟩, _, rfl, rfl, _, y, hd3, by rw [List.lookup_cons, beq_self_eq_true], y, dt, rfl, hq3, kd3.1, kd3.2.1, kd3.2.2, (by show 2 ≤ sizeLine; decide), fun l4 n4 => ?_⟩
        have m1 := ne_of_none g1 n4
        have m2 := ne_of_none g2 n4
        have m3 := ne_of_none h3 n4
        refine ⟨l3, [], _, rfl, rfl, by rw [upd_ne m3]; exact h3, (by show 0 < sizeLine; decide), ?_⟩
        have s4 : Same H (upd (upd H3 l4 (.lst [.str "InvalidLevels", .str dt.shown])) l3 (.lst [.ref l4])) := fun b o e => by
          rw [upd_ne (ne_of_none e n3), upd_ne (ne_of_none (s03 _ _ e) n4)]
          exact s03 _ _ e
        have hD4 := hD.same s4
        refine sq_no (ans_val (v_isO rfl hD4 DD.y1)) ?_
        refine sq_no (ans_val (v_isO rfl hD4 DD.y2)) ?_
        refine sq_no (ans_val (v_isO rfl hD4 DD.y3)) ?_
        exact sort_end h3' (by rw [upd_ne n31, upd_ne m1]; exact g1) (by rw [upd_ne n32, upd_ne m2]; exact g2) upd_same (q l4 _ s4 (s03.free n4) (by rw [upd_ne (Ne.symm m3), upd_same]))
      · refine sq_no (ans_val (v_isO rfl hD3 DD.y0)) ?_
        refine sq_yes (ans_val (v_isO rfl hD3 DD.y1)) ?_
        refine ⟨_, rfl, .inl ⟨rfl, _, SqL.of h3⟩, _, rfl, rfl, _, y, hd3, by rw [List.lookup_cons, beq_self_eq_true], y, dt, rfl, hq3, kd3.1, kd3.2.1, kd3.2.2, (by show 2 ≤ sizeLine; decide), fun l4 n4 => ?_⟩
        have m1 := ne_of_none g1 n4
        have m2 := ne_of_none g2 n4
        have m3 := ne_of_none h3 n4
        refine ⟨l3, [], _, rfl, rfl, by rw [upd_ne m3]; exact h3, (by show 0 < sizeLine; decide), ?_⟩
        have s4 : Same H (upd (upd H3 l4 (.lst [.str "InvalidSteps", .str dt.shown])) l3 (.lst [.ref l4])) := fun b o e => by
          rw [upd_ne (ne_of_none e n3), upd_ne (ne_of_none (s03 _ _ e) n4)]
          exact s03 _ _ e
        have hD4 := hD.same s4
        refine sq_no (ans_val (v_isO rfl hD4 DD.y2)) ?_
        refine sq_no (ans_val (v_isO rfl hD4 DD.y3)) ?_
        exact sort_end h3' (by rw [upd_ne n31, upd_ne m1]; exact g1) (by rw [upd_ne n32, upd_ne m2]; exact g2) upd_same (q l4 _ s4 (s03.free n4) (by rw [upd_ne (Ne.symm m3), upd_same]))
      · refine sq_no (ans_val (v_isO rfl hD3 DD.y0)) ?_
        refine sq_no (ans_val (v_isO rfl hD3 DD.y1)) ?_
        refine sq_yes (ans_val (v_isO rfl hD3 DD.y2)) ?_
        refine ⟨_, rfl, .inl ⟨rfl, _, SqL.of h3⟩, _, rfl, rfl, _, y, hd3, by rw [List.lookup_cons, beq_self_eq_true], y, dt, rfl, hq3, kd3.1, kd3.2.1, kd3.2.2, (by show 2 ≤ sizeLine; decide), fun l4 n4 => ?_⟩
        have m1 := ne_of_none g1 n4
        have m2 := ne_of_none g2 n4
        have m3 := ne_of_none h3 n4
        refine ⟨l3, [], _, rfl, rfl, by rw [upd_ne m3]; exact h3, (by show 0 < sizeLine; decide), ?_⟩
        have s4 : Same H (upd (upd H3 l4 (.lst [.str "NotRound", .str dt.shown])) l3 (.lst [.ref l4])) := fun b o e => by
          rw [upd_ne (ne_of_none e n3), upd_ne (ne_of_none (s03 _ _ e) n4)]
          exact s03 _ _ e
        have hD4 := hD.same s4
        refine sq_no (ans_val (v_isO rfl hD4 DD.y3)) ?_
        exact sort_end h3' (by rw [upd_ne n31, upd_ne m1]; exact g1) (by rw [upd_ne n32, upd_ne m2]; exact g2) upd_same (q l4 _ s4 (s03.free n4) (by rw [upd_ne (Ne.symm m3), upd_same]))
      · refine sq_no (ans_val (v_isO rfl hD3 DD.y0)) ?_
        refine sq_no (ans_val (v_isO rfl hD3 DD.y1)) ?_
        refine sq_no (ans_val (v_isO rfl hD3 DD.y2)) ?_
        refine sq_yes (ans_val (v_isO rfl hD3 DD.y3)) ?_
        refine ⟨_, rfl, .inl ⟨rfl, _, SqL.of h3⟩, _, rfl, rfl, _, y, hd3, by rw [List.lookup_cons, beq_self_eq_true], y, dt, rfl, hq3, kd3.1, kd3.2.1, kd3.2.2, (by show 2 ≤ sizeLine; decide), fun l4 n4 => ?_⟩
        have m1 := ne_of_none g1 n4
        have m2 := ne_of_none g2 n4
        have m3 := ne_of_none h3 n4
        refine ⟨l3, [], _, rfl, rfl, by rw [upd_ne m3]; exact h3, (by show 0 < sizeLine; decide), ?_⟩
        have s4 : Same H (upd (upd H3 l4 (.lst [.str "TooMany", .str dt.shown])) l3 (.lst [.ref l4])) := fun b o e => by
          rw [upd_ne (ne_of_none e n3), upd_ne (ne_of_none (s03 _ _ e) n4)]
          exact s03 _ _ e
        have hD4 := hD.same s4
        exact sort_end h3' (by rw [upd_ne n31, upd_ne m1]; exact g1) (by rw [upd_ne n32, upd_ne m2]; exact g2) upd_same (q l4 _ s4 (s03.free n4) (by rw [upd_ne (Ne.symm m3), upd_same]))
end
end Lamp
set_option Elab.async false
set_option linter.all false
set_option maxRecDepth 100000
set_option maxHeartbeats 2000000
namespace Lamp
open PySem PySem.Spec PyProof.Rows L2 LamX
open TL (tl tl_append)
abbrev sLWhole : Stmt := top 50
abbrev sLLev : Stmt := top 52
abbrev sLDue : Stmt := top 55
abbrev sLSome : Stmt := top 56
/-! what the law makes of rows -/
/-- its lamps are few -/
def FewRow (x : Str) : Prop := (walkL (tl x)).2.length ≤ 400 ∨ ∀ (lv : Int) (ms : List (Int × Int)), Rising lv ms → (∀ p, sumAt ms p = partsAt [⟨(walkL (tl x)).2, 0, 1⟩] p % lv) → ms.length ≤ 400
structure OkRow (x : Str) : Prop where
  len : x.length ≤ 9000
  few : Signs x → FewRow x
theorem at_nat {α : Type} {xs : List α} {i : Nat} (h : i < xs.length) : atI xs (i : Int) = xs[i]? := by
  unfold atI ixN
  rw [if_pos (by omega), if_pos (by omega)]
  simp
theorem sign_in_rep {n : Nat} : ∀ c ∈ List.replicate n 43, IsSign c := fun c h => by
  rw [List.eq_of_mem_replicate h]
  exact .inr (.inr rfl)
/-- with a sign that is none, it is no row -/
theorem ok_bent {a b z : Str} {c : Nat} (hc : c ∈ tl z) (hn : ¬ IsSign c) (hl : (a ++ z ++ b).length ≤ 9000) : OkRow (a ++ z ++ b) := ⟨hl, fun hs => absurd (hs c (by
  rw [tl_append, tl_append]
  exact List.mem_append_left _ (List.mem_append_right _ hc))) hn⟩
/-- a text is barred, or it is a row -/
theorem bad_or (cs : List Nat) : (∃ i, BadAt cs i) ∨ ((∀ c ∈ cs, IsSign c) ∧ cs.length ≤ 4000) := by
  have key : ∀ n, n ≤ cs.length → (∃ i, BadAt cs i) ∨ ((∀ j c, j < n → cs[j]? = some c → IsSign c) ∧ n ≤ 4000) := by
    intro n
    induction n with
    | zero => exact fun _ => .inr ⟨fun j c h => by omega, by omega⟩
    | succ n ih =>
      intro hn
      rcases ih (by omega) with h | ⟨h1, h2⟩
      · exact .inl h
      · have hlt : n < cs.length := by omega
        have e : cs[n]? = some cs[n] := List.getElem?_eq_getElem hlt
        by_cases hs : IsSign cs[n] ∧ n ≠ 4000
        · refine .inr ⟨fun j c hj hc => ?_, by omega⟩
          by_cases hjn : j = n
          · rw [hjn, e] at hc
            cases hc
            exact hs.1
          · exact h1 j c (by omega) hc
        · refine .inl ⟨n, hlt, h2, h1, ?_⟩
          by_cases h4 : n = 4000
          · exact .inl h4
          · refine .inr fun c hc hsc => hs ⟨?_, h4⟩
            rw [e] at hc
            cases hc
            exact hsc
  rcases key cs.length (Nat.le_refl _) with h | ⟨h1, h2⟩
  · exact .inl h
  · refine .inr ⟨fun c hc => ?_, h2⟩
    obtain ⟨j, hj⟩ := List.getElem?_of_mem hc
    exact h1 j c (List.getElem?_eq_some_iff.mp hj).1 hj
theorem walk_plus : ∀ n : Nat, walkL (List.replicate n 43) = (0, List.replicate n (0, 1))
  | 0 => rfl
  | n + 1 => by
    have ih := walk_plus n
    unfold walkL at ih ⊢
    rw [List.replicate_succ', List.foldl_append, ih, List.replicate_succ' (n := n) (a := ((0 : Int), (1 : Int)))]
    rfl
theorem rep_out {n : Nat} {p : Int} (h : p ≠ 0) : sumAt (List.replicate n ((0 : Int), (1 : Int))) p = 0 := sum_out fun z => by
  obtain ⟨q, hq, e⟩ := List.mem_map.mp z
  rw [List.eq_of_mem_replicate hq] at e
  exact h e.symm
theorem few_rep {x : Str} {n : Nat} (h : tl x = List.replicate n 43) : FewRow x := by
  refine .inr fun lv ms hri hs => ?_
  rw [h, walk_plus] at hs
  have sub : ∀ p ∈ ms.map (·.1), p ∈ ([0] : List Int) := fun p hp => by
    obtain ⟨q, hq, rfl⟩ := List.mem_map.mp hp
    by_cases z : q.1 = 0
    · rw [z]; exact List.mem_singleton.mpr rfl
    · have e := hs q.1
      rw [hri.mem hq] at e
      have e2 : partsAt [⟨List.replicate n ((0 : Int), (1 : Int)), 0, 1⟩] q.1 = 0 := by
        rw [partsAt_one]
        unfold partAt
        simp [rep_out z]
      rw [e2, Int.zero_emod] at e
      have := hri.lv q hq
      omega
  have := nodup_le hri.nd sub
  rw [List.length_map] at this
  have e : ([0] : List Int).length = 1 := rfl
  omega
def spLWhole (K : PySem.W.Frag) : Sp := spIsIntA K
def spLLev (K : PySem.W.Frag) : Sp := fun vs H Q _ => ∃ (v : V) (t : T), vs = [v] ∧ An K H v t ∧ ∀ H', Same H H' → Q (.bl (levelsB t)) H'
def spLDue (K : PySem.W.Frag) : Sp := fun vs H Q _ => ∃ (p v : V) (dp : PyData) (tv : T), vs = [p, v] ∧ Dq K H p dp ∧ okD dp = true ∧ An K H v tv ∧
  (levelsB (tOf dp) = false → ∀ l H', Same H H' → H' l = some (.lst [.str "InvalidLevels", .str dp.shown]) → Q (.ref l) H') ∧
  (levelsB (tOf dp) = true → (isS tv = false → ∀ l H', Same H H' → H' l = some (.lst [.str "InvalidSteps", .str "None"]) → Q (.ref l) H') ∧
    (∀ x, v = .str x → x.length ≤ 9000 ∧ (∀ i, BadAt (tl x) i → ∀ l H', Same H H' → H' l = some (.lst [.str "InvalidSteps", .str (nS (i : Int))]) → Q (.ref l) H') ∧ (Signs x → (tl x).length ≤ 4000 → ∀ l H', Same H H' → H' l = some (.lst []) → Q (.ref l) H')))
def spLSome (K : PySem.W.Frag) : Sp := fun vs H Q _ => ∃ (p : Addr), vs = [.ref p] ∧ Pail H p ∧ (∀ (x : Str) H', OkRow x → Pail H' p → But p H H' → Q (.str x) H') ∧ ∀ (v : V) (d : PyData) H', Dq K (delH H' p) v d → d ∈ things → Pail H' p → But p H H' → Q v H'
section
variable {P : Program} {w : World} {K : PySem.W.Frag} {mg : Str → Option Value} {base : Heap}
theorem scLWhole : FnScope ["_law_value"] ["_law_value"] (defScope sLWhole) := ⟨rfl, rfl, rfl, by decide +kernel, rfl, by decide +kernel, by decide +kernel⟩
theorem scLLev : FnScope ["_law_value"] ["_law_value"] (defScope sLLev) := ⟨rfl, rfl, rfl, by decide +kernel, rfl, by decide +kernel, by decide +kernel⟩
theorem scLDue : FnScope ["_law_p", "_law_value", "_law_at"] ["_law_p", "_law_value"] (defScope sLDue) := ⟨rfl, rfl, rfl, by decide +kernel, rfl, by decide +kernel, by decide +kernel⟩
theorem scLSome : FnScope ["_law_pail", "_law_value", "_law_at"] ["_law_pail"] (defScope sLSome) := ⟨rfl, rfl, rfl, by decide +kernel, rfl, by decide +kernel, by decide +kernel⟩
theorem ok_lwhole {f : Addr} {fd : FuncData} (F : Fun K "_law_is_whole" "_law_is_whole" sLWhole f fd) (mis : mg "isinstance" = none) (mi : mg "int" = none) (mb : mg "bool" = none) : FnOk P w K mg base CX0 1 f fd ["_law_value"] (spLWhole K) := by
  refine F.ok scLWhole (fun vs H Q E h => ?_) (fun cdv A outer s H vs Q E hr h => ?_)
  · obtain ⟨v, t, rfl, _⟩ := h
    rfl
  · obtain ⟨v, t, rfl, ha, q⟩ := h
    refine ⟨_, pss_one (ps_ret (pe_and (pe_callB call_isi (by rfl) mis (by decide +kernel) (pa_cons (pv 0) (pa_cons (pe_bltn (v := .ty "int") (by rfl) mi (by decide +kernel) rfl) pa_nil)))
      (pe_one (pe_not (pe_callB call_isi (by rfl) mis (by decide +kernel) (pa_cons (pv 0) (pa_cons (pe_bltn (v := .ty "bool") (by rfl) mb (by decide +kernel) rfl) pa_nil))))))), ?_⟩
    exact st_ret (whole_and (val_var rfl) ha) q
theorem ok_llev {f : Addr} {fd : FuncData} (F : Fun K "_law_is_levels" "_law_is_levels" sLLev f fd) (I : Dr P w K mg base (spLWhole K) "_law_is_whole" ["_law_value"] 1) : FnOk P w K mg base CX0 2 f fd ["_law_value"] (spLLev K) := by
  refine F.ok scLLev (fun vs H Q E h => ?_) (fun cdv A outer s H vs Q E hr h => ?_)
  · obtain ⟨v, t, rfl, _⟩ := h
    rfl
  · obtain ⟨v, t, rfl, ha, q⟩ := h
    refine ⟨_, pss_one (ps_ret (pe_and (pe_dr I (Nat.le_refl _) hr rfl (pa_cons (pv 0) pa_nil)) (pe_one (pe_cmpR op_in_seq (pv 0) (pe_lst (pa_cons pe_int (pa_cons pe_int (pa_cons pe_int (pa_cons pe_int pa_nil))))) (by rfl))))), ?_⟩
    refine ⟨_, rfl, v, t, rfl, ha, whole t, rfl, ?_⟩
    cases e : whole t with
    | true =>
      obtain ⟨i, rfl, rfl⟩ := an_int ha e
      refine iteT ⟨_, rfl, (by show 4 ≤ sizeLine; decide), fun l nl => ?_⟩
      refine ⟨l, [.int 2, .int 3, .int 5, .int 7], rfl, .inl (SqL.of upd_same), rfl, by decide, ?_⟩
      rw [in_levels]
      exact q _ (same_of nl)
    | false =>
      refine iteF ?_
      cases t with
      | int i => cases e
      | _ => exact q _ (Same.refl _)
theorem ok_ldue {f : Addr} {fd : FuncData} (F : Fun K "_law_due" "_law_due" sLDue f fd) (Il : Dr P w K mg base (spLLev K) "_law_is_levels" ["_law_value"] 2) (mp : mg "repr" = none) (mis : mg "isinstance" = none) (ms : mg "str" = none) (mr : mg "range" = none) (ml : mg "len" = none) : FnG P w K mg base 3 f fd ["_law_p", "_law_value"] (spLDue K) := by
  refine okG F scLDue (fun vs H Q E h => ?_) (fun cdv A outer s H vs Q E hgd hr h => ?_)
  · obtain ⟨p, v, dp, tv, rfl, _⟩ := h
    rfl
  · obtain ⟨p, v, dp, tv, rfl, hp, okp, hv, q1, q2⟩ := h
    have hu64 := hr.units
    obtain ⟨o1, o2, o3⟩ := okD_of okp
    refine ⟨_, pss_cons (ps_if (pt_not (pt_val (pe_dr Il (by decide) hr rfl (pa_cons (pv 0) pa_nil)))) (pss_one (ps_ret (pe_lst (pa_cons pe_str (pa_cons (pe_callB (call_reprD hgd hu64) (by rfl) mp (by decide +kernel) (pa_cons (pv 0) pa_nil)) pa_nil))))) pss_nil)
      (pss_cons (ps_if (pt_not (pt_val (pe_callB call_isi (by rfl) mis (by decide +kernel) (pa_cons (pv 1) (pa_cons (pe_bltn (v := .ty "str") (by rfl) ms (by decide +kernel) rfl) pa_nil))))) (pss_one (ps_ret (pe_lst (pa_cons pe_str (pa_cons pe_str pa_nil))))) pss_nil)
      (pss_cons (ps_for PassesOwn.never rfl (pi_range1 rfl mr (pa_cons (pe_callB call_len_str (by rfl) ml PySem.boot_len (pa_cons (pv 1) pa_nil)) pa_nil)) (pg_name (i := 2) scLDue.nd rfl (.inl rfl))
        (pss_one (ps_if (PW.pt (pw_or (pt_cmpR op_eq (pv 2) pe_int (nomark _)) (pw_or1 (pt_cmpR (r := rIn K true) op_notIn_seq (pe_ix ix_str (pv 1) (pv 2) (fun _ _ => rfl)) (pe_lst (pa_cons pe_str (pa_cons pe_str (pa_cons pe_str pa_nil)))) (by rfl))))) (pss_one (ps_ret (pe_lst (pa_cons pe_str (pa_cons (pe_callTy call_str_int (by rfl) ms (by decide +kernel) (pa_cons (pv 2) pa_nil)) pa_nil))))) pss_nil)))
      (pss_one (ps_ret (pe_lst pa_nil))))), ?_⟩
    refine ⟨_, rfl, p, _, rfl, an_dq hp, fun H1 s1 => ?_⟩
    cases e : levelsB (tOf dp) with
    | false =>
      refine ⟨false, rfl, ?_⟩
      refine iteT ⟨_, rfl, p, dp, rfl, dq_same s1 hp, o1, o2, o3, (by show 2 ≤ sizeLine; decide), fun l nl => ?_⟩
      exact q1 e l _ (s1.trans (same_of nl)) upd_same
    | true =>
      obtain ⟨qn, qs⟩ := q2 e
      refine ⟨true, rfl, ?_⟩
      refine iteF ?_
      dsimp only [tNext]
      cases e2 : isS tv with
      | false =>
        refine sq_yes (ans_not (b := false) (ans_val fun Q q => ⟨_, rfl, isi_str (an_same s1 hv) (by rw [e2]; exact q)⟩)) ?_
        refine ⟨(by show 2 ≤ sizeLine; decide), fun l nl => ?_⟩
        exact qn e2 l _ (s1.trans (same_of nl)) upd_same
      | true =>
        refine sq_no (ans_not (b := true) (ans_val fun Q q => ⟨_, rfl, isi_str (an_same s1 hv) (by rw [e2]; exact q)⟩)) ?_
        obtain ⟨x, rfl⟩ : ∃ x, v = .str x := by
          cases hv <;> first | exact ⟨_, rfl⟩ | cases e2
        obtain ⟨hlen, qb, qg⟩ := qs x rfl
        have hsz : x.length = (tl x).length := TL.len_tl x
        have hline : x.length ≤ sizeLine := Nat.le_trans hlen (by decide)
        refine ⟨_, rfl, x, rfl, hline, ?_⟩
        refine ⟨((x.length : Nat) : Int), rfl, by omega, by omega, ?_⟩
        rw [show (((x.length : Nat) : Int)).toNat = x.length by omega]
        refine for_range (lo := 0) (n := x.length) (fun i σ' H' => ∃ a, σ' = [some p, some (.str x), a] ∧ Same H H' ∧ (∀ j c, j < i → (tl x)[j]? = some c → IsSign c) ∧ i ≤ 4000) ⟨_, rfl, s1, fun j c h => by omega, by omega⟩ (fun i σ' H' hi z => ?_) (fun σ' H' z => ?_)
        · obtain ⟨a, rfl, s2, hs, h4⟩ := z
          have e1 : (0 : Int) + (i : Int) = (i : Int) := Int.zero_add _
          rw [e1]
          have hlt : i < (tl x).length := by omega
          have hc : (tl x)[i]? = some (tl x)[i] := List.getElem?_eq_getElem hlt
          generalize (tl x)[i] = c at hc
          have small : ((i : Int)).natAbs.log2 < 1920 := fits_log (by
            have : (9000 : Nat) < 10 ^ 40 := by decide
            omega)
          have bad : (i = 4000 ∨ ¬ IsSign c) → BadAt (tl x) i := fun z => ⟨hlt, h4, hs, z.imp id fun z c' hc' => by
            rw [hc] at hc'
            cases hc'
            exact z⟩
          dsimp only [gName, List.set]
          refine ⟨_, rfl, rfl, decide (i = 4000), ?_, ?_⟩
          · show V.bl (decide (V.int (i : Int) = V.int 4000)) = _
            by_cases z : i = 4000
            · rw [z]; rfl
            · rw [decide_eq_false z, decide_eq_false (fun e => z (by have := V.int.inj e; omega))]
          · by_cases z : i = 4000
            · rw [decide_eq_true z]
              refine iteT (iteT ?_)
              refine ⟨_, rfl, _, rfl, small, (by show 2 ≤ sizeLine; decide), fun l nl => ?_⟩
              exact qb i (bad (.inl z)) l _ (s2.trans (same_of nl)) upd_same
            · rw [decide_eq_false z]
              refine iteF ?_
              refine ⟨_, rfl, _, rfl, x, _, c, rfl, rfl, hline, ?_, (by show 3 ≤ sizeLine; decide), fun l nl => ?_⟩
              · rw [at_nat (by show i < x.cps.toList.length; exact hlt)]
                exact hc
              · have sl := same_of (o := .lst [V.str "<", V.str ">", V.str "+"]) nl
                refine ⟨l, _, rfl, .inl (SqL.of upd_same), rfl, by decide, ?_⟩
                by_cases hcs : IsSign c
                · rw [sign_in hcs]
                  refine ⟨false, rfl, iteF ?_⟩
                  dsimp only [tNext]
                  refine ⟨_, rfl, s2.trans sl, fun j c' hj hc' => ?_, by omega⟩
                  by_cases hji : j = i
                  · rw [hji, hc] at hc'
                    cases hc'
                    exact hcs
                  · exact hs j c' (by omega) hc'
                · rw [sign_not hcs]
                  refine ⟨true, rfl, iteT ?_⟩
                  refine ⟨_, rfl, _, rfl, small, (by show 2 ≤ sizeLine; decide), fun l2 nl2 => ?_⟩
                  exact qb i (bad (.inr hcs)) l2 _ (s2.trans (sl.trans (same_of nl2))) upd_same
        · obtain ⟨a, rfl, s2, hs, h4⟩ := z
          refine ⟨(by show 0 ≤ sizeLine; decide), fun l nl => ?_⟩
          refine qg (fun c hc => ?_) (by omega) l _ (s2.trans (same_of nl)) upd_same
          obtain ⟨j, hj⟩ := List.getElem?_of_mem hc
          exact hs j c (by have := (List.getElem?_eq_some_iff.mp hj).1; omega) hj
theorem ok_lsome {f : Addr} {fd : FuncData} (F : Fun K "_law_some" "_law_some" sLSome f fd) (Lw : Dr P w K mg base spLWalk "_law_walk" ["_law_pail", "_law_most"] 3) (Cs : Dr P w K mg base spCast "_law_cast" ["_law_pail", "_law_many"] 1) (An : Dr P w K mg base spAny "_law_any_of" ["_law_pail", "_law_some_here"] 2) (Tg : Dr P w K mg base (spThing K) "_law_thing" ["_law_pail"] 3) (ml : mg "len" = none) : FnOk P w K mg base CX0 4 f fd ["_law_pail"] (spLSome K) := by
  refine F.ok scLSome (fun vs H Q E h => ?_) (fun cdv A outer s H vs Q E hr h => ?_)
  · obtain ⟨p, rfl, _⟩ := h
    rfl
  · obtain ⟨p, rfl, hp, q1, q2⟩ := h
    refine ⟨_, pss_cons (ps_set (i := 1) scLSome.nd rfl (.inl rfl) (pe_dr Lw (by decide) hr rfl (pa_cons (pv 0) (pa_cons pe_int pa_nil))))
      (pss_cons (ps_if (pt_cmpR op_eq (pe_dr Cs (by decide) hr rfl (pa_cons (pv 0) (pa_cons pe_int pa_nil))) pe_int (nomark _)) (pss_one (ps_set (i := 1) scLSome.nd rfl (.inl rfl) (pe_op op_repS pe_str (pe_op op_add pe_int (pe_dr Cs (by decide) hr rfl (pa_cons (pv 0) (pa_cons pe_int pa_nil))))))) pss_nil)
      (pss_cons (ps_if (pt_cmpR op_eq (pe_dr Cs (by decide) hr rfl (pa_cons (pv 0) (pa_cons pe_int pa_nil))) pe_int (nomark _))
        (pss_cons (ps_set (i := 2) scLSome.nd rfl (.inl rfl) (pe_dr Cs (by decide) hr rfl (pa_cons (pv 0) (pa_cons (pe_op op_add (pe_callB call_len_str (by rfl) ml PySem.boot_len (pa_cons (pv 1) pa_nil)) pe_int) pa_nil))))
        (pss_one (ps_set (i := 1) scLSome.nd rfl (.inl rfl) (pe_op op_addS (pe_op op_addS (pe_slice (r := rSlS) sl_str (pv 1) po_none (po_some (pv 2))) (pe_dr An (by decide) hr rfl (pa_cons (pv 0) (pa_cons (pe_lst (pa_cons pe_str (pa_cons pe_str (pa_cons pe_str (pa_cons pe_str (pa_cons pe_str (pa_cons pe_str pa_nil))))))) pa_nil)))) (pe_slice (r := rSlS) sl_str (pv 1) (po_some (pv 2)) po_none))))) pss_nil)
      (pss_one (ps_ret (pe_ifExp (pt_cmpR op_gt (pe_dr Cs (by decide) hr rfl (pa_cons (pv 0) (pa_cons pe_int pa_nil))) pe_int (nomark _)) (pv 1) (pe_dr Tg (by decide) hr rfl (pa_cons (pv 0) pa_nil))))))), ?_⟩
    refine ⟨_, rfl, p, 30, rfl, by decide, hp, fun x H1 hs hl hp1 b1 => ?_⟩
    dsimp only [gName, List.set, L2.start, List.map, List.length, List.replicate, List.append]
    have hxl : x.length = (tl x).length := TL.len_tl x
    refine seq_by (fun σ' H' => ∃ x, σ' = [some (.ref p), some (.str x), none] ∧ OkRow x ∧ x.length ≤ 4003 ∧ But p H H' ∧ Pail H' p) (fun TT hTT => ?_) ?_
    · refine ⟨_, rfl, p, 5, rfl, by decide, by decide, hp1, fun r H2 r0 r1 hp2 b2 => ?_⟩
      refine ⟨rfl, decide (V.int r = V.int 0), rfl, ?_⟩
      by_cases hr0 : r = 0
      · rw [hr0, decide_eq_true rfl]
        refine iteT ?_
        refine ⟨_, rfl, p, 6, rfl, by decide, by decide, hp2, fun c H3 c0 c1 hp3 b3 => ?_⟩
        refine ⟨_, _, rfl, rfl, "+", _, rfl, rfl, by decide, by omega, ?_, ?_⟩
        · show 1 * _ ≤ 100000
          omega
        · obtain ⟨n, en⟩ : ∃ n : Nat, (3998 : Int) + c = (n : Int) := ⟨(3998 + c).toNat, by omega⟩
          rw [en]
          dsimp only [gName, List.set]
          have et : tl (repS ((n : Int)).toNat ("+" : Str)) = List.replicate n 43 := by
            rw [show ((n : Int)).toNat = n by omega]
            exact tl_rep n 43
          have el : (repS ((n : Int)).toNat ("+" : Str)).length = n := by rw [TL.len_tl, et, List.length_replicate]
          exact hTT _ _ ⟨_, rfl, ⟨by omega, fun _ => few_rep et⟩, by omega, b1.trans (b2.trans b3), hp3⟩
      · rw [decide_eq_false (fun z => hr0 (V.int.inj z))]
        refine iteF ?_
        have few := walkL_len (tl x) (tl x).length
        rw [List.take_length] at few
        exact hTT _ _ ⟨x, rfl, ⟨by omega, fun _ => .inl (by omega)⟩, by omega, b1.trans b2, hp2⟩
    · rintro σ' H2 ⟨x, rfl, hx, hx4, b2, hp2⟩
      refine seq_by (fun σ' H' => ∃ x a, σ' = [some (.ref p), some (.str x), a] ∧ OkRow x ∧ But p H H' ∧ Pail H' p) (fun TT hTT => ?_) ?_
      · refine ⟨_, rfl, p, 3, rfl, by decide, by decide, hp2, fun r H3 r0 r1 hp3 b3 => ?_⟩
        refine ⟨rfl, decide (V.int r = V.int 0), rfl, ?_⟩
        by_cases hr0 : r = 0
        · rw [hr0, decide_eq_true rfl]
          refine iteT ?_
          have hline : x.length ≤ sizeLine := Nat.le_trans hx.len (by decide)
          refine ⟨_, rfl, _, rfl, x, rfl, hline, _, _, rfl, rfl, p, _, rfl, by omega, by omega, hp3, fun at' H4 a0 a1 hp4 b4 => ?_⟩
          dsimp only [gName, List.set]
          refine ⟨_, rfl, _, rfl, at', rfl, x, rfl, hline, _, rfl, (by show 6 ≤ sizeLine; decide), fun l nl => ?_⟩
          have sl := same_of (o := .lst [V.str "-", V.str " ", V.str "0", V.str "\n", V.str "x", V.str "="]) nl
          refine ⟨p, l, _, rfl, hp4.ne nl, upd_same, by decide, by decide, hp4.same sl, fun v H5 hv hp5 b5 => ?_⟩
          obtain ⟨z, c, rfl, hz1, hzc, hzn⟩ : ∃ (z : Str) (c : Nat), v = .str z ∧ z.length = 1 ∧ c ∈ tl z ∧ ¬ IsSign c := by
            simp only [List.mem_cons, List.not_mem_nil, or_false] at hv
            rcases hv with e | e | e | e | e | e
            · exact ⟨_, 45, e, rfl, by decide, by unfold IsSign; decide⟩
            · exact ⟨_, 32, e, rfl, by decide, by unfold IsSign; decide⟩
            · exact ⟨_, 48, e, rfl, by decide, by unfold IsSign; decide⟩
            · exact ⟨_, 10, e, rfl, by decide, by unfold IsSign; decide⟩
            · exact ⟨_, 120, e, rfl, by decide, by unfold IsSign; decide⟩
            · exact ⟨_, 61, e, rfl, by decide, by unfold IsSign; decide⟩
          have l1 := cutS_length x none (some at')
          have l2 := cutS_length x (some at') none
          have l3 : (cutS x none (some at') ++ z).length = (cutS x none (some at')).length + z.length := by rw [TL.len_tl, tl_append, List.length_append, ← TL.len_tl, ← TL.len_tl]
          have l4 : (cutS x none (some at') ++ z ++ cutS x (some at') none).length = (cutS x none (some at') ++ z).length + (cutS x (some at') none).length := by rw [TL.len_tl, tl_append, List.length_append, ← TL.len_tl, ← TL.len_tl]
          have hbig : (9000 : Nat) ≤ sizeLine := by decide
          refine ⟨_, _, rfl, rfl, by omega, ?_⟩
          refine ⟨_, rfl, _, rfl, at', rfl, x, rfl, hline, _, _, rfl, rfl, by omega, ?_⟩
          exact hTT _ _ ⟨_, _, rfl, ok_bent hzc hzn (by omega), b2.trans (b3.trans (b4.trans ((But.of sl).trans b5))), hp5⟩
        · rw [decide_eq_false (fun z => hr0 (V.int.inj z))]
          refine iteF ?_
          exact hTT _ _ ⟨x, _, rfl, hx, b2.trans b3, hp3⟩
      · rintro σ' H3 ⟨x, a, rfl, hx, b3, hp3⟩
        refine ⟨_, rfl, p, 6, rfl, by decide, by decide, hp3, fun r H4 r0 r1 hp4 b4 => ?_⟩
        refine ⟨_, _, rfl, rfl, decide (0 < r), rfl, ?_⟩
        by_cases hr0 : 0 < r
        · rw [decide_eq_true hr0]
          exact iteT ⟨_, rfl, q1 x H4 hx hp4 (b3.trans b4)⟩
        · rw [decide_eq_false hr0]
          refine iteF ?_
          exact ⟨_, rfl, p, rfl, hp4, fun v d H5 hq hd hp5 b5 => q2 v d H5 hq hd hp5 (b3.trans (b4.trans b5))⟩
end
end Lamp
set_option Elab.async false
set_option linter.all false
set_option maxRecDepth 100000
set_option maxHeartbeats 1000000
namespace Lamp
open PySem PySem.Spec PyProof.Rows L2
abbrev sVast : Stmt := top 48
def spVast : Sp := fun vs H Q _ => ∃ (p : Addr) (m : Int), vs = [.ref p, .int m] ∧ 0 < m ∧ Pail H p ∧ ∀ (r : Int) H', 0 ≤ r → r < m → Pail H' p → But p H H' → Q (.int r) H'
section
variable {P : Program} {w : World} {K : PySem.W.Frag} {mg : Str → Option Value} {base : Heap}
theorem scVast : FnScope ["_law_pail", "_law_many", "_law_found", "_law_turn"] ["_law_pail", "_law_many"] (defScope sVast) := ⟨rfl, rfl, rfl, by decide +kernel, rfl, by decide +kernel, by decide +kernel⟩
theorem ok_vast {f : Addr} {fd : FuncData} (F : Fun K "_law_vast" "_law_vast" sVast f fd) (C : Dr P w K mg base spCast "_law_cast" ["_law_pail", "_law_many"] 1) (mi : mg "int" = none) (mr : mg "range" = none) : FnOk P w K mg base CX0 2 f fd ["_law_pail", "_law_many"] spVast := by
  refine F.ok scVast (fun vs H Q E h => ?_) (fun cdv A outer s H vs Q E hr h => ?_)
  · obtain ⟨p, m, rfl, _⟩ := h
    rfl
  · obtain ⟨p, m, rfl, h0, hp, q⟩ := h
    refine ⟨_, pss_cons (ps_set (i := 2) scVast.nd rfl (.inl rfl) pe_int) (pss_cons (ps_for PassesOwn.never rfl (pi_range1 rfl mr (pa_cons pe_int pa_nil)) (pg_name (i := 3) scVast.nd rfl (.inl rfl))
        (pss_one (ps_set (i := 2) scVast.nd rfl (.inl rfl) (pe_op op_add (pe_op op_mul (pv 2) pe_int) (pe_dr C (Nat.le_refl _) hr rfl (pa_cons (pv 0) (pa_cons pe_int pa_nil)))))))
      (pss_one (ps_ret (pe_op op_mod (pe_callTy call_int1 (by rfl) mi (by decide +kernel) (pa_cons (pv 2) pa_nil)) (pv 1))))), ?_⟩
    refine sq_set (v := .int 0) val_c ?_
    refine sq_forRn (n := 6) (by decide) (fun i σ' H' => ∃ (z : Int) (b : Option V), σ' = [some (.ref p), some (.int m), some (.int z), b] ∧ Pail H' p ∧ But p H H') ⟨0, none, rfl, hp, But.refl p H⟩ ?_ ?_ val_c
    · rintro i σ' H0 hi ⟨z, b, rfl, hp0, bt0⟩
      refine ⟨_, rfl, z, 1000003, rfl, rfl, mulR ⟨by decide, by decide⟩, _, rfl, p, 1000003, rfl, by decide, by decide, hp0, fun r H1 r0 r1 hp1 bt1 => ⟨_, _, rfl, rfl, ?_⟩⟩
      exact ⟨_, _, rfl, hp1, bt0.trans bt1⟩
    · rintro σ' H0 ⟨z, b, rfl, hp0, bt0⟩
      refine st_ret (v := .int (z % m)) (val_op (lv_int (val_var rfl)) (val_var rfl) fun _ q => ⟨_, _, rfl, rfl, h0, q⟩) ?_
      exact q _ _ (Int.emod_nonneg _ (by omega)) (Int.emod_lt_of_pos _ h0) hp0 bt0
end
end Lamp
set_option Elab.async false
set_option linter.all false
set_option maxRecDepth 100000
set_option maxHeartbeats 1000000
namespace Lamp
open PySem PySem.Spec PyProof.Rows L2
open TL (tl)
/-! rows of steps whose round may have too many lamps -/
def spCkManyX (xT : Addr) : Sp := fun vs H Q E => ∃ i : Int, vs = [.int i] ∧ (i ≤ 400 → Q .non H) ∧ (400 < i → ∀ d H', Same H H' → H' d = some (exd d [("given", .int i)]) → E (.ref xT) (some d) H')
def spRolX (K : PySem.W.Frag) (C xT : Addr) : Sp := fun vs H Q E => ∃ (t : Addr) (lv fin : Int) (ls : List (Int × Int)), vs = [.int lv, .ref t, .int fin] ∧ goodLv lv ∧ PicAt K H t ls ∧ Rising lv ls ∧ ls.length ≤ 9000 ∧
  (ls.length ≤ 400 → ∀ a H', Same H H' → H a = none → RoundAt C H' a lv t fin → Q (.ref a) H') ∧ (400 < ls.length → ∀ d H', Same H H' → H' d = some (exd d [("given", .int (ls.length : Int))]) → E (.ref xT) (some d) H')
def spWalkedX (K : PySem.W.Frag) (C xT : Addr) : Sp := fun vs H Q E => ∃ (lv : Int) (x : Str), vs = [.int lv, .str x] ∧ goodLv lv ∧ Signs x ∧ (tl x).length ≤ 4000 ∧
  (∀ (r : Addr) (ms : List (Int × Int)) H', Same H H' → RndW K C H' r lv (walkL (tl x)).1 ms → (∀ p, sumAt ms p = partsAt [⟨(walkL (tl x)).2, 0, 1⟩] p % lv) → ms.length ≤ (walkL (tl x)).2.length → Q (.ref r) H') ∧
  (∀ d (ms : List (Int × Int)) H', Rising lv ms → (∀ p, sumAt ms p = partsAt [⟨(walkL (tl x)).2, 0, 1⟩] p % lv) → 400 < ms.length → Same H H' → H' d = some (exd d [("given", .int (ms.length : Int))]) → E (.ref xT) (some d) H')
section
variable {P : Program} {w : World} {K : PySem.W.Frag} {mg : Str → Option Value} {base : Heap} {C xT : Addr}
theorem ok_ckManyX {f : Addr} {fd : FuncData} {t1 : Tok} (F : Fun K "check_many" "check_many" sCkMany f fd) (ZT : XC P w K mg xT "TooMany" "given") (yT : PySem.W.typeIn K (.ref xT) = some (.type "type")) (mML : mg "MOST_LAMPS" = some (.int 400 t1)) : FnOk P w K mg base (L2.CX P w) 3 f fd ["many"] (spCkManyX xT) := by
  refine F.okX scCkMany (fun vs H Q E h => ?_) (fun cdv A outer s H vs Q E hr h => ?_)
  · obtain ⟨i, rfl, _⟩ := h
    rfl
  · obtain ⟨i, rfl, q, qx⟩ := h
    refine ⟨_, pss_one (ps_if (pt_cmpR op_gt (pv 0) (pe_glob (v := .int 400) rfl mML ⟨_, rfl⟩) (nomark _)) (pss_one (ps_raise rfl (takes_of rfl rfl rfl rfl) (pmk_xo rfl (pe_xc ZT hr rfl (pv 0))))) pss_nil), ?_⟩
    by_cases hi : i ≤ 400
    · exact st_no (an_gt (val_var rfl) val_c (decide_eq_false (by omega))) (q hi)
    · refine st_yes (an_gt (val_var rfl) val_c (decide_eq_true (by omega))) ?_
      exact raise_run (val_var rfl) (fun a na => fr0_none na) (xc_raises ZT yT) fun d H' s1 hd => qx (by omega) d H' s1 hd
theorem ok_rolX {f : Addr} {fd : FuncData} (F : Fun K "round_of_lamps" "round_of_lamps" sRol f fd) (Cm : DrX P w K mg base (spCkManyX xT) "check_many" ["many"] 3) (M : MkR P w K mg base C) (mR : mg "Round" = some (.ref C)) (ml : mg "len" = none) : FnOk P w K mg base (L2.CX P w) 7 f fd ["levels", "lamps", "end"] (spRolX K C xT) := by
  refine F.okX scRol (fun vs H Q E h => ?_) (fun cdv A outer s H vs Q E hr h => ?_)
  · obtain ⟨t, lv, fin, ls, rfl, _⟩ := h
    rfl
  · obtain ⟨t, lv, fin, ls, rfl, hg, hp, hi, hfew, q, qx⟩ := h
    refine ⟨_, pss_cons (ps_expr (pe_drX Cm (by decide) hr rfl (passes_on (takes_of rfl rfl rfl rfl)) (pa_cons (pe_callB call_len_seq (by rfl) ml PySem.boot_len (pa_cons (pv 1) pa_nil)) pa_nil)))
      (pss_one (ps_ret (pe_mkR M (hr.mono (by decide)) rfl mR (pa_cons (pv 0) (pa_cons (pv 1) (pa_cons (pv 2) pa_nil)))))), ?_⟩
    obtain ⟨as, ht, hlen, _⟩ := pair_get hp
    have el : (as.map V.ref).length = ls.length := by rw [List.length_map, hlen]
    refine ⟨_, rfl, t, _, rfl, .inr (.inl ht), _, rfl, fun hle => ?_, fun hgt d H' s1 hd => qx (by rw [el] at hgt; omega) d H' s1 (by rw [el] at hd; exact hd)⟩
    have few : ls.length ≤ 400 := by rw [el] at hle; omega
    exact ⟨_, rfl, _, rfl, _, rfl, lv, t, fin, rfl, ls, hg, hp, hi.w few, q few⟩
theorem ok_walkedX {f : Addr} {fd : FuncData} (F : Fun K "walked" "walked" sWalked f fd) (Cl : Dr P w K mg base spCkLv "check_levels" ["value"] 3) (Ws : Dr P w K mg base spWSign "wrong_sign" ["row"] 1) (To : Dr P w K mg base (spTotalL K) "total" ["levels", "parts"] 1) (Ro : DrX P w K mg base (spRolX K C xT) "round_of_lamps" ["levels", "lamps", "end"] 7) (mis : mg "isinstance" = none) (ms : mg "str" = none) : FnOk P w K mg base (L2.CX P w) 8 f fd ["levels", "steps"] (spWalkedX K C xT) := by
  refine F.okX scWalked (fun vs H Q E h => ?_) (fun cdv A outer s H vs Q E hr h => ?_)
  · obtain ⟨lv, x, rfl, _⟩ := h
    rfl
  · obtain ⟨lv, x, rfl, hg, hs, hl, q, qx⟩ := h
    refine ⟨_, pss_cons (ps_expr (pe_dr Cl (by decide) hr rfl (pa_cons (pv 0) pa_nil)))
      (pss_cons (ps_if (pt_not (pt_val (pe_callB call_isi (by rfl) mis (by decide +kernel) (pa_cons (pv 1) (pa_cons (pe_bltn (v := .ty "str") (by rfl) ms (by decide +kernel) rfl) pa_nil))))) pss_never pss_nil)
      (pss_cons (ps_set (i := 2) scWalked.nd rfl (.inl rfl) (pe_dr Ws (by decide) hr rfl (pa_cons (pv 1) pa_nil)))
      (pss_cons (ps_if (pt_cmpR op_notN1 (pv 2) pe_non (nomark _)) pss_never pss_nil)
      (pss_cons (ps_set (i := 3) scWalked.nd rfl (.inl rfl) pe_int)
      (pss_cons (ps_set (i := 4) scWalked.nd rfl (.inl rfl) (pe_lst pa_nil))
      (pss_cons (ps_for (passes_of rfl) rfl (pi_str (pv 1)) (pg_name (i := 5) scWalked.nd rfl (.inl rfl))
        (pss_one (ps_if (pt_cmpR op_eq (pv 5) pe_str (nomark _)) (pss_one (ps_expr (pe_bm PySem.F.plainAttrs_list PySem.F.slot_list_append PySem.F.type_list_append mt_append (pv 4) (pa_cons (pe_tup (pa_cons (pv 3) (pa_cons pe_int pa_nil))) pa_nil))))
          (pss_one (ps_aug (i := 3) scWalked.nd rfl (.inl rfl) (pe_ifExp (pt_cmpR op_eq (pv 5) pe_str (nomark _)) pe_int (pe_un un_neg pe_int)) ip_add)))))
      (pss_one (ps_ret (pe_drX Ro (by decide) hr rfl (passes_on (takes_of rfl rfl rfl rfl)) (pa_cons (pv 0) (pa_cons (pe_dr To (by decide) hr rfl (pa_cons (pv 0) (pa_cons (pe_tup (pa_cons (pe_tup (pa_cons (pv 4) (pa_cons pe_int (pa_cons pe_int pa_nil)))) pa_nil)) pa_nil))) (pa_cons (pv 3) pa_nil)))))))))))), ?_⟩
    refine ⟨_, rfl, lv, rfl, hg, ?_⟩
    dsimp only
    refine sq_no (ans_not (b := true) (ans_val fun Q q => ⟨_, rfl, isi_ss q⟩)) ?_
    refine ⟨_, rfl, x, rfl, hs, hl, fun H1 s1 => ?_⟩
    dsimp only [gName]
    refine sq_no (ans_notN (x := .non) (val_var rfl) (by rw [decide_eq_true rfl]; rfl)) ?_
    refine sq_set (v := .int 0) val_c ?_
    refine ⟨(by show 0 ≤ sizeLine; decide), fun l nl => ?_⟩
    have hsz : x.cps.size = (tl x).length := rfl
    have sl := same_of (o := .lst []) nl
    refine ⟨_, rfl, x, rfl, for_str (fun i σ' H' => Same H1 H' ∧ ∃ x5 as, σ' = [some (.int lv), some (.str x), some .non, some (.int (walkL ((tl x).take i)).1), some (.ref l), x5] ∧ H' l = some (.lst (as.map V.ref)) ∧ Paired (fun a (q : Int × Int) => H' a = some (.tup [.int q.1, .int q.2])) as (walkL ((tl x).take i)).2)
      ⟨sl, none, [], rfl, by rw [upd_same]; rfl, .nil⟩ (fun i c σ' H' hx z => ?_) (fun σ' H' z => ?_)⟩
    · obtain ⟨s2, x5, as, rfl, hl', hp⟩ := z
      have hi : i < x.cps.size := (Array.getElem?_eq_some_iff.mp hx).1
      have hx2 : (tl x)[i]? = some c := by rw [show tl x = x.cps.toList from rfl, Array.getElem?_toList]; exact hx
      have hc : IsSign c := hs c (List.mem_of_getElem? hx2)
      have wl := walkL_len (tl x) i
      rw [walkL_snoc hx2]
      unfold walkF
      by_cases h43 : c = 43
      · subst h43
        rw [if_pos rfl]
        refine st_yes (ans_eq (val_var rfl) val_c rfl (decide_eq_true (by decide))) ?_
        refine ⟨_, rfl, .inl ⟨rfl, _, SqL.of hl'⟩, _, rfl, (by show 2 ≤ sizeLine; decide), fun t nt => ?_⟩
        have tl' : t ≠ l := fun z => by rw [z, hl'] at nt; cases nt
        have s3 := same_of (o := .tup [V.int (walkL ((tl x).take i)).1, V.int 1]) nt
        refine ⟨l, _, _, rfl, rfl, s3 _ _ hl', ?_, ?_⟩
        · rw [List.length_map, Paired.length hp, sizeLine_eq]
          omega
        · refine ⟨same_at (s2.trans s3) nl, _, as ++ [t], rfl, by rw [upd_same, List.map_append]; rfl, paired_app (L2.Paired.mapP hp fun a q z => ?_) (.cons ?_ .nil)⟩
          · rw [upd_ne (fun k => by rw [k, hl'] at z; cases z)]
            exact s3 _ _ z
          · rw [upd_ne tl', upd_same]
      · rw [if_neg h43]
        refine st_no (ans_eq (val_var rfl) val_c rfl (decide_eq_false (fun e => h43 ?_))) ?_
        · exact sign_of e
        · refine ⟨_, rfl, ?_⟩
          by_cases h62 : c = 62
          · subst h62
            rw [if_pos rfl]
            refine lv_if (b := true) (ans_eq (val_var rfl) val_c rfl (decide_eq_true (by decide))) (fun _ => val_c) (fun z => Bool.noConfusion z) _ ⟨_, _, rfl, rfl, ?_⟩
            exact ⟨s2, _, as, rfl, hl', hp⟩
          · rw [if_neg h62]
            refine lv_if (b := false) (ans_eq (val_var rfl) val_c rfl (decide_eq_false (fun e => h62 (sign_of e)))) (fun z => Bool.noConfusion z) (fun _ => (fun Q q => ⟨1, rfl, q⟩)) _ ⟨_, _, rfl, rfl, ?_⟩
            exact ⟨s2, _, as, rfl, hl', hp⟩
    · obtain ⟨s2, x5, as, rfl, hl', hp⟩ := z
      rw [hsz, List.take_length] at hp ⊢
      dsimp only
      refine ⟨_, rfl, _, rfl, _, rfl, (by show 3 ≤ sizeLine; decide), fun r1 n1 => ⟨(by show 1 ≤ sizeLine; decide), fun pt npt => ?_⟩⟩
      have s3 := same_of (o := .tup [V.ref l, V.int 0, V.int 1]) n1
      have s4 := same_of (o := .tup [V.ref r1]) npt
      have s34 := s3.trans s4
      have wl : (walkL (tl x)).2.length ≤ 4000 := by
        have := walkL_len (tl x) (tl x).length
        rw [List.take_length] at this
        omega
      have w1 : ∀ q ∈ (walkL (tl x)).2, q.2 = 1 := by
        have := walkL_one (tl x) (tl x).length
        rw [List.take_length] at this
        exact this
      have e : partsLen [⟨(walkL (tl x)).2, 0, 1⟩] = (walkL (tl x)).2.length := by
        unfold partsLen
        rw [List.map_cons, List.map_nil, List.sum_cons, List.sum_nil]
        rfl
      refine ⟨lv, pt, [r1], [⟨(walkL (tl x)).2, 0, 1⟩], rfl, upd_same, .cons ⟨l, s4 _ _ upd_same, as, s34 _ _ hl', L2.Paired.mapP hp fun a q z => s34 _ _ z⟩ .nil, (good_pos hg).1, ?_, by omega, fun tt ms H2 s5 hpb hri hsum hlm => ?_⟩
      · intro y hy
        simp only [List.mem_cons, List.not_mem_nil, or_false] at hy
        subst hy
        intro q hq
        rw [w1 q hq]
        decide
      · refine ⟨_, rfl, tt, lv, _, ms, rfl, hg, hpb.at, hri, by omega, fun few' r H3 s6 nr hR => ?_, fun many d H3 s6 hd => ?_⟩
        · exact q r ms H3 (s1.trans (s2.trans (s34.trans (s5.trans s6)))) ⟨⟨tt, hR, hpb.at.same s6⟩, hg, hri.w few'⟩ hsum (by omega)
        · exact qx d ms H3 hri hsum many (s1.trans (s2.trans (s34.trans (s5.trans s6)))) hd
end
end Lamp
set_option Elab.async false
set_option linter.all false
set_option maxRecDepth 100000
set_option maxHeartbeats 1000000
namespace Lamp
open PySem PySem.Spec PyProof.Rows L2 LamX
/-! defs that may raise, called by keywords alone, in the opposite order -/
structure DrBX (P : Program) (w : World) (K : PySem.W.Frag) (mg : Str → Option Value) (base : Heap) (sp : Sp) (x : Str) (ps : List Str) (k : Nat) : Prop where
  ex : ∃ (f : Addr) (fd : FuncData), FnOk P w K mg base (L2.CX P w) k f fd ps sp ∧ (∀ (s : Shared) (us : List Value), us.length = ps.length → BindsTo s fd ⟨[], ps.reverse.zip us⟩ (ps.zip us.reverse)) ∧ mg x = some (.ref f) ∧ PySem.W.keepIn K (.ref f) = true
def tCallBX (sp : Sp) (E : XK) (tk : TA) : TE := fun σ H Q => tk σ H fun zs H1 => sp zs.reverse H1 Q E
section
variable {X : Cx} {sp : Sp} {x : Str} {ps : List Str} {k j : Nat} {tk : TA} {p pos : Pos} {kws : List Keyword} {E : XK}
theorem pe_drBX (Z : DrBX X.prog X.w X.K X.mg X.base sp x ps k) (hk : k ≤ j) (hr : Room j X.A) (hg : Gl X x) (hx : Passes (L2.CX X.prog X.w) X E) (hkw : PK X kws tk)
    (hall : (backToKw pos (keywordEach kws X.env)).all (·.1.isSome) = true := by rfl) (hks : (backToKw pos (keywordEach kws X.env)).filterMap (·.1) = ps.reverse := by rfl) (hdb : (x == ("__debug__" : Str)) = false := by decide)
    (hpl : ((backTo pos (starEach [] X.env)).any (·.1) || (backToKw pos (keywordEach kws X.env)).any (·.1.isNone)) = false := by rfl) : PE X (.Call (.Name x p) [] kws pos) (tCallBX sp E tk) := by
  obtain ⟨f, fd, F, b, m, kp⟩ := Z.ex
  refine ⟨fun pins s σ H Q I h => ?_⟩
  refine wpAny_Call_Name_kw (ld_glob I hg m ?_ hdb)
  refine PySem.W.callWith_KW0 (h₀ := X.base) I.ok.mod.kin kp hall ?_ hpl
  refine thn (hkw.run pos pins s σ H _ I h) fun ws s2 ⟨zs, H2, I2, rz, q⟩ => ⟨I2.kIn, ?_⟩
  rw [hks]
  have r2 := vals_rev rz
  have hl : ws.reverse.length = ps.length := by rw [← r2.length]; exact F.len _ _ _ _ q
  refine wpAny_call (codeAny_mono (F.run X.A X.stack s2 H2 ⟨[], ps.reverse.zip ws⟩ ws.reverse zs.reverse Q E (hr.mono hk) I2.env0 (b s2 ws (by rw [← hl, List.length_reverse])) r2 q) fun res s' told => ?_)
  match res, told with
  | .error e, told => exact hx pins σ H2 s2 e s' I2 told
  | .ok (.ret u), told => exact I2.after told
  | .ok .next, told => exact False.elim told
  | .ok .brk, told => exact False.elim told
  | .ok .cont, told => exact False.elim told
end
end Lamp
set_option Elab.async false
set_option linter.all false
set_option maxRecDepth 100000
set_option maxHeartbeats 4000000
namespace Lamp
open PySem PySem.Spec PyProof.Rows L2 LamX
open TL (tl tl_append)
abbrev sRight : Stmt := top 57
abbrev sLaw : Stmt := top 58
def qR : Str := (envOfC "_law_right" (defScope sRight) 0 0 .none).qual ++ "<lambda>"
theorem FnOk.or {P : Program} {w : World} {K : PySem.W.Frag} {mg : Str → Option Value} {base : Heap} {CX : CXT} {i j k : Nat} {f : Addr} {fd : FuncData} {ps : List Str} {s1 s2 : Sp} (F1 : FnOk P w K mg base CX i f fd ps s1) (F2 : FnOk P w K mg base CX j f fd ps s2) (hi : i ≤ k) (hj : j ≤ k) :
    FnOk P w K mg base CX k f fd ps (fun vs H Q E => s1 vs H Q E ∨ s2 vs H Q E) := ⟨fun vs H Q E h => h.elim (F1.len vs H Q E) (F2.len vs H Q E), fun A outer s H args us vs Q E hr h1 h2 h3 h => h.elim (fun z => (F1.mono hi).run A outer s H args us vs Q E hr h1 h2 h3 z) (fun z => (F2.mono hj).run A outer s H args us vs Q E hr h1 h2 h3 z)⟩
def spWalkedA (K : PySem.W.Frag) (C xL xS xT : Addr) : Sp := fun vs H Q E => spWalkedE K xL xS vs H Q E ∨ spWalkedX K C xT vs H Q E
def spLWkA (K : PySem.W.Frag) (C xR xT : Addr) : Sp := fun vs H Q E => spAskE K xR vs H Q E ∨ spLWk K C xT vs H Q E
theorem rndB_ext {K : PySem.W.Frag} {C a : Addr} {H H' : Hp} {lv fin : Int} {ls : List (Int × Int)} (h : RndB K C H a lv fin ls) (e : ExtN H H') : RndB K C H' a lv fin ls := by
  obtain ⟨⟨t, ⟨dx, h1⟩, as, ⟨o, h2, h3⟩, h6⟩, h4, h5⟩ := h
  exact ⟨⟨t, ⟨dx, e _ _ h1 (fun _ z => by cases z)⟩, as, ⟨o, e _ _ h2 (fun _ z => by cases z), h3⟩, L2.Paired.mapP h6 fun a q z => e _ _ z (fun _ z => by cases z)⟩, h4, h5⟩
theorem okD_int {i : Int} (h : i.natAbs < 10 ^ 40) : okD (.int i) = true := by
  have h1 := nS_len h
  have hl : (41 : Nat) ≤ sizeLine := by decide
  unfold okD
  rw [Bool.and_eq_true, Bool.and_eq_true]
  refine ⟨⟨?_, rfl⟩, decide_eq_true ?_⟩
  · show decide (i.natAbs.log2 < 1920) = true
    exact decide_eq_true (fits_log h)
  · show (nS i).length ≤ sizeLine
    omega
/-! what the answers are told as -/
def errD (n : Str) (d : PyData) : PyData := .list [.str n, .str d.shown]
def rowD (n : Str) (d : PyData) (k : Nat) : PyData := .list (List.replicate k (errD n d))
def fineB (n : Str) (k : Nat) (d : PyData) : Bool := SeqAt.shaped (rowD n d k) && PyData.eqv (rowD n d k) (rowD n d k)
theorem things_fine : things.all (fineB "NotRound" 2) = true := by decide +kernel
def pvals : List PyData := [.int 2, .int 3, .int 5, .int 7, .int 2, .int 1, .int 4, .bool true, .str "2", .none]
theorem pvals_ok : (pvals ++ things).all (fun d => okD d && PyData.strOk d.shown) = true := by decide +kernel
theorem all_at {α : Type} {l : List α} {f : α → Bool} (h : l.all f = true) {x : α} (m : x ∈ l) : f x = true := by
  rw [List.all_eq_true] at h
  exact h x m
/-- the list of answers, so far -/
def RowA (H : Hp) (g : Addr) (n s : Str) (k : Nat) : Prop := ∃ ls : List Addr, H g = some (.lst (ls.map V.ref)) ∧ ls.length = k ∧ ∀ l ∈ ls, H l = some (.lst [.str n, .str s])
theorem dp_row {K : PySem.W.Frag} {H : Hp} {n : Str} {d : PyData} : ∀ {ls : List Addr}, (∀ l ∈ ls, H l = some (.lst [.str n, .str d.shown])) → DpAll K H (ls.map V.ref) (List.replicate ls.length (errD n d))
  | [], _ => .nil
  | l :: ls, h => .cons (.lst (SqL.of (h l (List.mem_cons_self ..))) (.cons (.str _) (.cons (.str _) .nil))) (dp_row fun m hm => h m (List.mem_cons_of_mem _ hm))
theorem RowA.dp {K : PySem.W.Frag} {H : Hp} {g : Addr} {n : Str} {d : PyData} {k : Nat} (h : RowA H g n d.shown k) : Dp K H (.ref g) (rowD n d k) := by
  obtain ⟨ls, h1, rfl, h3⟩ := h
  exact .lst (SqL.of h1) (dp_row h3)
theorem RowA.same {H H' : Hp} {g : Addr} {n s : Str} {k : Nat} (h : RowA H g n s k) (e : Same H H') : RowA H' g n s k := by
  obtain ⟨ls, h1, h2, h3⟩ := h
  exact ⟨ls, e _ _ h1, h2, fun l hl => e _ _ (h3 l hl)⟩
def twoS (n s : Str) : PyData := .list [.str n, .str s]
theorem two_fine {n s : Str} (hn : PyData.strOk n = true) (hs : PyData.strOk s = true) : SeqAt.shaped (twoS n s) = true ∧ PyData.eqv (twoS n s) (twoS n s) = true ∧ SeqAt.shaped (.list [twoS n s, twoS n s]) = true ∧ PyData.eqv (.list [twoS n s, twoS n s]) (.list [twoS n s, twoS n s]) = true ∧ PyData.eqv (twoS n s) (.list []) = false := by
  refine ⟨?_, ?_, ?_, ?_, rfl⟩
  · show ((PyData.strOk n && (PyData.strOk s && true)) && decide (max 0 (max 0 0) + 1 ≤ 64)) = true
    rw [hn, hs]
    rfl
  · show ((n == n) && ((s == s) && true)) = true
    simp
  · show (((PyData.strOk n && (PyData.strOk s && true)) && ((PyData.strOk n && (PyData.strOk s && true)) && true)) && decide (max (max 0 (max 0 0) + 1) (max (max 0 (max 0 0) + 1) 0) + 1 ≤ 64)) = true
    rw [hn, hs]
    rfl
  · show (((n == n) && ((s == s) && true)) && (((n == n) && ((s == s) && true)) && true)) = true
    simp
section
variable {K : PySem.W.Frag} {cA cB cC x0 x1 x2 x3 x : Addr} {T : List (Addr × Str)} {t : XK → TE} {rest t1 : TS} {D : Ends} {σ : L2.St} {H Hb : Hp} {v : V} {d : PyData} {n : Str} {c : List V → Prop}
/-- an answer: a list of such parts -/
def Gives (K : PySem.W.Frag) (cA cB cC x0 x1 x2 x3 : Addr) (t : XK → TE) (σ : L2.St) (H : Hp) (c : List V → Prop) : Prop :=
  ∀ (f : Addr) (Q : VK), (∀ l H' vs, ExtN H H' → (∀ T, Tabs T H → Tabs T H') → H' l = some (.lst vs) → c vs → Q (.ref l) H') → t (raisO K (.ref cA) (.ref cB) (.ref cC) (spSort K x0 x1 x2 x3) Q) σ H (backE f Q)
theorem gives_err {f0 : Str} {y : V} (xm : PySem.W.exmAny K (.ref x) [.ref cA, .ref cB, .ref cC] = some true) (he : ErrG x0 x1 x2 x3 x f0 n) (hq : Dq K H y d) (kd : okD d = true)
    (h : ∀ (E : XK) Q, (∀ dd H', Same H H' → H' dd = some (exd dd [(f0, y)]) → E (.ref x) (some dd) H') → t E σ H Q) : Gives K cA cB cC x0 x1 x2 x3 t σ H (fun vs => vs = [.str n, .str d.shown]) := fun f Q k => h _ _ fun dd H' s hd =>
  ⟨x, rfl, xm, fun ea nea => ⟨rfl, dd, f0, n, y, d, rfl, he, hd, dq_same s hq, kd, fun l H'' s' nl hl => k l H'' _ (ext_same (s.trans s')) (fun T z => z.ext (s.trans s')) hl rfl⟩⟩
theorem gives_back (h : ∀ (E : XK) (Q : VK), (∀ w H', Same H H' → c [.str "back", w] → Q w H') → t E σ H Q) : Gives K cA cB cC x0 x1 x2 x3 t σ H c := fun f Q k => h _ _ fun w H' s hc => back_run fun l nl => by
  have sl := same_of (o := .lst [V.str "back", w]) nl
  exact k l _ _ (ext_same (s.trans sl)) (fun T z => z.ext (s.trans sl)) upd_same hc
theorem got_new (hT : Tabs T H) (h : ∀ H8, ExtN H H8 → Gives K cA cB cC x0 x1 x2 x3 t σ H8 c)
    (k : ∀ g l Hb H' vs, ExtN H Hb → Hb g = none → ExtN Hb H' → Tabs T H' → H' g = some (.lst [.ref l]) → H' l = some (.lst vs) → c vs → rest D (σ.set 3 (some (.ref g))) H') :
    tSeq (tAsg (tLst (tCons (tLam T (TTanO K (.ref cA) (.ref cB) (.ref cC) (spSort K x0 x1 x2 x3)) t) tNil)) (gName 3)) rest D σ H := by
  refine ⟨hT, fun H8 e8 hT8 f8 => h H8 e8 f8 _ fun l H9 vs e9 t9 hl hc => ⟨(by show 1 ≤ sizeLine; decide), fun g ng => ?_⟩⟩
  have sg := same_of (o := .lst [V.ref l]) ng
  exact k g l H9 _ vs (e8.trans e9) ng (ext_same sg) ((t9 T hT8).ext sg) upd_same (sg _ _ hl) hc
theorem got_add {g l1 : Addr} {us : List V} (hg : σ[3]? = some (some (.ref g))) (h1 : H g = some (.lst [.ref l1])) (h2 : H l1 = some (.lst us)) (hne : us.length = 2) (hb : Hb g = none) (e : ExtN Hb H) (hT : Tabs T H) (h : ∀ H8, ExtN H H8 → Gives K cA cB cC x0 x1 x2 x3 t σ H8 c)
    (k : ∀ H' l2 vs, ExtN Hb H' → Tabs T H' → H' g = some (.lst [.ref l1, .ref l2]) → H' l1 = some (.lst us) → H' l2 = some (.lst vs) → c vs → rest D σ H') (h3 : ∀ vs, c vs → vs.length = 2) :
    tSeq (tDrop (tBM K "list" rAppend (tVar 3) (tCons (tLam T (TTanO K (.ref cA) (.ref cB) (.ref cC) (spSort K x0 x1 x2 x3)) t) tNil))) rest D σ H := by
  refine ⟨_, hg, .inl ⟨rfl, _, SqL.of h1⟩, hT, fun H8 e8 hT8 f8 => h H8 e8 f8 _ fun l H9 vs e9 t9 hl hc => ?_⟩
  have h9 := e9 _ _ (e8 _ _ h1 (fun _ z => by cases z)) (fun _ z => by cases z)
  have h29 := e9 _ _ (e8 _ _ h2 (fun _ z => by cases z)) (fun _ z => by cases z)
  refine ⟨g, _, .ref l, rfl, rfl, h9, (by show 1 < sizeLine; decide), ?_⟩
  have n1 : l1 ≠ g := fun w => by
    rw [w, h9] at h29
    injection h29 with h29
    injection h29 with h29
    rw [← h29] at hne
    cases hne
  have n2 : l ≠ g := fun w => by
    rw [w, h9] at hl
    injection hl with hl
    injection hl with hl
    have := h3 vs hc
    rw [← hl] at this
    cases this
  refine k _ l vs (fun b o h z => ?_) (tabs_upd h9 (t9 T hT8)) upd_same (by rw [upd_ne n1]; exact h29) (by rw [upd_ne n2]; exact hl) hc
  have nb : b ≠ g := fun w => by rw [w, hb] at h; cases h
  rw [upd_ne nb]
  exact e9 _ _ (e8 _ _ (e _ _ h z) z) z
/-- they are as they should be -/
theorem got_if {g : Addr} {m i : Nat} (hg : σ[3]? = some (some (.ref g))) (hi : σ[i]? = some (some v)) (R : RowA H g n d.shown m) (hm : m < 9) (ok : okD d = true) (hv : Dq K H v d) (fine : fineB n m d = true)
    (k : ∀ H', Same H H' → rest D σ H') :
    tSeq (tIfS (tTest (tOp (rNeD K) (tVar 3) (tOp rRep (tLst (tCons (tLst (tCons (tC (.str n)) (tCons (tCB (rReprD K) (tCons (tVar i) tNil)) tNil))) tNil)) (tC (.int (m : Int)))))) t1 tNext) rest D σ H := by
  obtain ⟨o1, o2, o3⟩ := okD_of ok
  unfold fineB at fine
  rw [Bool.and_eq_true] at fine
  refine ⟨_, hg, _, hi, _, d, rfl, hv, o1, o2, o3, (by show 2 ≤ sizeLine; decide), fun l n1 => ⟨(by show 1 ≤ sizeLine; decide), fun l2 n2 => ⟨l2, _, _, rfl, rfl, upd_same, by omega, by omega, ?_, fun l3 n3 => ?_⟩⟩⟩
  · show 1 * ((m : Int)).toNat ≤ sizeLine
    have : (9 : Nat) < sizeLine := by decide
    omega
  · have s1 := same_of (o := .lst [V.str n, V.str d.shown]) n1
    have s2 := same_of (o := .lst [V.ref l]) n2
    have s3 := same_of (o := .lst (List.replicate ((m : Int)).toNat [V.ref l]).flatten) n3
    have hl := s3 _ _ (s2 _ _ (upd_same (H := H) (a := l) (o := .lst [V.str n, V.str d.shown])))
    have R2 : RowA (upd (upd (upd H l (.lst [V.str n, V.str d.shown])) l2 (.lst [V.ref l])) l3 (.lst (List.replicate ((m : Int)).toNat [V.ref l]).flatten)) l3 n d.shown m := by
      refine ⟨List.replicate m l, ?_, List.length_replicate, fun q hq => ?_⟩
      · rw [upd_same, show ((m : Int)).toNat = m by omega]
        congr 2
        clear hm s3 hl n3 fine R
        induction m with
        | zero => rfl
        | succ m ih => rw [List.replicate_succ, List.flatten_cons, ih, List.replicate_succ]; rfl
      · rw [List.eq_of_mem_replicate hq]
        exact hl
    refine ⟨rowD n d m, rowD n d m, (R.same (s1.trans (s2.trans s3))).dp, R2.dp, fine.1, fine.1, ?_⟩
    rw [fine.2]
    exact ⟨false, rfl, iteF (k _ (s1.trans (s2.trans s3)))⟩
theorem got_if1 {g : Addr} {m i : Nat} (hg : σ[3]? = some (some (.ref g))) (hi : σ[i]? = some (some v)) (R : RowA H g n d.shown m) (hm : m < 9) (ok : okD d = true) (hv : Dq K H v d) (fine : fineB n m d = true)
    (k : ∀ H', Same H H' → D.nx σ H') :
    (tIfS (tTest (tOp (rNeD K) (tVar 3) (tOp rRep (tLst (tCons (tLst (tCons (tC (.str n)) (tCons (tCB (rReprD K) (tCons (tVar i) tNil)) tNil))) tNil)) (tC (.int (m : Int)))))) t1 tNext) D σ H :=
  got_if (rest := tNext) (t1 := t1) (D := D) hg hi R hm ok hv fine k
end
end Lamp
set_option Elab.async false
set_option linter.all false
set_option maxRecDepth 100000
set_option maxHeartbeats 4000000
namespace Lamp
open PySem PySem.Spec PyProof.Rows L2 LamX
open TL (tl tl_append)
def spRight (K : PySem.W.Frag) (T : List (Addr × Str)) : Sp := fun vs H Q _ => ∃ (p : Addr), vs = [.ref p] ∧ Pail H p ∧ Tabs T H ∧ ∀ H', ButN p H H' → Tabs T H' → Q (.bl true) H'
abbrev rightN : List Str := ["_law_pail", "_law_turn", "_law_due_here", "_law_got", "_law_many", "_law_far", "_law_mine", "_law_p", "_law_thing_here", "_law_value", "_law_each"]
abbrev rLenX : List V → Hp → VK → Prop := fun xs H Q => ∃ z, xs = [.str z] ∧ z.length ≤ sizeLine ∧ Q (.int z.length) H
theorem things_short : things.all (fun d => match d with | .str x => decide (x.length ≤ 60) | _ => true) = true := by decide +kernel
theorem short_ok {x : Str} (h : x.length ≤ 60) : OkRow x := by
  have few := walkL_len (tl x) (tl x).length
  rw [List.take_length] at few
  have := TL.len_tl x
  exact ⟨by omega, fun _ => .inl (by omega)⟩
theorem dark_least {fin low high : Int} (hl : Low (placesOf [] fin) low) (hh : High (placesOf [] fin) high) : leastN [] fin low high = absZ fin := by
  have e : placesOf [] fin = [0, fin] := rfl
  rw [e] at hl hh
  have l0 := hl.le 0 (by simp)
  have l1 := hl.le fin (by simp)
  have h0 := hh.le 0 (by simp)
  have h1 := hh.le fin (by simp)
  have lm := hl.mem
  have hm := hh.mem
  simp only [List.mem_cons, List.not_mem_nil, or_false] at lm hm
  show (0 : Int) + 2 * (high - low) - absZ fin = absZ fin
  unfold absZ
  omega
theorem one_least {m low high : Int} (hm0 : 0 ≤ m) (hl : Low (placesOf [(m, 1)] m) low) (hh : High (placesOf [(m, 1)] m) high) : leastN [(m, 1)] m low high = m + 1 := by
  have e : placesOf [(m, 1)] m = [m, 0, m] := rfl
  rw [e] at hl hh
  have l0 := hl.le 0 (by simp)
  have l1 := hl.le m (by simp)
  have h0 := hh.le 0 (by simp)
  have h1 := hh.le m (by simp)
  have lm := hl.mem
  have hm := hh.mem
  simp only [List.mem_cons, List.not_mem_nil, or_false] at lm hm
  show ((1 : Int) + 0) + 2 * (high - low) - absZ m = m + 1
  unfold absZ
  omega
theorem rndB_but {K : PySem.W.Frag} {C a p : Addr} {H H' : Hp} {lv fin : Int} {ls : List (Int × Int)} {xs : List V} (h : RndB K C H a lv fin ls) (hp : H p = some (.lst xs)) (b : But p H H') : RndB K C H' a lv fin ls := by
  obtain ⟨⟨t, ⟨dx, h1⟩, as, ⟨o, h2, h3⟩, h6⟩, h4, h5⟩ := h
  exact ⟨⟨t, ⟨dx, b _ _ (fun z => by rw [z, hp] at h1; cases h1) h1⟩, as, ⟨o, b _ _ (fun z => by rw [z, hp] at h2; cases h2) h2, h3⟩, L2.Paired.mapP h6 fun a q z => b _ _ (fun k => by rw [k, hp] at z; cases z) z⟩, h4, h5⟩
theorem rise_few {lv : Int} {ms ls : List (Int × Int)} (hri : Rising lv ms) (hs : ∀ p, sumAt ms p = partsAt [⟨ls, 0, 1⟩] p % lv) : ms.length ≤ ls.length := by
  have sub : ∀ p ∈ ms.map (·.1), p ∈ ls.map (·.1) := fun p hp => by
    obtain ⟨q, hq, rfl⟩ := List.mem_map.mp hp
    by_cases z : q.1 ∈ ls.map (·.1)
    · exact z
    · have e := hs q.1
      rw [hri.mem hq, partsAt_one] at e
      have e2 : partAt ⟨ls, 0, 1⟩ q.1 = 0 := by
        show (1 : Int) * sumAt ls (q.1 - 0) = 0
        rw [Int.sub_zero, sum_out z, Int.mul_zero]
      rw [e2, Int.zero_emod] at e
      have := hri.lv q hq
      omega
  have := nodup_le hri.nd sub
  rw [List.length_map, List.length_map] at this
  exact this
section
variable {Y : Cx} {E : XK} {sp : Sp} {f x y z : Str} {ps : List Str} {k i j l : Nat} {p1 p2 p3 p4 p5 p6 p7 p8 : Pos} {j1 j2 : Nat} {C xR xT : Addr}
theorem pe_body1 (Z : DrX Y.prog Y.w Y.K Y.mg Y.base sp f ps k) (hk : k ≤ 9) (hr : Room 9 Y.A) (hx : Passes (L2.CX Y.prog Y.w) Y E) (g : Gl Y f) (ex : PE Y (.Name x p2) (tVar i)) (hdb : (f == ("__debug__" : Str)) = false := by decide) :
    PE Y (.Call (.Name f p1) [.Name x p2] [] p3) (tCallX sp E (tCons (tVar i) tNil)) := pe_drX Z hk hr g hx (pa_cons ex pa_nil) hdb
theorem pe_body2 (Z : DrX Y.prog Y.w Y.K Y.mg Y.base sp f ps k) (hk : k ≤ 9) (hr : Room 9 Y.A) (hx : Passes (L2.CX Y.prog Y.w) Y E) (g : Gl Y f) (ex : PE Y (.Name x p2) (tVar i)) (ey : PE Y (.Name y p3) (tVar j)) (hdb : (f == ("__debug__" : Str)) = false := by decide) :
    PE Y (.Call (.Name f p1) [.Name x p2, .Name y p3] [] p4) (tCallX sp E (tCons (tVar i) (tCons (tVar j) tNil))) := pe_drX Z hk hr g hx (pa_cons ex (pa_cons ey pa_nil)) hdb
theorem pe_bodyG (Wl : DrX Y.prog Y.w Y.K Y.mg Y.base (spLWkA Y.K C xR xT) "least_walk" ["trip"] 6) (M : MkR Y.prog Y.w Y.K Y.mg Y.base C) (mR : Y.mg "Round" = some (.ref C)) (hr : Room 9 Y.A) (hx : Passes (L2.CX Y.prog Y.w) Y E)
    (g1 : Gl Y "least_walk") (g2 : Gl Y "Round") (n5 : Y.N[5]? = some ("_law_far" : Str)) (v5 : Vis Y.env.scope "_law_far") :
    PE Y (.Call (.Name "least_walk" p1) [.Call (.Name "Round" p2) [.Constant (.int 2) j1 p3, .Tuple [] j2 p4, .Name "_law_far" p5] [] p6] [] p7)
      (tCallX (spLWkA Y.K C xR xT) E (tCons (tMkR Y.K C (tCons (tC (.int 2)) (tCons (tTupB tNil) (tCons (tVar 5) tNil)))) tNil)) :=
  pe_drX Wl (by decide) hr g1 hx (pa_cons (pe_mkR M (hr.mono (by decide)) g2 mR (pa_cons pe_int (pa_cons (pe_tupB pa_nil) (pa_cons (pv 5 n5 v5) pa_nil)))) pa_nil)
theorem pe_bodyL (Wl : DrX Y.prog Y.w Y.K Y.mg Y.base (spLWkA Y.K C xR xT) "least_walk" ["trip"] 6) (hr : Room 9 Y.A) (hx : Passes (L2.CX Y.prog Y.w) Y E) (g0 : Gl Y "len") (g1 : Gl Y "least_walk") (ml : Y.mg "len" = none) (n6 : Y.N[6]? = some ("_law_mine" : Str)) (v6 : Vis Y.env.scope "_law_mine") :
    PE Y (.Call (.Name "len" p1) [.Call (.Name "least_walk" p2) [.Name "_law_mine" p3] [] p4] [] p5) (tCB rLenX (tCons (tCallX (spLWkA Y.K C xR xT) E (tCons (tVar 6) tNil)) tNil)) :=
  pe_callB call_len_str g0 ml (by decide +kernel) (pa_cons (pe_drX Wl (by decide) hr g1 hx (pa_cons (pv 6 n6 v6) pa_nil)) pa_nil)
end
section
variable {P : Program} {w : World} {K : PySem.W.Frag} {mg : Str → Option Value} {base : Heap} {C xL xS xR xT cA cB cC : Addr}
theorem scRight : FnScope rightN ["_law_pail"] (defScope sRight) := ⟨rfl, rfl, rfl, by decide +kernel, rfl, by decide +kernel, by decide +kernel⟩
local macro_rules | `(tactic| walk_at "pe") => `(tactic| first
  | exact pe_non
  | exact pe_bl
  | exact pe_int
  | exact pe_str
  | (refine' pe_un un_neg ?ha; (case ha => walk_at "pe"))
  | (refine' pe_op op_pow ?ha ?hb; (case ha => walk_at "pe"); (case hb => walk_at "pe"))
  | (refine' pe_tup ?ha; (case ha => walk_at "pa"))
  | (refine' pe_lst ?ha; (case ha => walk_at "pa"))
  | exact pe_dnewK
  | exact pe_disp (pps_cons pe_str pe_int pps_nil) (by rfl) (by rfl) (fun z => by cases z) (by decide))
local macro_rules | `(tactic| walk_at "pa") => `(tactic| first
  | exact pa_nil
  | (refine' pa_cons ?ha ?hb; (case ha => walk_at "pe"); (case hb => walk_at "pa")))
local macro_rules | `(tactic| walk_at "evp") => `(tactic| first
  | exact evp_non
  | exact evp_bl
  | exact evp_int
  | exact evp_str
  | (refine' evp_neg ?ha; (case ha => walk_at "evp"))
  | exact evp_pow ⟨by decide, by decide, by decide⟩
  | (refine' evp_tup ?ha ?hb; (case ha => walk_at "evps"); (case hb => decide))
  | (refine' evp_lst ?ha ?hb; (case ha => walk_at "evps"); (case hb => decide)))
local macro_rules | `(tactic| walk_at "evps") => `(tactic| first
  | exact evps_nil
  | (refine' evps_cons ?ha ?hb; (case ha => walk_at "evp"); (case hb => walk_at "evps")))
local macro_rules | `(tactic| walk_at "evqs") => `(tactic| first
  | exact evqs_nil
  | (refine' evqs_cons ?ha ?hb; (case ha => first | exact evq_d0 | exact evq_d1 | (refine' evq_of ?hc; (case hc => walk_at "evp"))); (case hb => walk_at "evqs")))

theorem ok_right {f c Pt fD : Addr} {fd fdD : FuncData} {T : List (Addr × Str)} (F : Fun K "_law_right" "_law_right" sRight f fd) (hcd : fd.code = .ref c) (TB : TabB base mg c Pt) (hmT : (Pt, qR) ∈ T) (hu : ∀ p ∈ T, p.1 = Pt → p.2 = qR)
    (An : Dr P w K mg base spAny "_law_any_of" ["_law_pail", "_law_some_here"] 2) (Cs : Dr P w K mg base spCast "_law_cast" ["_law_pail", "_law_many"] 1) (Va : Dr P w K mg base spVast "_law_vast" ["_law_pail", "_law_many"] 2) (Tg : Dr P w K mg base (spThing K) "_law_thing" ["_law_pail"] 3) (So : Dr P w K mg base (spLSome K) "_law_some" ["_law_pail"] 4)
    (GD : FnG P w K mg base 3 fD fdD ["_law_p", "_law_value"] (spLDue K)) (bD : Binds K fdD ["_law_p", "_law_value"] []) (mDu : mg "_law_due" = some (.ref fD)) (kD : PySem.W.keepIn K (.ref fD) = true)
    (M : MkR P w K mg base C) (mR : mg "Round" = some (.ref C)) (Wk : DrX P w K mg base (spWalkedA K C xL xS xT) "walked" ["levels", "steps"] 8) (WkB : DrBX P w K mg base (spWalkedA K C xL xS xT) "walked" ["levels", "steps"] 8) (St : DrX P w K mg base (spAskE K xR) "steps" ["trip"] 4) (Wl : DrX P w K mg base (spLWkA K C xR xT) "least_walk" ["trip"] 6)
    (Aw : AnsO P w K mg base cA cB cC (spSort K xL xS xR xT) 2) (xmL : PySem.W.exmAny K (.ref xL) [.ref cA, .ref cB, .ref cC] = some true) (xmS : PySem.W.exmAny K (.ref xS) [.ref cA, .ref cB, .ref cC] = some true) (xmR : PySem.W.exmAny K (.ref xR) [.ref cA, .ref cB, .ref cC] = some true) (xmT : PySem.W.exmAny K (.ref xT) [.ref cA, .ref cB, .ref cC] = some true)
    (mr : mg "range" = none) (ml : mg "len" = none) (mst : mg "str" = none) (mp : mg "repr" = none) : FnG P w K mg base 12 f fd ["_law_pail"] (spRight K T) := by
  refine okGC F scRight (fun vs H Q E h => ?_) (fun cdv A outer s H vs Q E hcv hgd hr h => ?_)
  · obtain ⟨p, rfl, _⟩ := h
    rfl
  · obtain ⟨p, rfl, hp, hT, q⟩ := h
    have hu64 := hr.units
    have ec : cdv = .ref c := hcv.symm.trans hcd
    subst ec
    refine ⟨_, pss_cons (ps_for PassesOwn.never rfl (pi_range1 rfl mr (pa_cons pe_int pa_nil)) (pg_name (i := 1) scRight.nd rfl (.inl rfl))
        (pss_cons (ps_asg (pe_tup (pa_cons (pe_dr An (by decide) hr rfl (pa_cons (pv 0) (pa_cons (pe_lst (pa_cons pe_int (pa_cons pe_int (pa_cons pe_int (pa_cons pe_int (pa_cons pe_int (pa_cons pe_int (pa_cons pe_int (pa_cons pe_bl (pa_cons pe_str (pa_cons pe_non (pa_cons (pe_dr Tg (by decide) hr rfl (pa_cons (pv 0) pa_nil)) pa_nil)))))))))))) pa_nil))) (pa_cons (pe_dr So (by decide) hr rfl (pa_cons (pv 0) pa_nil)) pa_nil))) (pg_tup rfl (pgs_cons (pg_name (i := 7) scRight.nd rfl (.inr rfl)) (pgs_cons (pg_name (i := 9) scRight.nd rfl (.inr rfl)) pgs_nil))))
          (pss_cons (ps_set (i := 2) scRight.nd rfl (.inl rfl) (pe_callG GD hgd (hr.mono (by decide)) rfl mDu kD bD (pa_cons (pv 7) (pa_cons (pv 9) pa_nil))))
          (pss_cons (ps_set (i := 3) scRight.nd rfl (.inl rfl) (pe_lst (pa_cons (pe_ansO (t := fun E => tCallX (spWalkedA K C xL xS xT) E (tCons (tVar 7) (tCons (tVar 9) tNil))) (k := 9) Aw (by decide) hgd hr rfl TB rfl hmT hu (lamS_by (by show lamSB (defScope sRight) _ = true; decide +kernel)) rfl (fun _ _ _ _ _ => rfl)
            (fun A' outer' s' H' E' f' c' hr' => by
              refine pe_body2 Wk ?_ ?_ ?_ ?_ ?_ ?_
              · decide
              · exact hr'
              · exact passes_lam2
              · rfl
              · exact pv 7 rfl (.inr (.inr rfl))
              · exact pv 9 rfl (.inr (.inr rfl)))) pa_nil)))
          (pss_cons (ps_expr (pe_bm PySem.F.plainAttrs_list PySem.F.slot_list_append PySem.F.type_list_append mt_append (pv 3) (pa_cons (pe_ansO (t := fun E => tCallBX (spWalkedA K C xL xS xT) E (tCons (tVar 9) (tCons (tVar 7) tNil))) (k := 9) Aw (by decide) hgd hr rfl TB rfl hmT hu (lamS_by (by show lamSB (defScope sRight) _ = true; decide +kernel)) rfl (fun _ _ _ _ _ => rfl)
            (fun A' outer' s' H' E' f' c' hr' => by
              refine pe_drBX WkB (j := 9) ?_ ?_ ?_ ?_ ?_
              · decide
              · exact hr'
              · rfl
              · exact passes_lam2
              · exact pk_cons (pv 9 rfl (.inr (.inr rfl))) (pk_cons (pv 7 rfl (.inr (.inr rfl))) pk_nil))) pa_nil)))
          (pss_cons (ps_if (PW.pt (pw_or (PW.pt (pw_and (pt_cmpR (op_neD hu64) (pv 2) (pe_lst pa_nil) (nomark _)) (pw_and1 (pt_cmpR (op_neD hu64) (pv 3) (pe_lst (pa_cons (pv 2) (pa_cons (pv 2) pa_nil))) (nomark _))))) (pw_or1 (PW.pt (pw_and (pt_cmpR (op_eqD hu64) (pv 2) (pe_lst pa_nil) (nomark _)) (pw_and1 (pt_cmpR (op_neD hu64) (pe_lc (own := [("_law_each", 10)]) (g := gName 10) (tt := tYes) rfl scRight.nd (pi_list (pv 3)) (blkOk_by (own := [("_law_each", 10)]) (N := rightN) (sc := defScope sRight) (by decide +kernel)) (fun _ _ _ _ _ => pg_name (i := 10) scRight.nd rfl (Or.inl rfl)) (fun _ _ _ _ _ => pts_nil) (fun _ _ _ _ _ => pe_ix (r := rIxL K) ix_list (pv 10) pe_int (fun _ _ => rfl))) (pe_lst (pa_cons pe_str (pa_cons pe_str pa_nil))) (nomark _)))))))) pss_never pss_nil)
          (pss_cons (ps_set (i := 8) scRight.nd rfl (.inr rfl) (pe_dr Tg (by decide) hr rfl (pa_cons (pv 0) pa_nil)))
          (pss_cons (ps_set (i := 3) scRight.nd rfl (.inl rfl) (pe_lst (pa_cons (pe_ansO (t := fun E => tCallX (spAskE K xR) E (tCons (tVar 8) tNil)) (k := 9) Aw (by decide) hgd hr rfl TB rfl hmT hu (lamS_by (by show lamSB (defScope sRight) _ = true; decide +kernel)) rfl (fun _ _ _ _ _ => rfl)
            (fun A' outer' s' H' E' f' c' hr' => by
              refine pe_body1 St ?_ ?_ ?_ ?_ ?_
              · decide
              · exact hr'
              · exact passes_lam2
              · rfl
              · exact pv 8 rfl (.inr (.inr rfl)))) pa_nil)))
          (pss_cons (ps_expr (pe_bm PySem.F.plainAttrs_list PySem.F.slot_list_append PySem.F.type_list_append mt_append (pv 3) (pa_cons (pe_ansO (t := fun E => tCallX (spLWkA K C xR xT) E (tCons (tVar 8) tNil)) (k := 9) Aw (by decide) hgd hr rfl TB rfl hmT hu (lamS_by (by show lamSB (defScope sRight) _ = true; decide +kernel)) rfl (fun _ _ _ _ _ => rfl)
            (fun A' outer' s' H' E' f' c' hr' => by
              refine pe_body1 Wl ?_ ?_ ?_ ?_ ?_
              · decide
              · exact hr'
              · exact passes_lam2
              · rfl
              · exact pv 8 rfl (.inr (.inr rfl)))) pa_nil)))
          (pss_one (ps_if (pt_cmpR (op_neD hu64) (pv 3) (pe_op op_rep (pe_lst (pa_cons (pe_lst (pa_cons pe_str (pa_cons (pe_callB (call_reprD hgd hu64) (by rfl) mp (by decide +kernel) (pa_cons (pv 8) pa_nil)) pa_nil))) pa_nil)) pe_int) (nomark _)) pss_never pss_nil)))))))))))
      (pss_cons (ps_set (i := 5) scRight.nd rfl (.inr rfl) (pe_op op_add (pe_op op_add pe_int (pe_dr Va (by decide) hr rfl (pa_cons (pv 0) (pa_cons (pe_op op_pow pe_int pe_int) pa_nil)))) pe_int))
      (pss_cons (ps_if (pt_cmpR (op_neD hu64) (pe_ansO (t := fun E => tCallX (spLWkA K C xR xT) E (tCons (tMkR K C (tCons (tC (.int 2)) (tCons (tTupB tNil) (tCons (tVar 5) tNil)))) tNil)) (k := 9) Aw (by decide) hgd hr rfl TB rfl hmT hu (lamS_by (by show lamSB (defScope sRight) _ = true; decide +kernel)) rfl (fun _ _ _ _ _ => rfl)
            (fun A' outer' s' H' E' f' c' hr' => by
              refine pe_bodyG Wl M mR ?_ ?_ ?_ ?_ ?_ ?_
              · exact hr'
              · exact passes_lam2
              · rfl
              · rfl
              · rfl
              · exact .inr (.inr rfl))) (pe_lst (pa_cons pe_str (pa_cons (pe_callTy call_str_int (by rfl) mst (by decide +kernel) (pa_cons (pv 5) pa_nil)) pa_nil))) (nomark _)) pss_never pss_nil)
      (pss_cons (ps_asg (pe_tup (pa_cons (pe_dr An (by decide) hr rfl (pa_cons (pv 0) (pa_cons (pe_lst (pa_cons pe_int (pa_cons pe_int (pa_cons pe_int (pa_cons pe_int pa_nil))))) pa_nil))) (pa_cons (pe_op op_add pe_int (pe_dr Cs (by decide) hr rfl (pa_cons (pv 0) (pa_cons pe_int pa_nil)))) pa_nil))) (pg_tup rfl (pgs_cons (pg_name (i := 7) scRight.nd rfl (.inr rfl)) (pgs_cons (pg_name (i := 4) scRight.nd rfl (.inl rfl)) pgs_nil))))
      (pss_cons (ps_set (i := 2) scRight.nd rfl (.inl rfl) (pe_ifExp (pt_cmpR op_le (pv 4) pe_int (nomark _)) (pe_lst (pa_cons pe_str (pa_cons (pv 4) pa_nil))) (pe_lst (pa_cons pe_str (pa_cons (pe_callTy call_str_int (by rfl) mst (by decide +kernel) (pa_cons (pv 4) pa_nil)) pa_nil)))))
      (pss_cons (ps_set (i := 6) scRight.nd rfl (.inr rfl) (pe_dr An (by decide) hr rfl (pa_cons (pv 0) (pa_cons (pe_lst (pa_cons (pe_mkR M (hr.mono (by decide)) rfl mR (pa_cons (pv 7) (pa_cons (pe_tupB pa_nil) (pa_cons (pv 4) pa_nil)))) (pa_cons (pe_mkR M (hr.mono (by decide)) rfl mR (pa_cons (pv 7) (pa_cons (pe_tupB pa_nil) (pa_cons (pe_op op_sub pe_int (pv 4)) pa_nil)))) (pa_cons (pe_mkR M (hr.mono (by decide)) rfl mR (pa_cons (pv 7) (pa_cons (pe_tupB (pa_cons (pe_tup (pa_cons (pe_op op_sub (pv 4) pe_int) (pa_cons pe_int pa_nil))) pa_nil)) (pa_cons (pe_op op_sub (pv 4) pe_int) pa_nil)))) pa_nil)))) pa_nil))))
      (pss_one (ps_ret (pe_cmpR (op_eqD hu64) (pe_ansO (t := fun E => tCB rLenX (tCons (tCallX (spLWkA K C xR xT) E (tCons (tVar 6) tNil)) tNil)) (k := 9) Aw (by decide) hgd hr rfl TB rfl hmT hu (lamS_by (by show lamSB (defScope sRight) _ = true; decide +kernel)) rfl (fun _ _ _ _ _ => rfl)
            (fun A' outer' s' H' E' f' c' hr' => by
              refine pe_bodyL Wl ?_ ?_ ?_ ?_ ?_ ?_ ?_
              · exact hr'
              · exact passes_lam2
              · rfl
              · rfl
              · exact ml
              · rfl
              · exact .inr (.inr rfl))) (pv 2) (nomark _))))))))), ?_⟩
    refine sq_forRn (n := 10) (by decide) (fun i σ' H' => ∃ x1 x2 x3 x4 x5 x6 x7 x8 x9 x10, σ' = [some (.ref p), x1, x2, x3, x4, x5, x6, x7, x8, x9, x10] ∧ ButN p H H' ∧ Pail H' p ∧ Tabs T H') ⟨_, _, _, _, _, _, _, _, _, _, rfl, ButN.of (But.refl p H), hp, hT⟩ ?_ ?_ val_c
    · rintro i σ' K0 hi ⟨x1, x2, x3, x4, x5, x6, x7, x8, x9, x10, rfl, bt0, hpk, hTk⟩
      refine seq_by (fun σ' H' => ∃ (pv vv : V) (dp : PyData) (tv : Lamp.T), σ' = [some (.ref p), some (.int (i : Int)), x2, x3, x4, x5, x6, some pv, x8, some vv, x10] ∧ ButN p H H' ∧ Pail H' p ∧ Tabs T H' ∧ Dq K H' pv dp ∧ (okD dp && PyData.strOk dp.shown) = true ∧ Lamp.An K H' vv tv ∧ (∀ x, vv = .str x → OkRow x)) (fun TT hTT => ?_) ?_
      · refine ⟨_, rfl, _, rfl, p, rfl, hpk, fun v d K1 hq1 hd hpk1 c1 => ?_⟩
        obtain ⟨zs0, hz0⟩ := pail_lst hpk
        have hTk1 := tabs_butL hz0 c1 hTk
        refine ⟨(by show 11 ≤ sizeLine; decide), fun l nl => ?_⟩
        have sl := same_of (o := .lst [V.int 2, V.int 3, V.int 5, V.int 7, V.int 2, V.int 1, V.int 4, V.bl true, V.str "2", V.non, v]) nl
        refine ⟨p, l, _, rfl, hpk1.ne nl, upd_same, (by show 0 < 11; decide), (by show 11 < 1000000; decide), hpk1.same sl, fun w K2 hw hpk2 c2 => ?_⟩
        obtain ⟨zs1, hz1⟩ := pail_lst (hpk1.same sl)
        have hTk2 := tabs_butL hz1 c2 (hTk1.ext sl)
        obtain ⟨dp, hdq, hdm⟩ : ∃ dp, Dq K (delH K2 p) w dp ∧ dp ∈ pvals ++ things := by
          simp only [List.mem_cons, List.not_mem_nil, or_false] at hw
          rcases hw with e | e | e | e | e | e | e | e | e | e | e
          · exact ⟨.int 2, by rw [e]; exact .plain (.int _), List.mem_append_left _ (by simp [pvals])⟩
          · exact ⟨.int 3, by rw [e]; exact .plain (.int _), List.mem_append_left _ (by simp [pvals])⟩
          · exact ⟨.int 5, by rw [e]; exact .plain (.int _), List.mem_append_left _ (by simp [pvals])⟩
          · exact ⟨.int 7, by rw [e]; exact .plain (.int _), List.mem_append_left _ (by simp [pvals])⟩
          · exact ⟨.int 2, by rw [e]; exact .plain (.int _), List.mem_append_left _ (by simp [pvals])⟩
          · exact ⟨.int 1, by rw [e]; exact .plain (.int _), List.mem_append_left _ (by simp [pvals])⟩
          · exact ⟨.int 4, by rw [e]; exact .plain (.int _), List.mem_append_left _ (by simp [pvals])⟩
          · exact ⟨.bool true, by rw [e]; exact .plain (.bl _), List.mem_append_left _ (by simp [pvals])⟩
          · exact ⟨.str "2", by rw [e]; exact .plain (.str _), List.mem_append_left _ (by simp [pvals])⟩
          · exact ⟨.none, by rw [e]; exact .plain .non, List.mem_append_left _ (by simp [pvals])⟩
          · exact ⟨d, by rw [e]; exact dq_same ((But.of sl).trans c2).del hq1, List.mem_append_right _ hd⟩
        have okd := all_at pvals_ok hdm
        have b2 : But p K0 K2 := c1.trans ((But.of sl).trans c2)
        refine ⟨_, rfl, p, rfl, hpk2, fun x K3 hx hpk3 c3 => ?_, fun v' d' K3 hq3 hd3 hpk3 c3 => ?_⟩
        · obtain ⟨zs2, hz2⟩ := pail_lst hpk2
          refine ⟨(by show 2 ≤ sizeLine; decide), fun t5 n5 => ⟨t5, [w, .str x], rfl, .inl (.inl upd_same), rfl, _, _, rfl, _, _, rfl, rfl, ?_⟩⟩
          have s5 := same_of (o := .tup [w, V.str x]) n5
          exact hTT _ _ ⟨w, .str x, dp, .str x, rfl, bt0.trans (ButN.of (b2.trans (c3.trans (But.of s5)))), hpk3.same s5, (tabs_butL hz2 c3 hTk2).ext s5, dq_same s5 (dq_same del_sub (dq_same c3.del hdq)), okd, .str x, fun y e => by cases e; exact hx⟩
        · obtain ⟨zs2, hz2⟩ := pail_lst hpk2
          refine ⟨(by show 2 ≤ sizeLine; decide), fun t5 n5 => ⟨t5, [w, v'], rfl, .inl (.inl upd_same), rfl, _, _, rfl, _, _, rfl, rfl, ?_⟩⟩
          have s5 := same_of (o := .tup [w, v']) n5
          refine hTT _ _ ⟨w, v', dp, tOf d', rfl, bt0.trans (ButN.of (b2.trans (c3.trans (But.of s5)))), hpk3.same s5, (tabs_butL hz2 c3 hTk2).ext s5, dq_same s5 (dq_same del_sub (dq_same c3.del hdq)), okd, an_dq (dq_same s5 (dq_same del_sub hq3)), fun y e => ?_⟩
          subst e
          have ed : d' = .str y := by
            cases hq3 with
            | plain h => cases h; rfl
          rw [ed] at hd3
          have := all_at things_short hd3
          exact short_ok (of_decide_eq_true this)
      · rintro σ' K1 ⟨pv', vv, dp, tv, rfl, bt1, hp1, hT1, hdq, okd, han, hrow⟩
        rw [Bool.and_eq_true] at okd
        obtain ⟨okd, oks⟩ := okd
        refine seq_by (fun σ' H' => ∃ l, σ' = [some (.ref p), some (.int (i : Int)), some (.ref l), x3, x4, x5, x6, some pv', x8, some vv, x10] ∧ Same K1 H' ∧
          ((∃ n s, H' l = some (.lst [.str n, .str s]) ∧ PyData.strOk n = true ∧ PyData.strOk s = true ∧ ∀ σ2 H8, ExtN H' H8 → Gives K cA cB cC xL xS xR xT (fun E _ H Q => spWalkedA K C xL xS xT [pv', vv] H Q E) σ2 H8 (fun vs => vs = [.str n, .str s])) ∨
           (H' l = some (.lst []) ∧ ∀ σ2 H8, ExtN H' H8 → Gives K cA cB cC xL xS xR xT (fun E _ H Q => spWalkedA K C xL xS xT [pv', vv] H Q E) σ2 H8 (fun vs => ∃ w, vs = [.str "back", w])))) (fun TT hTT => ?_) ?_
        · refine ⟨_, rfl, _, rfl, pv', vv, dp, tv, rfl, hdq, okd, han, fun e l H' s hl => ?_, fun e => ⟨fun e2 l H' s hl => ?_, fun x ev => ?_⟩⟩
          · exact hTT _ _ ⟨l, rfl, s, .inl ⟨_, _, hl, by decide +kernel, oks, fun σ2 H8 e8 => gives_err xmL (.inl ⟨rfl, rfl, rfl⟩) (dq_ext ((ext_same s).trans e8) hdq) okd fun E Q up => .inl ⟨pv', vv, _, tv, rfl, an_dq (dq_ext ((ext_same s).trans e8) hdq), an_ext ((ext_same s).trans e8) _ _ han, .inl ⟨e, up⟩⟩⟩⟩
          · exact hTT _ _ ⟨l, rfl, s, .inl ⟨_, _, hl, by decide +kernel, by decide +kernel, fun σ2 H8 e8 => gives_err (d := .none) xmS (.inr (.inl ⟨rfl, rfl, rfl⟩)) (.plain .non) (by decide +kernel) fun E Q up => .inl ⟨pv', vv, _, tv, rfl, an_dq (dq_ext ((ext_same s).trans e8) hdq), an_ext ((ext_same s).trans e8) _ _ han, .inr ⟨e, .inl ⟨e2, up⟩⟩⟩⟩⟩
          · have hx := hrow x ev
            refine ⟨hx.len, fun j bad l H' s hl => ?_, fun hs h4 l H' s hl => ?_⟩
            · have h4 := bad.2.1
              have hj : ((j : Int)).natAbs < 10 ^ 40 := by
                have : (4001 : Nat) < 10 ^ 40 := by decide
                omega
              exact hTT _ _ ⟨l, rfl, s, .inl ⟨_, _, hl, by decide +kernel, asc_ok (asc_nS _), fun σ2 H8 e8 => gives_err (d := .int (j : Int)) xmS (.inr (.inl ⟨rfl, rfl, rfl⟩)) (.plain (.int _)) (okD_int hj) fun E Q up => .inl ⟨pv', vv, _, tv, rfl, an_dq (dq_ext ((ext_same s).trans e8) hdq), an_ext ((ext_same s).trans e8) _ _ han, .inr ⟨e, .inr ⟨x, j, ev, bad, up⟩⟩⟩⟩⟩
            · obtain ⟨lv, hlv, hg⟩ : ∃ lv, pv' = .int lv ∧ goodLv lv := by
                have ha := an_dq hdq
                generalize tOf dp = tp at ha e
                cases tp with
                | int i =>
                  cases ha
                  have := of_decide_eq_true (show decide (i = 2 ∨ i = 3 ∨ i = 5 ∨ i = 7) = true from e)
                  exact ⟨i, rfl, this⟩
                | _ => cases e
              refine hTT _ _ ⟨l, rfl, s, .inr ⟨hl, fun σ2 H8 e8 => gives_back fun E Q k => .inr ⟨lv, x, by rw [hlv, ev], hg, hs, h4, fun r ms H9 s9 _ _ _ => k _ _ s9 ⟨_, rfl⟩, fun d ms H9 hri hsum many s9 hd => ?_⟩⟩⟩
              rcases hx.few hs with few | few
              · have := rise_few hri hsum
                omega
              · have := few lv ms hri hsum
                omega
        · rintro σ' K2 ⟨l, rfl, s2, hres⟩
          have bt2 := bt1.trans (ButN.of (But.of s2))
          have hp2 := hp1.same s2
          have hT2 := hT1.ext s2
          obtain ⟨c, hc2, hgiv, hc⟩ : ∃ c : List V → Prop, (∀ vs, c vs → vs.length = 2) ∧ (∀ σ2 H8, ExtN K2 H8 → Gives K cA cB cC xL xS xR xT (fun E _ H Q => spWalkedA K C xL xS xT [pv', vv] H Q E) σ2 H8 c) ∧
              ((∃ n s, K2 l = some (.lst [.str n, .str s]) ∧ PyData.strOk n = true ∧ PyData.strOk s = true ∧ ∀ vs, c vs → vs = [.str n, .str s]) ∨ (K2 l = some (.lst []) ∧ ∀ vs, c vs → ∃ w, vs = [.str "back", w])) := by
            rcases hres with ⟨n, s, h1, h2, h3, h4⟩ | ⟨h1, h4⟩
            · exact ⟨_, fun vs e => by rw [e]; rfl, h4, .inl ⟨n, s, h1, h2, h3, fun vs e => e⟩⟩
            · exact ⟨_, fun vs e => by obtain ⟨w, e⟩ := e; rw [e]; rfl, h4, .inr ⟨h1, fun vs e => e⟩⟩
          refine got_new (c := c) hT2 (fun H8 e8 f Q k => ⟨_, rfl, _, rfl, hgiv [] H8 e8 f Q k⟩) fun g l1 Kb K3 vs1 eb nb e3 hT3 hg3 hl3 hc3 => ?_
          refine got_add (c := c) rfl hg3 hl3 (hc2 _ hc3) nb e3 hT3 (fun H8 e8 f Q k => ⟨_, rfl, _, rfl, hgiv [] H8 (eb.trans (e3.trans e8)) f Q k⟩) (fun K4 l2 vs2 e4 hT4 hg4 hl4 hl4' hc4 => ?_) hc2
          have e24 : ExtN K2 K4 := eb.trans e4
          refine seq_by (fun σ' H' => σ' = [some (.ref p), some (.int (i : Int)), some (.ref l), some (.ref g), x4, x5, x6, some pv', x8, some vv, x10] ∧ ExtN K2 H' ∧ Tabs T H') (fun TT hTT => ?_) ?_
          · rcases hc with ⟨n, s, h1, h2, h3, h4⟩ | ⟨h1, h4⟩
            · obtain ⟨f1, f2, f3, f4, f5⟩ := two_fine h2 h3
              have hv1 := h4 _ hc3
              have hv2 := h4 _ hc4
              subst hv1
              subst hv2
              have hl := e24 _ _ h1 (fun _ z => by cases z)
              refine ⟨_, rfl, (by show 0 ≤ sizeLine; decide), fun e ne => ?_⟩
              have se := same_of (o := .lst []) ne
              refine ⟨twoS n s, .list [], .lst (SqL.of (se _ _ hl)) (.cons (.str _) (.cons (.str _) .nil)), .lst (SqL.of upd_same) .nil, f1, by decide +kernel, ?_⟩
              rw [f5]
              refine ⟨true, rfl, iteT ?_⟩
              refine ⟨_, rfl, _, rfl, _, rfl, (by show 2 ≤ sizeLine; decide), fun u nu => ?_⟩
              have su := same_of (o := .lst [V.ref l, V.ref l]) nu
              have s2' := se.trans su
              have dl : Dp K _ (.ref l) (twoS n s) := .lst (SqL.of (s2' _ _ hl)) (.cons (.str _) (.cons (.str _) .nil))
              refine ⟨.list [twoS n s, twoS n s], .list [twoS n s, twoS n s], .lst (SqL.of (s2' _ _ hg4)) (.cons (.lst (SqL.of (s2' _ _ hl4)) (.cons (.str _) (.cons (.str _) .nil))) (.cons (.lst (SqL.of (s2' _ _ hl4')) (.cons (.str _) (.cons (.str _) .nil))) .nil)), .lst (SqL.of upd_same) (.cons dl (.cons dl .nil)), f3, f3, ?_⟩
              rw [f4]
              refine ⟨false, rfl, iteF ?_⟩
              refine ⟨_, rfl, (by show 0 ≤ sizeLine; decide), fun e2 ne2 => ?_⟩
              have se2 := same_of (o := .lst []) ne2
              refine ⟨twoS n s, .list [], .lst (SqL.of (se2 _ _ (s2' _ _ hl))) (.cons (.str _) (.cons (.str _) .nil)), .lst (SqL.of upd_same) .nil, f1, by decide +kernel, ?_⟩
              rw [f5]
              refine ⟨false, rfl, iteF ?_⟩
              refine iteF ?_
              dsimp only [tNext]
              exact hTT _ _ ⟨rfl, e24.trans (ext_same (s2'.trans se2)), hT4.ext (s2'.trans se2)⟩
            · obtain ⟨w1, hv1⟩ := h4 _ hc3
              obtain ⟨w2, hv2⟩ := h4 _ hc4
              subst hv1
              subst hv2
              have hl := e24 _ _ h1 (fun _ z => by cases z)
              refine ⟨_, rfl, (by show 0 ≤ sizeLine; decide), fun e ne => ?_⟩
              have se := same_of (o := .lst []) ne
              refine ⟨.list [], .list [], .lst (SqL.of (se _ _ hl)) .nil, .lst (SqL.of upd_same) .nil, by decide, by decide, ?_⟩
              refine ⟨false, rfl, iteF ?_⟩
              refine iteF ?_
              refine ⟨_, rfl, (by show 0 ≤ sizeLine; decide), fun e2 ne2 => ?_⟩
              have se2 := same_of (o := .lst []) ne2
              have sc := se.trans se2
              refine ⟨.list [], .list [], .lst (SqL.of (sc _ _ hl)) .nil, .lst (SqL.of upd_same) .nil, by decide, by decide, ?_⟩
              refine ⟨true, rfl, iteT ?_⟩
              refine ⟨_, rfl, g, rfl, ⟨_, SqL.of (sc _ _ hg4)⟩, fun D hD => ?_⟩
              refine lc_genL (us := [l1, l2]) (enc := V.ref) (out := fun _ => some ()) (Rel := fun _ v _ => v = .str "back") (fun _ _ _ _ _ h => h) hD (SqL.of (sc _ _ hg4)) (by show 2 ≤ 9000; decide) ?_ ?_
              · intro j u H5 hu5 s5 R' Z' hR hZ
                refine ⟨rfl, ?_⟩
                have hmem : u = l1 ∨ u = l2 := by
                  have := List.mem_of_getElem? hu5
                  simpa using this
                rcases hmem with e | e
                · rw [e]
                  exact ⟨_, rfl, l1, _, 0, .str "back", rfl, rfl, SqL.of (s5 _ _ (sc _ _ hl4)), rfl, hR _ _ _ rfl (Same.refl _) rfl⟩
                · rw [e]
                  exact ⟨_, rfl, l2, _, 0, .str "back", rfl, rfl, SqL.of (s5 _ _ (sc _ _ hl4')), rfl, hR _ _ _ rfl (Same.refl _) rfl⟩
              · intro H5 ys s5 hD5 hys
                have eys : ys = [.str "back", .str "back"] := by
                  cases hys with
                  | cons a b =>
                    cases b with
                    | cons a2 b2 =>
                      cases b2
                      rw [a, a2]
                subst eys
                refine ⟨(by show 2 ≤ sizeLine; decide), fun m nm => ?_⟩
                have sm := same_of (o := .lst [V.str "back", V.str "back"]) nm
                refine ⟨.list [.str "back", .str "back"], .list [.str "back", .str "back"], .lst (SqL.of (sm _ _ hD5)) (.cons (.str _) (.cons (.str _) .nil)), .lst (SqL.of upd_same) (.cons (.str _) (.cons (.str _) .nil)), by decide +kernel, by decide +kernel, ?_⟩
                refine ⟨false, by decide +kernel, iteF ?_⟩
                dsimp only [tNext]
                exact hTT _ _ ⟨rfl, e24.trans (ext_same (sc.trans (s5.trans sm))), hT4.ext (sc.trans (s5.trans sm))⟩
          · rintro σ' K5 ⟨rfl, e5, hT5⟩
            have bt5 := bt2.trans (ButN.ext e5)
            have hp5 := hp2.ext e5
            refine ⟨_, rfl, p, rfl, hp5, fun v d K6 hq6 hd hp6 c6 => ?_⟩
            obtain ⟨zs, hz⟩ := pail_lst hp5
            have hT6 := tabs_butL hz c6 hT5
            have bt6 := bt5.trans (ButN.of c6)
            have dv : Dq K K6 v d := dq_same del_sub hq6
            have okd' := things_okD hd
            refine got_new (c := fun vs => vs = [.str "NotRound", .str d.shown]) hT6 (fun H8 e8 => gives_err xmR (.inr (.inr (.inl ⟨rfl, rfl, rfl⟩))) (dq_ext e8 dv) okd' fun E Q up => ⟨_, rfl, v, _, rfl, an_dq (dq_ext e8 dv), up⟩) fun g l1 Kb K7 vs1 eb nb e7 hT7 hg7 hl7 hc7 => ?_
            refine got_add (c := fun vs => vs = [.str "NotRound", .str d.shown]) rfl hg7 hl7 (by rw [hc7]; rfl) nb e7 hT7 (fun H8 e8 => gives_err xmR (.inr (.inr (.inl ⟨rfl, rfl, rfl⟩))) (dq_ext (eb.trans (e7.trans e8)) dv) okd' fun E Q up => ⟨_, rfl, .inl ⟨v, _, rfl, an_dq (dq_ext (eb.trans (e7.trans e8)) dv), up⟩⟩) (fun K8 l2 vs2 e8 hT8 hg8 hl8 hl8' hc8 => ?_) (fun vs e => by rw [e]; rfl)
            subst hc7
            subst hc8
            have hrow8 : RowA K8 g "NotRound" d.shown 2 := ⟨[l1, l2], hg8, rfl, fun q hq => by
              simp only [List.mem_cons, List.not_mem_nil, or_false] at hq
              rcases hq with e | e <;> rw [e] <;> assumption⟩
            refine got_if1 (v := v) (d := d) (n := "NotRound") (m := 2) rfl rfl hrow8 (by decide) okd' (dq_ext (eb.trans e8) dv) (all_at things_fine hd) fun K9 s9 => ?_
            have e69 : ExtN K6 K9 := eb.trans (e8.trans (ext_same s9))
            exact ⟨_, _, _, _, _, _, _, _, _, _, rfl, bt6.trans (ButN.ext e69), hp6.ext e69, hT8.ext s9⟩
    · rintro σ' K0 ⟨x1, x2, x3, x4, x5, x6, x7, x8, x9, x10, rfl, bt0, hpk, hTk⟩
      refine ⟨_, rfl, 10, 39, rfl, rfl, ⟨by decide, by decide, by decide⟩, p, _, rfl, by decide, hpk, fun r K1 r0 r1 hp1 c1 => ?_⟩
      obtain ⟨zs0, hz0⟩ := pail_lst hpk
      have hT1 := tabs_butL hz0 c1 hTk
      have bt1 := bt0.trans (ButN.of c1)
      refine ⟨_, _, rfl, rfl, _, _, rfl, rfl, ?_⟩
      dsimp only [gName, List.set]
      obtain ⟨far, efar⟩ : ∃ far : Int, (1 : Int) + r + 4000 = far := ⟨_, rfl⟩
      rw [efar]
      have h39 : ((10 : Int) ^ (39 : Int).toNat) = 1000000000000000000000000000000000000000 := by decide
      have h40 : (10 : Nat) ^ 40 = 10000000000000000000000000000000000000000 := by decide
      have hfar : far.natAbs < 10 ^ 40 := by
        rw [h39] at r1
        rw [h40]
        omega
      have far4 : 4000 < far := by omega
      refine ⟨hT1, fun H8 e8 hT8 f8 => ?_⟩
      have gv : Gives K cA cB cC xL xS xR xT (fun E => tCallX (spLWkA K C xR xT) E (tCons (tMkR K C (tCons (tC (.int 2)) (tCons (tTupB tNil) (tCons (tVar 5) tNil)))) tNil)) [some (.ref p), x1, x2, x3, x4, some (.int far), x6, x7, x8, x9, x10] H8 (fun vs => vs = [.str "TooMany", .str (PyData.int far).shown]) := by
        refine gives_err xmT (.inr (.inr (.inr ⟨rfl, rfl, rfl⟩))) (.plain (.int far)) (okD_int hfar) fun E Q up => ?_
        refine ⟨(by show 0 ≤ sizeLine; decide), fun te o nte hte => ⟨_, rfl, 2, te, far, rfl, [], .inl rfl, ⟨[], .inr ⟨o, upd_same⟩, .nil⟩, (⟨.nil, fun q h => (nomatch h)⟩ : Rising 2 []).w (by decide), fun a H9 s9 na ha => ?_⟩⟩
        have ste := same_of (o := .frz o (.tup [])) nte
        refine .inr ⟨a, 2, far, [], rfl, ⟨⟨te, ha, ⟨[], ⟨o, s9 _ _ upd_same, hte⟩, .nil⟩⟩, .inl rfl, (⟨.nil, fun q h => (nomatch h)⟩ : Rising 2 []).w (by decide)⟩, fun y low high H10 s10 hl hh hle _ _ => ?_, fun d low high H10 hl hh hgt s10 hd => ?_⟩
        · rw [dark_least hl hh] at hle
          unfold absZ at hle
          omega
        · rw [dark_least hl hh] at hd
          have ea : absZ far = far := by unfold absZ; omega
          rw [ea] at hd
          exact up d H10 (ste.trans (s9.trans s10)) hd
      refine gv f8 _ fun l K2 vs e2 t2 hl hc => ?_
      subst hc
      have hT2 := t2 T hT8
      have e12 : ExtN K1 K2 := e8.trans e2
      refine ⟨_, rfl, far, rfl, fits_log hfar, (by show 2 ≤ sizeLine; decide), fun u nu => ?_⟩
      have su := same_of (o := .lst [V.str "TooMany", V.str (nS far)]) nu
      have hu2 := upd_same (H := K2) (a := u) (o := .lst [V.str "TooMany", V.str (nS far)])
      obtain ⟨f1, f2, f3, f4, f5⟩ := two_fine (n := "TooMany") (s := nS far) (by decide +kernel) (asc_ok (asc_nS _))
      refine ⟨twoS "TooMany" (nS far), twoS "TooMany" (nS far), .lst (SqL.of (su _ _ hl)) (.cons (.str _) (.cons (.str _) .nil)), .lst (SqL.of hu2) (.cons (.str _) (.cons (.str _) .nil)), f1, f1, ?_⟩
      rw [f2]
      refine ⟨false, rfl, iteF ?_⟩
      dsimp only [tNext]
      have e13 := e12.trans (ext_same su)
      have hT3 := hT2.ext su
      have hp3 := hp1.ext e13
      have bt3 := bt1.trans (ButN.ext e13)
      show tSeq _ _ _ [some (.ref p), x1, x2, x3, x4, some (.int far), x6, x7, x8, x9, x10] (upd K2 u (.lst [V.str "TooMany", V.str (nS far)]))
      generalize upd K2 u (.lst [V.str "TooMany", V.str (nS far)]) = K3 at *
      -- a long walk
      refine ⟨_, rfl, (by show 4 ≤ sizeLine; decide), fun l4 n4 => ?_⟩
      have s4 := same_of (o := .lst [V.int 2, V.int 3, V.int 5, V.int 7]) n4
      refine ⟨p, l4, _, rfl, hp3.ne n4, upd_same, (by show 0 < 4; decide), (by show 4 < 1000000; decide), hp3.same s4, fun v K4 hv hp4 c4 => ?_⟩
      obtain ⟨lv, rfl, hg⟩ : ∃ lv : Int, v = .int lv ∧ goodLv lv := by
        simp only [List.mem_cons, List.not_mem_nil, or_false] at hv
        rcases hv with e | e | e | e
        · exact ⟨2, e, .inl rfl⟩
        · exact ⟨3, e, .inr (.inl rfl)⟩
        · exact ⟨5, e, .inr (.inr (.inl rfl))⟩
        · exact ⟨7, e, .inr (.inr (.inr rfl))⟩
      obtain ⟨zs3, hz3⟩ := pail_lst (hp3.same s4)
      have hT4 := tabs_butL hz3 c4 (hT3.ext s4)
      have bt4 := bt3.trans (ButN.of ((But.of s4).trans c4))
      refine ⟨_, rfl, p, 6, rfl, by decide, by decide, hp4, fun c K5 c0 c1' hp5 c5 => ⟨_, _, rfl, rfl, (by show 2 ≤ sizeLine; decide), fun t5 n5 => ?_⟩⟩
      obtain ⟨zs4, hz4⟩ := pail_lst hp4
      have hT5 := tabs_butL hz4 c5 hT4
      have bt5 := bt4.trans (ButN.of c5)
      obtain ⟨n, en⟩ : ∃ n : Int, (3998 : Int) + c = n := ⟨_, rfl⟩
      have hn : 3998 ≤ n ∧ n ≤ 4003 := by omega
      refine ⟨t5, [.int lv, .int (3998 + c)], rfl, .inl (.inl upd_same), rfl, _, _, rfl, _, _, rfl, rfl, ?_⟩
      dsimp only [gName, List.set]
      rw [en]
      have s5 := same_of (o := .tup [V.int lv, V.int n]) n5
      have hT6 := hT5.ext s5
      have hp6 := hp5.same s5
      have bt6 := bt5.trans (ButN.of (But.of s5))
      generalize upd K5 t5 (.tup [V.int lv, V.int n]) = K6 at *
      refine seq_by (fun σ' H' => ∃ l, σ' = [some (.ref p), x1, some (.ref l), x3, some (.int n), some (.int far), x6, some (.int lv), x8, x9, x10] ∧ Same K6 H' ∧ ((n ≤ 4000 ∧ H' l = some (.lst [.str "back", .int n])) ∨ (4000 < n ∧ H' l = some (.lst [.str "TooMany", .str (nS n)])))) (fun TT hTT => ?_) ?_
      · by_cases h4 : n ≤ 4000
        · refine ⟨_, rfl, _, _, rfl, rfl, true, (by show V.bl (decide _) = _; rw [decide_eq_true h4]), iteT ?_⟩
          refine ⟨_, rfl, (by show 2 ≤ sizeLine; decide), fun u nu => ?_⟩
          exact hTT _ _ ⟨u, rfl, same_of nu, .inl ⟨h4, upd_same⟩⟩
        · refine ⟨_, rfl, _, _, rfl, rfl, false, (by show V.bl (decide _) = _; rw [decide_eq_false h4]), iteF ?_⟩
          refine ⟨_, rfl, n, rfl, fits_log (by rw [h40]; omega), (by show 2 ≤ sizeLine; decide), fun u nu => ?_⟩
          exact hTT _ _ ⟨u, rfl, same_of nu, .inr ⟨by omega, upd_same⟩⟩
      · rintro σ' K7 ⟨ld, rfl, s7, hdue⟩
        have hT7 := hT6.ext s7
        have hp7 := hp6.same s7
        have bt7 := bt6.trans (ButN.of (But.of s7))
        -- the three rounds
        refine ⟨_, rfl, _, rfl, (by show 0 ≤ sizeLine; decide), fun ta oa nta hta => ⟨_, rfl, lv, ta, n, rfl, [], hg, ⟨[], .inr ⟨oa, upd_same⟩, .nil⟩, (⟨.nil, fun q h => (nomatch h)⟩ : Rising lv []).w (by decide), fun a1 L1 s1 na1 ha1 => ?_⟩⟩
        have sta := same_of (o := .frz oa (.tup [])) nta
        have hR1 : RndB K C L1 a1 lv n [] := ⟨⟨ta, ha1, ⟨[], ⟨oa, s1 _ _ upd_same, hta⟩, .nil⟩⟩, hg, (⟨.nil, fun q h => (nomatch h)⟩ : Rising lv []).w (by decide)⟩
        have sL1 := sta.trans s1
        refine ⟨_, rfl, (by show 0 ≤ sizeLine; decide), fun tb ob ntb htb => ⟨_, rfl, _, _, rfl, rfl, lv, tb, 0 - n, rfl, [], hg, ⟨[], .inr ⟨ob, upd_same⟩, .nil⟩, (⟨.nil, fun q h => (nomatch h)⟩ : Rising lv []).w (by decide), fun a2 L2 s2 na2 ha2 => ?_⟩⟩
        have stb := same_of (o := .frz ob (.tup [])) ntb
        have hR2 : RndB K C L2 a2 lv (0 - n) [] := ⟨⟨tb, ha2, ⟨[], ⟨ob, s2 _ _ upd_same, htb⟩, .nil⟩⟩, hg, (⟨.nil, fun q h => (nomatch h)⟩ : Rising lv []).w (by decide)⟩
        have sL2 := stb.trans s2
        have lv1 : 1 < lv := by rcases hg with e | e | e | e <;> omega
        have hri3 : Rising lv [(n - 1, 1)] := ⟨List.pairwise_singleton _ _, fun q hq => by
          rw [List.mem_singleton.mp hq]
          exact ⟨Int.le_refl 1, lv1⟩⟩
        refine ⟨_, rfl, _, rfl, _, _, rfl, rfl, (by show 2 ≤ sizeLine; decide), fun tp ntp => ⟨(by show 1 ≤ sizeLine; decide), fun tc oc ntc htc => ?_⟩⟩
        have stp := same_of (o := .tup [V.int (n - 1), V.int 1]) ntp
        have stc := same_of (o := .frz oc (.tup [V.ref tp])) ntc
        refine ⟨_, rfl, _, _, rfl, rfl, lv, tc, n - 1, rfl, [(n - 1, 1)], hg, ⟨[tp], .inr ⟨oc, upd_same⟩, .cons (stc _ _ upd_same) .nil⟩, hri3.w (by show 1 ≤ 400; decide), fun a3 L3 s3 na3 ha3 => ?_⟩
        have hR3 : RndB K C L3 a3 lv (n - 1) [(n - 1, 1)] := ⟨⟨tc, ha3, ⟨[tp], ⟨oc, s3 _ _ upd_same, htc⟩, .cons (s3 _ _ (stc _ _ upd_same)) .nil⟩⟩, hg, hri3.w (by show 1 ≤ 400; decide)⟩
        have sL3 := (stp.trans stc).trans s3
        refine ⟨(by show 3 ≤ sizeLine; decide), fun l3 nl3 => ?_⟩
        have sl3 := same_of (o := .lst [V.ref a1, V.ref a2, V.ref a3]) nl3
        have sAll := sL1.trans (sL2.trans (sL3.trans sl3))
        have hp8 := hp7.same sAll
        refine ⟨p, l3, _, rfl, ((hp7.same (sL1.trans (sL2.trans sL3)))).ne nl3, upd_same, (by show 0 < 3; decide), (by show 3 < 1000000; decide), hp8, fun v K8 hv hp9 c8 => ?_⟩
        obtain ⟨zs8, hz8⟩ := pail_lst hp8
        have hT9 := tabs_butL hz8 c8 (hT7.ext sAll)
        have bt9 := bt7.trans (ButN.of ((But.of sAll).trans c8))
        obtain ⟨a, fin, ms, rfl, hRv, hlen⟩ : ∃ a fin ms, v = .ref a ∧ RndB K C K8 a lv fin ms ∧ ∀ low high, Low (placesOf ms fin) low → High (placesOf ms fin) high → leastN ms fin low high = n := by
          simp only [List.mem_cons, List.not_mem_nil, or_false] at hv
          rcases hv with e | e | e
          · exact ⟨a1, n, [], e, rndB_but (hR1.same (sL2.trans (sL3.trans sl3))) hz8 c8, fun low high hl hh => by rw [dark_least hl hh]; unfold absZ; omega⟩
          · exact ⟨a2, 0 - n, [], e, rndB_but (hR2.same (sL3.trans sl3)) hz8 c8, fun low high hl hh => by rw [dark_least hl hh]; unfold absZ; omega⟩
          · exact ⟨a3, n - 1, _, e, rndB_but (hR3.same sl3) hz8 c8, fun low high hl hh => by rw [one_least (by omega) hl hh]; omega⟩
        have hdue8 : (n ≤ 4000 ∧ K8 ld = some (.lst [.str "back", .int n])) ∨ (4000 < n ∧ K8 ld = some (.lst [.str "TooMany", .str (nS n)])) := by
          rcases hdue with ⟨h1, h2⟩ | ⟨h1, h2⟩
          · exact .inl ⟨h1, c8 _ _ (fun z => by
              obtain ⟨b1, b2, b3, hb, _⟩ := hp7
              rw [z, hb] at h2
              cases h2) (sAll _ _ h2)⟩
          · exact .inr ⟨h1, c8 _ _ (fun z => by
              obtain ⟨b1, b2, b3, hb, _⟩ := hp7
              rw [z, hb] at h2
              cases h2) (sAll _ _ h2)⟩
        dsimp only [gName, List.set]
        have hn40 : n.natAbs < 10 ^ 40 := by rw [h40]; omega
        refine ⟨hT9, fun H9 e9 hT9' f9 => ?_⟩
        have hR9 := rndB_ext hRv e9
        rcases hdue8 with ⟨h4, hd8⟩ | ⟨h4, hd8⟩
        · have gv : Gives K cA cB cC xL xS xR xT (fun E => tCB rLenX (tCons (tCallX (spLWkA K C xR xT) E (tCons (tVar 6) tNil)) tNil)) [some (.ref p), x1, some (.ref ld), x3, some (.int n), some (.int far), some (.ref a), some (.int lv), x8, x9, x10] H9 (fun vs => vs = [.str "back", .int n]) := by
            refine gives_back fun E Q k => ⟨_, rfl, .inr ⟨a, lv, fin, ms, rfl, hR9, fun y low high H10 s10 hl hh hle hrow _ => ?_, fun d low high H10 hl hh hgt s10 hd => ?_⟩⟩
            · have e1 := hrow.len
              rw [hlen low high hl hh] at e1
              have e2 : y.length = (tl y).length := TL.len_tl y
              have hbig : (9000 : Nat) ≤ sizeLine := by decide
              refine ⟨y, rfl, by omega, ?_⟩
              rw [show ((y.length : Nat) : Int) = n by omega]
              exact k _ _ s10 rfl
            · rw [hlen low high hl hh] at hgt
              omega
          refine gv f9 _ fun l K9 vs e10 t10 hl hc => ?_
          subst hc
          refine ⟨_, rfl, .list [.str "back", .int n], .list [.str "back", .int n], .lst (SqL.of hl) (.cons (.str _) (.cons (.int _) .nil)), .lst (SqL.of (e10 _ _ (e9 _ _ hd8 (fun _ z => by cases z)) (fun _ z => by cases z))) (.cons (.str _) (.cons (.int _) .nil)), ?_, ?_, ?_⟩
          · show ((PyData.strOk "back" && (true && true)) && decide (max 0 (max 0 0) + 1 ≤ 64)) = true
            rw [show PyData.strOk ("back" : Str) = true by decide +kernel]
            rfl
          · show ((PyData.strOk "back" && (true && true)) && decide (max 0 (max 0 0) + 1 ≤ 64)) = true
            rw [show PyData.strOk ("back" : Str) = true by decide +kernel]
            rfl
          · have ee : PyData.eqv (.list [.str "back", .int n]) (.list [.str "back", .int n]) = true := by
              show ((("back" : Str) == "back") && ((n == n) && true)) = true
              simp
            rw [ee]
            exact q _ (bt9.trans (ButN.ext (e9.trans e10))) (t10 T hT9')
        · have gv : Gives K cA cB cC xL xS xR xT (fun E => tCB rLenX (tCons (tCallX (spLWkA K C xR xT) E (tCons (tVar 6) tNil)) tNil)) [some (.ref p), x1, some (.ref ld), x3, some (.int n), some (.int far), some (.ref a), some (.int lv), x8, x9, x10] H9 (fun vs => vs = [.str "TooMany", .str (PyData.int n).shown]) := by
            refine gives_err xmT (.inr (.inr (.inr ⟨rfl, rfl, rfl⟩))) (.plain (.int n)) (okD_int hn40) fun E Q up => ⟨_, rfl, .inr ⟨a, lv, fin, ms, rfl, hR9, fun y low high H10 s10 hl hh hle hrow _ => ?_, fun d low high H10 hl hh hgt s10 hd => ?_⟩⟩
            · rw [hlen low high hl hh] at hle
              omega
            · rw [hlen low high hl hh] at hd
              exact up d H10 s10 hd
          refine gv f9 _ fun l K9 vs e10 t10 hl hc => ?_
          subst hc
          obtain ⟨f1, f2, f3, f4, f5⟩ := two_fine (n := "TooMany") (s := nS n) (by decide +kernel) (asc_ok (asc_nS _))
          refine ⟨_, rfl, twoS "TooMany" (nS n), twoS "TooMany" (nS n), .lst (SqL.of hl) (.cons (.str _) (.cons (.str _) .nil)), .lst (SqL.of (e10 _ _ (e9 _ _ hd8 (fun _ z => by cases z)) (fun _ z => by cases z))) (.cons (.str _) (.cons (.str _) .nil)), f1, f1, ?_⟩
          rw [f2]
          exact q _ (bt9.trans (ButN.ext (e9.trans e10))) (t10 T hT9')

end
end Lamp
set_option Elab.async false
set_option linter.all false
set_option maxRecDepth 100000
set_option maxHeartbeats 2000000
namespace Lamp
open PySem PySem.Spec PyProof.Rows L2 LamX
section
variable {P : Program} {w : World} {K : PySem.W.Frag} {mg : Str → Option Value} {base : Heap}
theorem scLaw : FnScope ["_law_script", "_law_turn"] ["_law_script"] (defScope sLaw) := ⟨rfl, rfl, rfl, by decide +kernel, rfl, by decide +kernel, by decide +kernel⟩
def spLaw (K : PySem.W.Frag) (T : List (Addr × Str)) : Sp := fun vs H Q _ => ∃ (a : Addr) (ns : List Int), vs = [.ref a] ∧ SqL K H a (ns.map V.int) ∧ ns.length ≤ 63 ∧ (∀ z ∈ ns, Builtin.Int.intBits z ≤ 1048576) ∧ Tabs T H ∧ ∀ H', Q (.bl true) H'
theorem ok_law {f fR : Addr} {fd fdR : FuncData} {T : List (Addr × Str)} (F : Fun K "law" "law" sLaw f fd)
    (GR : FnG P w K mg base 12 fR fdR ["_law_pail"] (spRight K T)) (bR : Binds K fdR ["_law_pail"] []) (mR : mg "_law_right" = some (.ref fR)) (kR : PySem.W.keepIn K (.ref fR) = true)
    (Bg : Dr P w K mg base (spBegun K) "_law_begun" ["_law_script", "_law_turn"] 1)
    (mr : mg "range" = none) (ml : mg "len" = none) (mall : mg "all" = none) (mmax : mg "max" = none) (mmin : mg "min" = none) :
    FnG P w K mg base 13 f fd ["_law_script"] (spLaw K T) := by
  refine okG F scLaw (fun vs H Q E h => ?_) (fun cdv Ar outer s H vs Q E hgd hr h => ?_)
  · obtain ⟨a, ns, rfl, _⟩ := h
    rfl
  · obtain ⟨a, ns, rfl, hS1, hlen, hbits, hT, q⟩ := h
    refine ⟨_, pss_one (ps_ret (pe_callB (cr_all rfl) (by rfl) mall (by decide +kernel) (pa_cons (pe_lc (own := [("_law_turn", 1)]) (g := gName 1) (tt := tYes) rfl scLaw.nd
          (pi_range1 rfl mr (pa_cons (pe_callB (call_max2 rfl) (by rfl) mmax (by decide +kernel) (pa_cons pe_int (pa_cons (pe_callB (call_min2 rfl) (by rfl) mmin (by decide +kernel) (pa_cons (pe_callB call_len_seq (by rfl) ml PySem.boot_len (pa_cons (pv 0) pa_nil)) (pa_cons pe_int pa_nil))) pa_nil))) pa_nil))
          (blkOk_by (own := [("_law_turn", 1)]) (N := ["_law_script", "_law_turn"]) (sc := defScope sLaw) (by decide +kernel)) (fun _ _ _ _ _ => pg_name (i := 1) scLaw.nd rfl (Or.inl rfl)) (fun _ _ _ _ _ => pts_nil)
          (fun _ _ _ _ _ => pe_callG GR hgd hr rfl mR kR bR (pa_cons (pe_dr Bg (by decide) hr rfl (pa_cons (pv 0) (pa_cons (pv 1) pa_nil))) pa_nil))) pa_nil))), ?_⟩
    refine ⟨.ref a, rfl, a, _, rfl, .inl hS1, ?_⟩
    refine ⟨_, _, rfl, _, _, rfl, ?_⟩
    have hlenV : ((ns.map V.int).length : Nat) = ns.length := List.length_map _
    rw [hlenV]
    generalize hm : (if (if (6 : Int) < ((ns.length : Nat) : Int) then (6 : Int) else ((ns.length : Nat) : Int)) > 2 then (if (6 : Int) < ((ns.length : Nat) : Int) then (6 : Int) else ((ns.length : Nat) : Int)) else 2) = m
    have hm2 : 2 ≤ m ∧ m ≤ 6 := by
      rw [← hm]
      split
      · split <;> omega
      · omega
    obtain ⟨n, en⟩ : ∃ n : Nat, m = (n : Int) := ⟨m.toNat, by omega⟩
    subst en
    refine ⟨(n : Int), rfl, by omega, by omega, fun D hD => ?_⟩
    have e0 : ((n : Int)).toNat = n := by omega
    rw [e0]
    refine lc_range (lo := 0) (n := n) (fun i H' => ExtN H H' ∧ Tabs T H' ∧ H' D = some (.lst ((List.replicate i true).map V.bl))) ⟨ext_same (same_of hD), hT.ext (same_of hD), upd_same⟩ (fun i H' hi z => ?_) (fun H' z => ?_)
    · obtain ⟨sb, hTb, hlD⟩ := z
      have e1 : (0 : Int) + (i : Int) = (i : Int) := Int.zero_add _
      rw [e1]
      refine ⟨rfl, ?_⟩
      refine ⟨_, rfl, _, rfl, a, ns, (i : Int), rfl, sqL_ext sb hS1, hlen, hbits, by omega, by omega, fun H2 p s2 np hp => ⟨p, rfl, hp, hTb.ext s2, fun H3 bt hT3 => ?_⟩⟩
      have pD : D ≠ p := fun e => by rw [e, np] at hlD; cases hlD
      have atD : H3 D = some (.lst ((List.replicate i true).map V.bl)) := by
        have h := bt D (.lst ((List.replicate i true).map V.bl)) (by rw [delH_ne pD]; exact s2 _ _ hlD) (fun _ z => by cases z)
        rw [delH_ne pD] at h
        exact h
      refine ⟨_, atD, ?_, fun b o e n => ?_, tabs_upd atD hT3, ?_⟩
      · rw [List.length_map, List.length_replicate]
        exact small1000 (by omega)
      · have nb : b ≠ D := fun z => by rw [z, hD] at e; cases e
        have hb' := sb b o e n
        have npb : b ≠ p := fun z => by
          rw [z, np] at hb'
          cases hb'
        have h := bt b o (by rw [delH_ne npb]; exact s2 _ _ hb') n
        rw [delH_ne npb] at h
        rw [upd_ne nb]
        exact h
      · rw [upd_same, List.replicate_succ', List.map_append]
        rfl
    · refine ⟨D, List.replicate n true, rfl, SqL.of z.2.2, ?_⟩
      have e : (List.replicate n true).all id = true := by
        rw [List.all_eq_true]
        intro b hb
        exact (List.eq_of_mem_replicate hb)
      rw [e]
      exact q _
end
end Lamp
set_option Elab.async false
set_option linter.all false
set_option maxRecDepth 100000
set_option maxHeartbeats 2000000
namespace Lamp
open PySem PySem.Spec PyProof.Rows L2
/-! what the top has written of exception classes, as one answer -/
def tailOf : Nat → List Value
  | 0 => [.type "ValueError", .type "Exception", .type "BaseException", .type "object"]
  | 1 => [.type "LookupError", .type "Exception", .type "BaseException", .type "object"]
  | _ => [.type "ArithmeticError", .type "Exception", .type "BaseException", .type "object"]
def newOf : Nat → String
  | 0 => "ValueError.__new__"
  | 1 => "LookupError.__new__"
  | _ => "ArithmeticError.__new__"
def ecB (K : PySem.W.Frag) (C : Addr) (b : Nat) : Bool :=
  PySem.W.excInitIn K C (tailOf b) (newOf b) && (PySem.W.excOver K C (tailOf b) && (decide (PySem.W.findIn K (.ref C) "__setattr__" = some (some (.builtin "object.__setattr__"))) && (decide (PySem.W.findIn K (.ref C) "__getattribute__" = some (some (.builtin "BaseException.__getattribute__"))) &&
    (decide (PySem.W.findIn K (.ref C) "__getattr__" = some none) && (decide (PySem.W.subIn K (.ref C) (.type "BaseException") = some true) && (PySem.W.hasDictIn K C && (PySem.W.keepIn K (.ref C) &&
      (decide (PySem.W.findIn K (.ref C) "__class__" = some (some (.builtin "object.__class__"))) && decide (PySem.W.mroIn K C (.type "object") = some true)))))))))
theorem ecB_ok {K : PySem.W.Frag} {C : Addr} : ∀ {b : Nat}, ecB K C b = true → ∃ (B newId initId : String) (tail : List Value), EC K C B newId initId tail ∧ newId = newOf b ∧ tail = tailOf b := fun {b} h => by
  unfold ecB at h
  simp only [Bool.and_eq_true, decide_eq_true_eq] at h
  obtain ⟨h1, h2, h3, h4, h5, h6, h7, h8, h9, h10⟩ := h
  match b, h1, h2 with
  | 0, h1, h2 => exact ⟨_, _, _, _, ⟨PySem.F.excBase_ValueError, PySem.F.store_ValueError, h1, h2, h3, h4, h5, h6, h7, h8, h9, h10⟩, rfl, rfl⟩
  | 1, h1, h2 => exact ⟨_, _, _, _, ⟨PySem.F.excBase_LookupError, PySem.F.store_LookupError, h1, h2, h3, h4, h5, h6, h7, h8, h9, h10⟩, rfl, rfl⟩
  | b + 2, h1, h2 => exact ⟨_, _, _, _, ⟨PySem.F.excBase_ArithmeticError, PySem.F.store_ArithmeticError, h1, h2, h3, h4, h5, h6, h7, h8, h9, h10⟩, rfl, rfl⟩
/-- an exception class with an __init__ at f -/
def initB (K : PySem.W.Frag) (C f : Addr) (nm : Str) : Bool :=
  decide (PySem.W.findIn K (.ref C) nm = some none) && (decide (PySem.W.findIn K (.ref C) "__init__" = some (some (.ref f))) && decide (PySem.W.typeIn K (.ref f) = some (.type "function")))
def metaB (K : PySem.W.Frag) : Bool := decide (PySem.W.specialIn K (.builtin "object.__class__") "__get__" = some (some (.builtin "getset_descriptor.__get__"))) && decide (PySem.W.takesIn K (.builtin "object.__class__") = some true)
theorem metaB_ok {K : PySem.W.Frag} (h : metaB K = true) : ClsG K := by
  unfold metaB at h
  rw [Bool.and_eq_true] at h
  exact ⟨of_decide_eq_true h.1, of_decide_eq_true h.2⟩
theorem xc_mk {P : Program} {w : World} {K : PySem.W.Frag} {mg : Str → Option Value} {C fI : Addr} {x f : Str} {b : Nat} {fd : FuncData} (h1 : ecB K C b = true) (h2 : initB K C fI f = true) (hm : mg x = some (.ref C)) (F1 : ∀ base : Heap, FnOk P w K mg base CX0 1 fI fd ["self", f] (spInit K C f))
    (p1 : ∀ (s : Shared) (v u : Value), K.In s.heap → BindsTo s fd ⟨[v, u], []⟩ [("self", v), (f, u)]) (p2 : ∀ (s : Shared) (v u : Value), K.In s.heap → BindsTo s fd ⟨[v], [(f, u)]⟩ [("self", v), (f, u)]) : XC P w K mg C x f := by
  obtain ⟨B, n, i, t, T, _⟩ := ecB_ok h1
  unfold initB at h2
  simp only [Bool.and_eq_true, decide_eq_true_eq] at h2
  obtain ⟨g1, g2, g3⟩ := h2
  refine ⟨⟨B, n, i, t, T⟩, hm, g1, fI, fd, g2, g3, ?_, F1, p1, p2⟩
  unfold PySem.W.takerIn
  rw [g1]
  rfl
theorem xn_mk {K : PySem.W.Frag} {mg : Str → Option Value} {C : Addr} {x : Str} {b : Nat} (h1 : ecB K C b = true) (h2 : PySem.W.excIn K C (tailOf b) (newOf b) = true) (hm : mg x = some (.ref C)) : XN K mg C x := by
  obtain ⟨B, n, i, t, T, e1, e2⟩ := ecB_ok h1
  subst e1 e2
  exact ⟨⟨B, _, i, _, T, h2⟩, hm⟩
end Lamp
set_option Elab.async false
set_option linter.all false
set_option maxRecDepth 100000
set_option maxHeartbeats 2000000
namespace Lamp
open PySem PySem.Spec PyProof.Rows L2 LamX
abbrev sXL : Stmt := inClass (top 3) 0
abbrev sXS : Stmt := inClass (top 7) 0
abbrev sXR : Stmt := inClass (top 5) 0
abbrev sXT : Stmt := inClass (top 10) 0
theorem scXL : FnScope ["self", "given"] ["self", "given"] (defScope sXL) := ⟨rfl, rfl, rfl, by decide +kernel, rfl, by decide +kernel, by decide +kernel⟩
theorem scXS : FnScope ["self", "index"] ["self", "index"] (defScope sXS) := ⟨rfl, rfl, rfl, by decide +kernel, rfl, by decide +kernel, by decide +kernel⟩
theorem scXR : FnScope ["self", "given"] ["self", "given"] (defScope sXR) := ⟨rfl, rfl, rfl, by decide +kernel, rfl, by decide +kernel, by decide +kernel⟩
theorem scXT : FnScope ["self", "given"] ["self", "given"] (defScope sXT) := ⟨rfl, rfl, rfl, by decide +kernel, rfl, by decide +kernel, by decide +kernel⟩
abbrev sAns : Stmt := top 49
theorem scAns : FnScope ansN ["_law_call_here"] (defScope sAns) := ⟨rfl, rfl, rfl, by decide +kernel, rfl, by decide +kernel, by decide +kernel⟩
theorem ans_body : ∃ (j1 j2 : Nat) (p1 p2 p3 p4 p5 p6 p7 p8 p9 p10 p11 p12 p13 p14 p15 p16 p17 p18 : Pos), defBody sAns = [.Try [.Assign [.Name "_law_got" p1] (.Call (.Name "_law_call_here" p2) [] [] p3) p4] [.ExceptHandler (some (.Tuple [.Name "WrongValue" p5, .Name "WrongName" p6, .Name "NotPossible" p7] j1 p8)) (some "_law_e") [.Return (some (.Call (.Name "_law_sort" p9) [.Name "_law_e" p10] [] p11)) p12] p13] [] [] p14,
      .Return (some (.List [.Constant (.str "back") j2 p15, .Name "_law_got" p16] p17)) p18] := ⟨_, _, _, _, _, _, _, _, _, _, _, _, _, _, _, _, _, _, _, _, rfl⟩
theorem ansO_mk {P : Program} {w : World} {K : PySem.W.Frag} {mg : Str → Option Value} {base : Heap} {cA cB cC g : Addr} {fd : FuncData} {sp : SpO} {k : Nat} (S : SortO P w K mg base sp k) (mA : mg "WrongValue" = some (.ref cA)) (mB : mg "WrongName" = some (.ref cB)) (mC : mg "NotPossible" = some (.ref cC))
    (F : Fun K "_law_answer" "_law_answer" sAns g fd) (b : Binds K fd ["_law_call_here"] []) (m : mg "_law_answer" = some (.ref g)) (kp : PySem.W.keepIn K (.ref g) = true) : AnsO P w K mg base cA cB cC sp k := by
  obtain ⟨j1, j2, p1, p2, p3, p4, p5, p6, p7, p8, p9, p10, p11, p12, p13, p14, p15, p16, p17, p18, hb⟩ := ans_body
  exact ⟨S, mA, mB, mC, g, sAns, fd, j1, j2, p1, p2, p3, p4, p5, p6, p7, p8, p9, p10, p11, p12, p13, p14, p15, p16, p17, p18, F, b, m, kp, scAns, ⟨rfl, rfl, rfl⟩, ⟨rfl, rfl, rfl, rfl⟩, hb⟩
/-- of one kind of exception -/
def ex1B (K : PySem.W.Frag) (cA cB cC x : Addr) : Bool := decide (PySem.W.exmAny K (.ref x) [.ref cA, .ref cB, .ref cC] = some true) && decide (PySem.W.typeIn K (.ref x) = some (.type "type"))
theorem ex1B_ok {K : PySem.W.Frag} {cA cB cC x : Addr} (h : ex1B K cA cB cC x = true) : PySem.W.exmAny K (.ref x) [.ref cA, .ref cB, .ref cC] = some true ∧ PySem.W.typeIn K (.ref x) = some (.type "type") := by
  unfold ex1B at h
  simp only [Bool.and_eq_true, decide_eq_true_eq] at h
  exact h
end Lamp
set_option Elab.async false
set_option linter.all false
set_option maxRecDepth 100000
set_option maxHeartbeats 2000000
namespace Lamp
open PySem PySem.Spec PyProof.Rows L2 ClX LamX
def noneB (K : PySem.W.Frag) : Bool := (["int", "divmod", "len", "abs", "range", "tuple", "sorted", "list", "isinstance", "bool", "str", "enumerate", "repr", "all", "max", "min", "sum", "dict", "ValueError", "LookupError", "ArithmeticError"] : List Str).all fun n => decide (PySem.W.nsIn K mainGlobals n = some none)
theorem none_of {K : PySem.W.Frag} (h : noneB K = true) {n : Str} (hn : n ∈ (["int", "divmod", "len", "abs", "range", "tuple", "sorted", "list", "isinstance", "bool", "str", "enumerate", "repr", "all", "max", "min", "sum", "dict", "ValueError", "LookupError", "ArithmeticError"] : List Str)) : PySem.W.nsIn K mainGlobals n = some none := by
  unfold noneB at h
  rw [List.all_eq_true] at h
  exact of_decide_eq_true (h n hn)
theorem one_of {α : Type} : ∀ {l : List α}, l.length = 1 → ∃ a, l = [a]
  | [a], _ => ⟨a, rfl⟩
theorem two_of {α : Type} : ∀ {l : List α}, l.length = 2 → ∃ a b, l = [a, b]
  | [a, b], _ => ⟨a, b, rfl⟩
def clsB (K : PySem.W.Frag) (C : Addr) : Bool := PySem.W.plainGet K C Str.empty && (PySem.W.hasDictIn K C && (PySem.W.plainOver K C && (decide (PySem.W.findIn K (.ref C) "__setattr__" = some (some (.builtin "object.__setattr__"))) &&
  (decide (PySem.W.findIn K (.ref C) "_levels" = some none) && (decide (PySem.W.findIn K (.ref C) "_lamps" = some none) && (decide (PySem.W.findIn K (.ref C) "_end" = some none) && (PySem.W.makesIn K C && PySem.W.keepIn K (.ref C))))))))
def eqB (K : PySem.W.Frag) (C : Addr) : Bool := decide (PySem.W.findIn K (.ref C) "__ne__" = some (some (.builtin "object.__ne__"))) && (decide (PySem.W.mroIn K C (.type "object") = some true) && (decide (PySem.W.findIn K (.ref C) "__class__" = some (some (.builtin "object.__class__"))) &&
  (decide (PySem.W.specialIn K (.builtin "object.__class__") "__get__" = some (some (.builtin "getset_descriptor.__get__"))) && (decide (PySem.W.takesIn K (.builtin "object.__class__") = some true) && decide (PySem.W.kitOne K (.ref C) (.ref C) = some true)))))
theorem eqB_ok {K : PySem.W.Frag} {C : Addr} (h : eqB K C = true) : PySem.W.findIn K (.ref C) "__ne__" = some (some (.builtin "object.__ne__")) ∧ PySem.W.mroIn K C (.type "object") = some true ∧ IsR K C := by
  unfold eqB at h
  simp only [Bool.and_eq_true, decide_eq_true_eq] at h
  obtain ⟨h1, h2, h3, h4, h5, h6⟩ := h
  exact ⟨h1, h2, ⟨h3, h4, h5, h2, h6⟩⟩
theorem clsB_ok {K : PySem.W.Frag} {C : Addr} (h : clsB K C = true) : RCls K C ∧ PySem.W.makesIn K C = true ∧ PySem.W.keepIn K (.ref C) = true := by
  unfold clsB at h
  simp only [Bool.and_eq_true, decide_eq_true_eq] at h
  obtain ⟨h1, h2, h3, h4, h5, h6, h7, h8, h9⟩ := h
  exact ⟨⟨⟨h1, h2, h3, h4⟩, h5, h6, h7⟩, h8, h9⟩
theorem all_mk {P : Program} {w : World} {K : PySem.W.Frag} {mg : Str → Option Value} {fa : Addr} {hh : Heap} (X : K.In hh) (G : hh.Ns mainGlobals mg) (hfa : mg "law" = some (.ref fa)) {aS cA cB cC xL xS xR xT : Addr} {odS : Option Addr} {tS0 tS1 tS2 tT : Tok} {nS0 : Nat} {slS : Array (Option Value)} {C aL : Addr} {odL : Option Addr} {tL0 tL1 tL2 tL3 tM : Tok} {nL0 : Nat} {slL : Array (Option Value)} {fII : Addr} {oc_fII kV_fII dc_fII pm_fII cd_fII ct_fII : Value} {od_fII an_fII : Option Addr} {sl_fII : Array (Option Value)} {fIL : Addr} {oc_fIL kV_fIL dc_fIL pm_fIL cd_fIL ct_fIL : Value} {od_fIL an_fIL : Option Addr} {sl_fIL : Array (Option Value)} {fIM : Addr} {oc_fIM kV_fIM dc_fIM pm_fIM cd_fIM ct_fIM : Value} {od_fIM an_fIM : Option Addr} {sl_fIM : Array (Option Value)} {fWL : Addr} {oc_fWL kV_fWL dc_fWL pm_fWL cd_fWL ct_fWL : Value} {od_fWL an_fWL : Option Addr} {sl_fWL : Array (Option Value)} {fCL : Addr} {oc_fCL kV_fCL dc_fCL pm_fCL cd_fCL ct_fCL : Value} {od_fCL an_fCL : Option Addr} {sl_fCL : Array (Option Value)} {fCR : Addr} {oc_fCR kV_fCR dc_fCR pm_fCR cd_fCR ct_fCR : Value} {od_fCR an_fCR : Option Addr} {sl_fCR : Array (Option Value)} {fCM : Addr} {oc_fCM kV_fCM dc_fCM pm_fCM cd_fCM ct_fCM : Value} {od_fCM an_fCM : Option Addr} {sl_fCM : Array (Option Value)} {fRo : Addr} {oc_fRo kV_fRo dc_fRo pm_fRo cd_fRo ct_fRo : Value} {od_fRo an_fRo : Option Addr} {sl_fRo : Array (Option Value)} {fTo : Addr} {oc_fTo kV_fTo dc_fTo pm_fTo cd_fTo ct_fTo : Value} {od_fTo an_fTo : Option Addr} {sl_fTo : Array (Option Value)} {fWs : Addr} {oc_fWs kV_fWs dc_fWs pm_fWs cd_fWs ct_fWs : Value} {od_fWs an_fWs : Option Addr} {sl_fWs : Array (Option Value)} {fWk : Addr} {oc_fWk kV_fWk dc_fWk pm_fWk cd_fWk ct_fWk : Value} {od_fWk an_fWk : Option Addr} {sl_fWk : Array (Option Value)} {fRe : Addr} {oc_fRe kV_fRe dc_fRe pm_fRe cd_fRe ct_fRe : Value} {od_fRe an_fRe : Option Addr} {sl_fRe : Array (Option Value)} {fLn : Addr} {oc_fLn kV_fLn dc_fLn pm_fLn cd_fLn ct_fLn : Value} {od_fLn an_fLn : Option Addr} {sl_fLn : Array (Option Value)} {fSt : Addr} {oc_fSt kV_fSt dc_fSt pm_fSt cd_fSt ct_fSt : Value} {od_fSt an_fSt : Option Addr} {sl_fSt : Array (Option Value)} {fRb : Addr} {oc_fRb kV_fRb dc_fRb pm_fRb cd_fRb ct_fRb : Value} {od_fRb an_fRb : Option Addr} {sl_fRb : Array (Option Value)} {fWl : Addr} {oc_fWl kV_fWl dc_fWl pm_fWl cd_fWl ct_fWl : Value} {od_fWl an_fWl : Option Addr} {sl_fWl : Array (Option Value)} {fBe : Addr} {oc_fBe kV_fBe dc_fBe pm_fBe cd_fBe ct_fBe : Value} {od_fBe an_fBe : Option Addr} {sl_fBe : Array (Option Value)} {fCa : Addr} {oc_fCa kV_fCa dc_fCa pm_fCa cd_fCa ct_fCa : Value} {od_fCa an_fCa : Option Addr} {sl_fCa : Array (Option Value)} {fAn : Addr} {oc_fAn kV_fAn dc_fAn pm_fAn cd_fAn ct_fAn : Value} {od_fAn an_fAn : Option Addr} {sl_fAn : Array (Option Value)} {fVa : Addr} {oc_fVa kV_fVa dc_fVa pm_fVa cd_fVa ct_fVa : Value} {od_fVa an_fVa : Option Addr} {sl_fVa : Array (Option Value)} {fWh : Addr} {oc_fWh kV_fWh dc_fWh pm_fWh cd_fWh ct_fWh : Value} {od_fWh an_fWh : Option Addr} {sl_fWh : Array (Option Value)} {fTg : Addr} {oc_fTg kV_fTg dc_fTg pm_fTg cd_fTg ct_fTg : Value} {od_fTg an_fTg : Option Addr} {sl_fTg : Array (Option Value)} {fIv : Addr} {oc_fIv kV_fIv dc_fIv pm_fIv cd_fIv ct_fIv : Value} {od_fIv an_fIv : Option Addr} {sl_fIv : Array (Option Value)} {fLw : Addr} {oc_fLw kV_fLw dc_fLw pm_fLw cd_fLw ct_fLw : Value} {od_fLw an_fLw : Option Addr} {sl_fLw : Array (Option Value)} {fSo : Addr} {oc_fSo kV_fSo dc_fSo pm_fSo cd_fSo ct_fSo : Value} {od_fSo an_fSo : Option Addr} {sl_fSo : Array (Option Value)} {fAw : Addr} {oc_fAw kV_fAw dc_fAw pm_fAw cd_fAw ct_fAw : Value} {od_fAw an_fAw : Option Addr} {sl_fAw : Array (Option Value)} {fDu : Addr} {oc_fDu kV_fDu dc_fDu pm_fDu cd_fDu ct_fDu : Value} {od_fDu an_fDu : Option Addr} {sl_fDu : Array (Option Value)} {fSm : Addr} {oc_fSm kV_fSm dc_fSm pm_fSm cd_fSm ct_fSm : Value} {od_fSm an_fSm : Option Addr} {sl_fSm : Array (Option Value)} {fRg : Addr} {oc_fRg kV_fRg dc_fRg pm_fRg cd_fRg ct_fRg : Value} {od_fRg an_fRg : Option Addr} {sl_fRg : Array (Option Value)} {fLaw : Addr} {oc_fLaw kV_fLaw dc_fLaw pm_fLaw cd_fLaw ct_fLaw : Value} {od_fLaw an_fLaw : Option Addr} {sl_fLaw : Array (Option Value)} {gIn : Addr} {oc_gIn kV_gIn dc_gIn pm_gIn cd_gIn ct_gIn : Value} {od_gIn an_gIn : Option Addr} {sl_gIn : Array (Option Value)} {gEq : Addr} {oc_gEq kV_gEq dc_gEq pm_gEq cd_gEq ct_gEq : Value} {od_gEq an_gEq : Option Addr} {sl_gEq : Array (Option Value)} {iL : Addr} {oc_iL kV_iL dc_iL pm_iL cd_iL ct_iL : Value} {od_iL an_iL : Option Addr} {sl_iL : Array (Option Value)} {iS : Addr} {oc_iS kV_iS dc_iS pm_iS cd_iS ct_iS : Value} {od_iS an_iS : Option Addr} {sl_iS : Array (Option Value)} {iR : Addr} {oc_iR kV_iR dc_iR pm_iR cd_iR ct_iR : Value} {od_iR an_iR : Option Addr} {sl_iR : Array (Option Value)} {iT : Addr} {oc_iT kV_iT dc_iT pm_iT cd_iT ct_iT : Value} {od_iT an_iT : Option Addr} {sl_iT : Array (Option Value)} {gLv : Addr} {oc_gLv kV_gLv dc_gLv pm_gLv cd_gLv ct_gLv : Value} {od_gLv an_gLv : Option Addr} {sl_gLv : Array (Option Value)} {p_gLv : Addr} {rest_gLv : List Value} {gLa : Addr} {oc_gLa kV_gLa dc_gLa pm_gLa cd_gLa ct_gLa : Value} {od_gLa an_gLa : Option Addr} {sl_gLa : Array (Option Value)} {p_gLa : Addr} {rest_gLa : List Value} {gEn : Addr} {oc_gEn kV_gEn dc_gEn pm_gEn cd_gEn ct_gEn : Value} {od_gEn an_gEn : Option Addr} {sl_gEn : Array (Option Value)} {p_gEn : Addr} {rest_gEn : List Value}
    (nC : PySem.W.nsIn K mainGlobals "Round" = some (some (.ref C)))
    (n_cA : PySem.W.nsIn K mainGlobals "WrongValue" = some (some (.ref cA)))
    (n_cB : PySem.W.nsIn K mainGlobals "WrongName" = some (some (.ref cB)))
    (n_cC : PySem.W.nsIn K mainGlobals "NotPossible" = some (some (.ref cC)))
    (n_xL : PySem.W.nsIn K mainGlobals "InvalidLevels" = some (some (.ref xL)))
    (n_xS : PySem.W.nsIn K mainGlobals "InvalidSteps" = some (some (.ref xS)))
    (n_xR : PySem.W.nsIn K mainGlobals "NotRound" = some (some (.ref xR)))
    (n_xT : PySem.W.nsIn K mainGlobals "TooMany" = some (some (.ref xT)))
    (nf_fII : PySem.W.nsIn K mainGlobals "is_integer" = some (some (.ref fII)))
    (lf_fII : K.lookup fII = some ⟨oc_fII, od_fII, .func (PySem.W.fnOf "is_integer" "is_integer" (defArgs sIsInt) (defBody sIsInt) (defScope sIsInt) .none kV_fII dc_fII pm_fII an_fII cd_fII ct_fII), sl_fII⟩)
    (cf_fII : PySem.W.codeIn K cd_fII "is_integer" = true)
    (kf_fII : PySem.W.keepIn K (.ref fII) = true)
    (nf_fIL : PySem.W.nsIn K mainGlobals "is_levels" = some (some (.ref fIL)))
    (lf_fIL : K.lookup fIL = some ⟨oc_fIL, od_fIL, .func (PySem.W.fnOf "is_levels" "is_levels" (defArgs sIsLevels) (defBody sIsLevels) (defScope sIsLevels) .none kV_fIL dc_fIL pm_fIL an_fIL cd_fIL ct_fIL), sl_fIL⟩)
    (cf_fIL : PySem.W.codeIn K cd_fIL "is_levels" = true)
    (kf_fIL : PySem.W.keepIn K (.ref fIL) = true)
    (nf_fIM : PySem.W.nsIn K mainGlobals "is_lamp" = some (some (.ref fIM)))
    (lf_fIM : K.lookup fIM = some ⟨oc_fIM, od_fIM, .func (PySem.W.fnOf "is_lamp" "is_lamp" (defArgs sIsLamp) (defBody sIsLamp) (defScope sIsLamp) .none kV_fIM dc_fIM pm_fIM an_fIM cd_fIM ct_fIM), sl_fIM⟩)
    (cf_fIM : PySem.W.codeIn K cd_fIM "is_lamp" = true)
    (kf_fIM : PySem.W.keepIn K (.ref fIM) = true)
    (nf_fWL : PySem.W.nsIn K mainGlobals "wrong_lamp" = some (some (.ref fWL)))
    (lf_fWL : K.lookup fWL = some ⟨oc_fWL, od_fWL, .func (PySem.W.fnOf "wrong_lamp" "wrong_lamp" (defArgs sWrong) (defBody sWrong) (defScope sWrong) .none kV_fWL dc_fWL pm_fWL an_fWL cd_fWL ct_fWL), sl_fWL⟩)
    (cf_fWL : PySem.W.codeIn K cd_fWL "wrong_lamp" = true)
    (kf_fWL : PySem.W.keepIn K (.ref fWL) = true)
    (nf_fCL : PySem.W.nsIn K mainGlobals "check_levels" = some (some (.ref fCL)))
    (lf_fCL : K.lookup fCL = some ⟨oc_fCL, od_fCL, .func (PySem.W.fnOf "check_levels" "check_levels" (defArgs sCkLv) (defBody sCkLv) (defScope sCkLv) .none kV_fCL dc_fCL pm_fCL an_fCL cd_fCL ct_fCL), sl_fCL⟩)
    (cf_fCL : PySem.W.codeIn K cd_fCL "check_levels" = true)
    (kf_fCL : PySem.W.keepIn K (.ref fCL) = true)
    (nf_fCR : PySem.W.nsIn K mainGlobals "check_round" = some (some (.ref fCR)))
    (lf_fCR : K.lookup fCR = some ⟨oc_fCR, od_fCR, .func (PySem.W.fnOf "check_round" "check_round" (defArgs sCkR) (defBody sCkR) (defScope sCkR) .none kV_fCR dc_fCR pm_fCR an_fCR cd_fCR ct_fCR), sl_fCR⟩)
    (cf_fCR : PySem.W.codeIn K cd_fCR "check_round" = true)
    (kf_fCR : PySem.W.keepIn K (.ref fCR) = true)
    (nf_fCM : PySem.W.nsIn K mainGlobals "check_many" = some (some (.ref fCM)))
    (lf_fCM : K.lookup fCM = some ⟨oc_fCM, od_fCM, .func (PySem.W.fnOf "check_many" "check_many" (defArgs sCkMany) (defBody sCkMany) (defScope sCkMany) .none kV_fCM dc_fCM pm_fCM an_fCM cd_fCM ct_fCM), sl_fCM⟩)
    (cf_fCM : PySem.W.codeIn K cd_fCM "check_many" = true)
    (kf_fCM : PySem.W.keepIn K (.ref fCM) = true)
    (nf_fRo : PySem.W.nsIn K mainGlobals "round_of_lamps" = some (some (.ref fRo)))
    (lf_fRo : K.lookup fRo = some ⟨oc_fRo, od_fRo, .func (PySem.W.fnOf "round_of_lamps" "round_of_lamps" (defArgs sRol) (defBody sRol) (defScope sRol) .none kV_fRo dc_fRo pm_fRo an_fRo cd_fRo ct_fRo), sl_fRo⟩)
    (cf_fRo : PySem.W.codeIn K cd_fRo "round_of_lamps" = true)
    (kf_fRo : PySem.W.keepIn K (.ref fRo) = true)
    (nf_fTo : PySem.W.nsIn K mainGlobals "total" = some (some (.ref fTo)))
    (lf_fTo : K.lookup fTo = some ⟨oc_fTo, od_fTo, .func (PySem.W.fnOf "total" "total" (defArgs sTotal) (defBody sTotal) (defScope sTotal) .none kV_fTo dc_fTo pm_fTo an_fTo cd_fTo ct_fTo), sl_fTo⟩)
    (cf_fTo : PySem.W.codeIn K cd_fTo "total" = true)
    (kf_fTo : PySem.W.keepIn K (.ref fTo) = true)
    (nf_fWs : PySem.W.nsIn K mainGlobals "wrong_sign" = some (some (.ref fWs)))
    (lf_fWs : K.lookup fWs = some ⟨oc_fWs, od_fWs, .func (PySem.W.fnOf "wrong_sign" "wrong_sign" (defArgs sWSign) (defBody sWSign) (defScope sWSign) .none kV_fWs dc_fWs pm_fWs an_fWs cd_fWs ct_fWs), sl_fWs⟩)
    (cf_fWs : PySem.W.codeIn K cd_fWs "wrong_sign" = true)
    (kf_fWs : PySem.W.keepIn K (.ref fWs) = true)
    (nf_fWk : PySem.W.nsIn K mainGlobals "walked" = some (some (.ref fWk)))
    (lf_fWk : K.lookup fWk = some ⟨oc_fWk, od_fWk, .func (PySem.W.fnOf "walked" "walked" (defArgs sWalked) (defBody sWalked) (defScope sWalked) .none kV_fWk dc_fWk pm_fWk an_fWk cd_fWk ct_fWk), sl_fWk⟩)
    (cf_fWk : PySem.W.codeIn K cd_fWk "walked" = true)
    (kf_fWk : PySem.W.keepIn K (.ref fWk) = true)
    (nf_fRe : PySem.W.nsIn K mainGlobals "reach" = some (some (.ref fRe)))
    (lf_fRe : K.lookup fRe = some ⟨oc_fRe, od_fRe, .func (PySem.W.fnOf "reach" "reach" (defArgs sReach) (defBody sReach) (defScope sReach) .none kV_fRe dc_fRe pm_fRe an_fRe cd_fRe ct_fRe), sl_fRe⟩)
    (cf_fRe : PySem.W.codeIn K cd_fRe "reach" = true)
    (kf_fRe : PySem.W.keepIn K (.ref fRe) = true)
    (nf_fLn : PySem.W.nsIn K mainGlobals "least_number" = some (some (.ref fLn)))
    (lf_fLn : K.lookup fLn = some ⟨oc_fLn, od_fLn, .func (PySem.W.fnOf "least_number" "least_number" (defArgs sLeast) (defBody sLeast) (defScope sLeast) .none kV_fLn dc_fLn pm_fLn an_fLn cd_fLn ct_fLn), sl_fLn⟩)
    (cf_fLn : PySem.W.codeIn K cd_fLn "least_number" = true)
    (kf_fLn : PySem.W.keepIn K (.ref fLn) = true)
    (nf_fSt : PySem.W.nsIn K mainGlobals "steps" = some (some (.ref fSt)))
    (lf_fSt : K.lookup fSt = some ⟨oc_fSt, od_fSt, .func (PySem.W.fnOf "steps" "steps" (defArgs sSteps) (defBody sSteps) (defScope sSteps) .none kV_fSt dc_fSt pm_fSt an_fSt cd_fSt ct_fSt), sl_fSt⟩)
    (cf_fSt : PySem.W.codeIn K cd_fSt "steps" = true)
    (kf_fSt : PySem.W.keepIn K (.ref fSt) = true)
    (nf_fRb : PySem.W.nsIn K mainGlobals "row_by" = some (some (.ref fRb)))
    (lf_fRb : K.lookup fRb = some ⟨oc_fRb, od_fRb, .func (PySem.W.fnOf "row_by" "row_by" (defArgs sRowBy) (defBody sRowBy) (defScope sRowBy) .none kV_fRb dc_fRb pm_fRb an_fRb cd_fRb ct_fRb), sl_fRb⟩)
    (cf_fRb : PySem.W.codeIn K cd_fRb "row_by" = true)
    (kf_fRb : PySem.W.keepIn K (.ref fRb) = true)
    (nf_fWl : PySem.W.nsIn K mainGlobals "least_walk" = some (some (.ref fWl)))
    (lf_fWl : K.lookup fWl = some ⟨oc_fWl, od_fWl, .func (PySem.W.fnOf "least_walk" "least_walk" (defArgs sLWk) (defBody sLWk) (defScope sLWk) .none kV_fWl dc_fWl pm_fWl an_fWl cd_fWl ct_fWl), sl_fWl⟩)
    (cf_fWl : PySem.W.codeIn K cd_fWl "least_walk" = true)
    (kf_fWl : PySem.W.keepIn K (.ref fWl) = true)
    (nf_fBe : PySem.W.nsIn K mainGlobals "_law_begun" = some (some (.ref fBe)))
    (lf_fBe : K.lookup fBe = some ⟨oc_fBe, od_fBe, .func (PySem.W.fnOf "_law_begun" "_law_begun" (defArgs sBegun) (defBody sBegun) (defScope sBegun) .none kV_fBe dc_fBe pm_fBe an_fBe cd_fBe ct_fBe), sl_fBe⟩)
    (cf_fBe : PySem.W.codeIn K cd_fBe "_law_begun" = true)
    (kf_fBe : PySem.W.keepIn K (.ref fBe) = true)
    (nf_fCa : PySem.W.nsIn K mainGlobals "_law_cast" = some (some (.ref fCa)))
    (lf_fCa : K.lookup fCa = some ⟨oc_fCa, od_fCa, .func (PySem.W.fnOf "_law_cast" "_law_cast" (defArgs sCast) (defBody sCast) (defScope sCast) .none kV_fCa dc_fCa pm_fCa an_fCa cd_fCa ct_fCa), sl_fCa⟩)
    (cf_fCa : PySem.W.codeIn K cd_fCa "_law_cast" = true)
    (kf_fCa : PySem.W.keepIn K (.ref fCa) = true)
    (nf_fAn : PySem.W.nsIn K mainGlobals "_law_any_of" = some (some (.ref fAn)))
    (lf_fAn : K.lookup fAn = some ⟨oc_fAn, od_fAn, .func (PySem.W.fnOf "_law_any_of" "_law_any_of" (defArgs sAny) (defBody sAny) (defScope sAny) .none kV_fAn dc_fAn pm_fAn an_fAn cd_fAn ct_fAn), sl_fAn⟩)
    (cf_fAn : PySem.W.codeIn K cd_fAn "_law_any_of" = true)
    (kf_fAn : PySem.W.keepIn K (.ref fAn) = true)
    (nf_fVa : PySem.W.nsIn K mainGlobals "_law_vast" = some (some (.ref fVa)))
    (lf_fVa : K.lookup fVa = some ⟨oc_fVa, od_fVa, .func (PySem.W.fnOf "_law_vast" "_law_vast" (defArgs sVast) (defBody sVast) (defScope sVast) .none kV_fVa dc_fVa pm_fVa an_fVa cd_fVa ct_fVa), sl_fVa⟩)
    (cf_fVa : PySem.W.codeIn K cd_fVa "_law_vast" = true)
    (kf_fVa : PySem.W.keepIn K (.ref fVa) = true)
    (nf_fWh : PySem.W.nsIn K mainGlobals "_law_is_whole" = some (some (.ref fWh)))
    (lf_fWh : K.lookup fWh = some ⟨oc_fWh, od_fWh, .func (PySem.W.fnOf "_law_is_whole" "_law_is_whole" (defArgs sLWhole) (defBody sLWhole) (defScope sLWhole) .none kV_fWh dc_fWh pm_fWh an_fWh cd_fWh ct_fWh), sl_fWh⟩)
    (cf_fWh : PySem.W.codeIn K cd_fWh "_law_is_whole" = true)
    (kf_fWh : PySem.W.keepIn K (.ref fWh) = true)
    (nf_fTg : PySem.W.nsIn K mainGlobals "_law_thing" = some (some (.ref fTg)))
    (lf_fTg : K.lookup fTg = some ⟨oc_fTg, od_fTg, .func (PySem.W.fnOf "_law_thing" "_law_thing" (defArgs sThing) (defBody sThing) (defScope sThing) .none kV_fTg dc_fTg pm_fTg an_fTg cd_fTg ct_fTg), sl_fTg⟩)
    (cf_fTg : PySem.W.codeIn K cd_fTg "_law_thing" = true)
    (kf_fTg : PySem.W.keepIn K (.ref fTg) = true)
    (nf_fIv : PySem.W.nsIn K mainGlobals "_law_is_levels" = some (some (.ref fIv)))
    (lf_fIv : K.lookup fIv = some ⟨oc_fIv, od_fIv, .func (PySem.W.fnOf "_law_is_levels" "_law_is_levels" (defArgs sLLev) (defBody sLLev) (defScope sLLev) .none kV_fIv dc_fIv pm_fIv an_fIv cd_fIv ct_fIv), sl_fIv⟩)
    (cf_fIv : PySem.W.codeIn K cd_fIv "_law_is_levels" = true)
    (kf_fIv : PySem.W.keepIn K (.ref fIv) = true)
    (nf_fLw : PySem.W.nsIn K mainGlobals "_law_walk" = some (some (.ref fLw)))
    (lf_fLw : K.lookup fLw = some ⟨oc_fLw, od_fLw, .func (PySem.W.fnOf "_law_walk" "_law_walk" (defArgs sLWalk) (defBody sLWalk) (defScope sLWalk) .none kV_fLw dc_fLw pm_fLw an_fLw cd_fLw ct_fLw), sl_fLw⟩)
    (cf_fLw : PySem.W.codeIn K cd_fLw "_law_walk" = true)
    (kf_fLw : PySem.W.keepIn K (.ref fLw) = true)
    (nf_fSo : PySem.W.nsIn K mainGlobals "_law_sort" = some (some (.ref fSo)))
    (lf_fSo : K.lookup fSo = some ⟨oc_fSo, od_fSo, .func (PySem.W.fnOf "_law_sort" "_law_sort" (defArgs sSort) (defBody sSort) (defScope sSort) .none kV_fSo dc_fSo pm_fSo an_fSo cd_fSo ct_fSo), sl_fSo⟩)
    (cf_fSo : PySem.W.codeIn K cd_fSo "_law_sort" = true)
    (kf_fSo : PySem.W.keepIn K (.ref fSo) = true)
    (nf_fAw : PySem.W.nsIn K mainGlobals "_law_answer" = some (some (.ref fAw)))
    (lf_fAw : K.lookup fAw = some ⟨oc_fAw, od_fAw, .func (PySem.W.fnOf "_law_answer" "_law_answer" (defArgs sAns) (defBody sAns) (defScope sAns) .none kV_fAw dc_fAw pm_fAw an_fAw cd_fAw ct_fAw), sl_fAw⟩)
    (cf_fAw : PySem.W.codeIn K cd_fAw "_law_answer" = true)
    (kf_fAw : PySem.W.keepIn K (.ref fAw) = true)
    (nf_fDu : PySem.W.nsIn K mainGlobals "_law_due" = some (some (.ref fDu)))
    (lf_fDu : K.lookup fDu = some ⟨oc_fDu, od_fDu, .func (PySem.W.fnOf "_law_due" "_law_due" (defArgs sLDue) (defBody sLDue) (defScope sLDue) .none kV_fDu dc_fDu pm_fDu an_fDu cd_fDu ct_fDu), sl_fDu⟩)
    (cf_fDu : PySem.W.codeIn K cd_fDu "_law_due" = true)
    (kf_fDu : PySem.W.keepIn K (.ref fDu) = true)
    (nf_fSm : PySem.W.nsIn K mainGlobals "_law_some" = some (some (.ref fSm)))
    (lf_fSm : K.lookup fSm = some ⟨oc_fSm, od_fSm, .func (PySem.W.fnOf "_law_some" "_law_some" (defArgs sLSome) (defBody sLSome) (defScope sLSome) .none kV_fSm dc_fSm pm_fSm an_fSm cd_fSm ct_fSm), sl_fSm⟩)
    (cf_fSm : PySem.W.codeIn K cd_fSm "_law_some" = true)
    (kf_fSm : PySem.W.keepIn K (.ref fSm) = true)
    (nf_fRg : PySem.W.nsIn K mainGlobals "_law_right" = some (some (.ref fRg)))
    (lf_fRg : K.lookup fRg = some ⟨oc_fRg, od_fRg, .func (PySem.W.fnOf "_law_right" "_law_right" (defArgs sRight) (defBody sRight) (defScope sRight) .none kV_fRg dc_fRg pm_fRg an_fRg cd_fRg ct_fRg), sl_fRg⟩)
    (cf_fRg : PySem.W.codeIn K cd_fRg "_law_right" = true)
    (kf_fRg : PySem.W.keepIn K (.ref fRg) = true)
    (nf_fLaw : PySem.W.nsIn K mainGlobals "law" = some (some (.ref fLaw)))
    (lf_fLaw : K.lookup fLaw = some ⟨oc_fLaw, od_fLaw, .func (PySem.W.fnOf "law" "law" (defArgs sLaw) (defBody sLaw) (defScope sLaw) .none kV_fLaw dc_fLaw pm_fLaw an_fLaw cd_fLaw ct_fLaw), sl_fLaw⟩)
    (cf_fLaw : PySem.W.codeIn K cd_fLaw "law" = true)
    (kf_fLaw : PySem.W.keepIn K (.ref fLaw) = true)
    (fm_gIn : PySem.W.findIn K (.ref C) "__init__" = some (some (.ref gIn)))
    (lf_gIn : K.lookup gIn = some ⟨oc_gIn, od_gIn, .func (PySem.W.fnOf "__init__" "Round.__init__" (defArgs sInit) (defBody sInit) (defScope sInit) .none kV_gIn dc_gIn pm_gIn an_gIn cd_gIn ct_gIn), sl_gIn⟩)
    (cf_gIn : PySem.W.codeIn K cd_gIn "Round.__init__" = true)
    (kf_gIn : PySem.W.keepIn K (.ref gIn) = true)
    (if_gIn : PySem.W.isFn K (.ref gIn) = true)
    (fm_gEq : PySem.W.findIn K (.ref C) "__eq__" = some (some (.ref gEq)))
    (lf_gEq : K.lookup gEq = some ⟨oc_gEq, od_gEq, .func (PySem.W.fnOf "__eq__" "Round.__eq__" (defArgs sEqR) (defBody sEqR) (defScope sEqR) .none kV_gEq dc_gEq pm_gEq an_gEq cd_gEq ct_gEq), sl_gEq⟩)
    (cf_gEq : PySem.W.codeIn K cd_gEq "Round.__eq__" = true)
    (kf_gEq : PySem.W.keepIn K (.ref gEq) = true)
    (if_gEq : PySem.W.isFn K (.ref gEq) = true)
    (fm_iL : PySem.W.findIn K (.ref xL) "__init__" = some (some (.ref iL)))
    (lf_iL : K.lookup iL = some ⟨oc_iL, od_iL, .func (PySem.W.fnOf "__init__" "InvalidLevels.__init__" (defArgs sXL) (defBody sXL) (defScope sXL) .none kV_iL dc_iL pm_iL an_iL cd_iL ct_iL), sl_iL⟩)
    (cf_iL : PySem.W.codeIn K cd_iL "InvalidLevels.__init__" = true)
    (kf_iL : PySem.W.keepIn K (.ref iL) = true)
    (if_iL : PySem.W.isFn K (.ref iL) = true)
    (fm_iS : PySem.W.findIn K (.ref xS) "__init__" = some (some (.ref iS)))
    (lf_iS : K.lookup iS = some ⟨oc_iS, od_iS, .func (PySem.W.fnOf "__init__" "InvalidSteps.__init__" (defArgs sXS) (defBody sXS) (defScope sXS) .none kV_iS dc_iS pm_iS an_iS cd_iS ct_iS), sl_iS⟩)
    (cf_iS : PySem.W.codeIn K cd_iS "InvalidSteps.__init__" = true)
    (kf_iS : PySem.W.keepIn K (.ref iS) = true)
    (if_iS : PySem.W.isFn K (.ref iS) = true)
    (fm_iR : PySem.W.findIn K (.ref xR) "__init__" = some (some (.ref iR)))
    (lf_iR : K.lookup iR = some ⟨oc_iR, od_iR, .func (PySem.W.fnOf "__init__" "NotRound.__init__" (defArgs sXR) (defBody sXR) (defScope sXR) .none kV_iR dc_iR pm_iR an_iR cd_iR ct_iR), sl_iR⟩)
    (cf_iR : PySem.W.codeIn K cd_iR "NotRound.__init__" = true)
    (kf_iR : PySem.W.keepIn K (.ref iR) = true)
    (if_iR : PySem.W.isFn K (.ref iR) = true)
    (fm_iT : PySem.W.findIn K (.ref xT) "__init__" = some (some (.ref iT)))
    (lf_iT : K.lookup iT = some ⟨oc_iT, od_iT, .func (PySem.W.fnOf "__init__" "TooMany.__init__" (defArgs sXT) (defBody sXT) (defScope sXT) .none kV_iT dc_iT pm_iT an_iT cd_iT ct_iT), sl_iT⟩)
    (cf_iT : PySem.W.codeIn K cd_iT "TooMany.__init__" = true)
    (kf_iT : PySem.W.keepIn K (.ref iT) = true)
    (if_iT : PySem.W.isFn K (.ref iT) = true)
    (pa_gLv : PySem.W.findIn K (.ref C) "levels" = some (some (.ref p_gLv)))
    (pr_gLv : PySem.W.recIn K p_gLv "property" = some (.ref gLv :: rest_gLv))
    (pg_gLv : PySem.W.specialIn K (.ref p_gLv) "__get__" = some (some (.builtin "property.__get__")))
    (pt_gLv : PySem.W.takesIn K (.ref p_gLv) = some true)
    (lf_gLv : K.lookup gLv = some ⟨oc_gLv, od_gLv, .func (PySem.W.fnOf "levels" "Round.levels" (defArgs sLevels) (defBody sLevels) (defScope sLevels) .none kV_gLv dc_gLv pm_gLv an_gLv cd_gLv ct_gLv), sl_gLv⟩)
    (cf_gLv : PySem.W.codeIn K cd_gLv "Round.levels" = true)
    (kf_gLv : PySem.W.keepIn K (.ref gLv) = true)
    (pa_gLa : PySem.W.findIn K (.ref C) "lamps" = some (some (.ref p_gLa)))
    (pr_gLa : PySem.W.recIn K p_gLa "property" = some (.ref gLa :: rest_gLa))
    (pg_gLa : PySem.W.specialIn K (.ref p_gLa) "__get__" = some (some (.builtin "property.__get__")))
    (pt_gLa : PySem.W.takesIn K (.ref p_gLa) = some true)
    (lf_gLa : K.lookup gLa = some ⟨oc_gLa, od_gLa, .func (PySem.W.fnOf "lamps" "Round.lamps" (defArgs sLampsP) (defBody sLampsP) (defScope sLampsP) .none kV_gLa dc_gLa pm_gLa an_gLa cd_gLa ct_gLa), sl_gLa⟩)
    (cf_gLa : PySem.W.codeIn K cd_gLa "Round.lamps" = true)
    (kf_gLa : PySem.W.keepIn K (.ref gLa) = true)
    (pa_gEn : PySem.W.findIn K (.ref C) "end" = some (some (.ref p_gEn)))
    (pr_gEn : PySem.W.recIn K p_gEn "property" = some (.ref gEn :: rest_gEn))
    (pg_gEn : PySem.W.specialIn K (.ref p_gEn) "__get__" = some (some (.builtin "property.__get__")))
    (pt_gEn : PySem.W.takesIn K (.ref p_gEn) = some true)
    (lf_gEn : K.lookup gEn = some ⟨oc_gEn, od_gEn, .func (PySem.W.fnOf "end" "Round.end" (defArgs sEnd) (defBody sEnd) (defScope sEnd) .none kV_gEn dc_gEn pm_gEn an_gEn cd_gEn ct_gEn), sl_gEn⟩)
    (cf_gEn : PySem.W.codeIn K cd_gEn "Round.end" = true)
    (kf_gEn : PySem.W.keepIn K (.ref gEn) = true)
    (nL : PySem.W.nsIn K mainGlobals "LEVELS" = some (some (.ref aL)))
    (lL : K.lookup aL = some ⟨.type "tuple", odL, .seq #[.int 2 tL0, .int 3 tL1, .int 5 tL2, .int 7 tL3] nL0, slL⟩)
    (nM : PySem.W.nsIn K mainGlobals "MOST_LAMPS" = some (some (.int 400 tM)))
    (nG : PySem.W.nsIn K mainGlobals "SIGNS" = some (some (.ref aS)))
    (lG : K.lookup aS = some ⟨.type "tuple", odS, .seq #[.str "<" tS0, .str ">" tS1, .str "+" tS2] nS0, slS⟩)
    (nT : PySem.W.nsIn K mainGlobals "MOST_STEPS" = some (some (.int 4000 tT)))
    (all : (noneB K && (clsB K C && (eqB K C && (ecB K xL 0 && (ecB K xS 0 && (ecB K xR 0 && (ecB K xT 2 && (initB K xL iL "given" && (initB K xS iS "index" && (initB K xR iR "given" && (initB K xT iT "given" && (kdgB K cA cB cC xL xS xR xT xL true false false true false false false && (kdgB K cA cB cC xL xS xR xT xS true false false false true false false && (kdgB K cA cB cC xL xS xR xT xR true false false false false true false && (kdgB K cA cB cC xL xS xR xT xT false false true false false false true && (ex1B K cA cB cC xL && (ex1B K cA cB cC xS && (ex1B K cA cB cC xR && (ex1B K cA cB cC xT && (noKdB K C && (metaB K && (codeB K cd_fRg)))))))))))))))))))))) = true) :
    ∃ (fd : FuncData) (cs : List (Addr × Addr)) (sp : Sp), (∀ p ∈ cs, TabOf K mg ["_law_right"] p) ∧ (∀ (s : Shared) (u : Value), BindsTo s fd ⟨[u], []⟩ [("_law_script", u)]) ∧ (∀ (H : Hp) (a : Addr) (ns : List Int), ns.length ≤ 63 → (∀ z ∈ ns, Builtin.Int.intBits z ≤ 1048576) → (∀ p ∈ cs, H p.2 = some (.tbl #[])) → SqL K H a (ns.map V.int) → sp [.ref a] H (fun v _ => v = .bl true) E0) ∧
      ∀ base : Heap, K.In base → base.Ns mainGlobals mg → (∀ p ∈ cs, TabB base mg p.1 p.2) → FnG P w K mg base 13 fa fd ["_law_script"] sp := by
  have e := hfa.symm.trans (PySem.W.mg_of X G nf_fLaw)
  cases e
  rw [Bool.and_eq_true, Bool.and_eq_true, Bool.and_eq_true, Bool.and_eq_true, Bool.and_eq_true, Bool.and_eq_true, Bool.and_eq_true, Bool.and_eq_true, Bool.and_eq_true, Bool.and_eq_true, Bool.and_eq_true, Bool.and_eq_true, Bool.and_eq_true, Bool.and_eq_true, Bool.and_eq_true, Bool.and_eq_true, Bool.and_eq_true, Bool.and_eq_true, Bool.and_eq_true, Bool.and_eq_true, Bool.and_eq_true] at all
  obtain ⟨hnone, hcls, heq, eL, eS, eR, eT, jL, jS, jR, jT, kdL, kdS, kdR, kdT, exL, exS, exR, exT, hnk, hmeta, cb_fRg⟩ := all
  obtain ⟨hne, hmro, S⟩ := eqB_ok heq
  obtain ⟨R, hmakes, hkeep⟩ := clsB_ok hcls
  obtain ⟨xmL, yL⟩ := ex1B_ok exL
  obtain ⟨xmS, yS⟩ := ex1B_ok exS
  obtain ⟨xmR, yR⟩ := ex1B_ok exR
  obtain ⟨xmT, yT⟩ := ex1B_ok exT
  have none := fun {n : Str} hn => PySem.W.mg_none_of X G (none_of hnone (n := n) hn)
  have F_fII := fun_mk (st := sIsInt) lf_fII cf_fII kf_fII
  have b_fII := F_fII.binds (ps := ["value"]) fun _ _ _ _ _ _ us hl => match us, hl with | [_], _ => rfl
  have m_fII := PySem.W.mg_of X G nf_fII
  have F_fIL := fun_mk (st := sIsLevels) lf_fIL cf_fIL kf_fIL
  have b_fIL := F_fIL.binds (ps := ["value"]) fun _ _ _ _ _ _ us hl => match us, hl with | [_], _ => rfl
  have m_fIL := PySem.W.mg_of X G nf_fIL
  have F_fIM := fun_mk (st := sIsLamp) lf_fIM cf_fIM kf_fIM
  have b_fIM := F_fIM.binds (ps := ["levels", "value"]) fun _ _ _ _ _ _ us hl => match us, hl with | [_, _], _ => rfl
  have m_fIM := PySem.W.mg_of X G nf_fIM
  have F_fWL := fun_mk (st := sWrong) lf_fWL cf_fWL kf_fWL
  have b_fWL := F_fWL.binds (ps := ["levels", "lamps"]) fun _ _ _ _ _ _ us hl => match us, hl with | [_, _], _ => rfl
  have m_fWL := PySem.W.mg_of X G nf_fWL
  have F_fCL := fun_mk (st := sCkLv) lf_fCL cf_fCL kf_fCL
  have b_fCL := F_fCL.binds (ps := ["value"]) fun _ _ _ _ _ _ us hl => match us, hl with | [_], _ => rfl
  have m_fCL := PySem.W.mg_of X G nf_fCL
  have F_fCR := fun_mk (st := sCkR) lf_fCR cf_fCR kf_fCR
  have b_fCR := F_fCR.binds (ps := ["value"]) fun _ _ _ _ _ _ us hl => match us, hl with | [_], _ => rfl
  have m_fCR := PySem.W.mg_of X G nf_fCR
  have F_fCM := fun_mk (st := sCkMany) lf_fCM cf_fCM kf_fCM
  have b_fCM := F_fCM.binds (ps := ["many"]) fun _ _ _ _ _ _ us hl => match us, hl with | [_], _ => rfl
  have m_fCM := PySem.W.mg_of X G nf_fCM
  have F_fRo := fun_mk (st := sRol) lf_fRo cf_fRo kf_fRo
  have b_fRo := F_fRo.binds (ps := ["levels", "lamps", "end"]) fun _ _ _ _ _ _ us hl => match us, hl with | [_, _, _], _ => rfl
  have m_fRo := PySem.W.mg_of X G nf_fRo
  have F_fTo := fun_mk (st := sTotal) lf_fTo cf_fTo kf_fTo
  have b_fTo := F_fTo.binds (ps := ["levels", "parts"]) fun _ _ _ _ _ _ us hl => match us, hl with | [_, _], _ => rfl
  have m_fTo := PySem.W.mg_of X G nf_fTo
  have F_fWs := fun_mk (st := sWSign) lf_fWs cf_fWs kf_fWs
  have b_fWs := F_fWs.binds (ps := ["row"]) fun _ _ _ _ _ _ us hl => match us, hl with | [_], _ => rfl
  have m_fWs := PySem.W.mg_of X G nf_fWs
  have F_fWk := fun_mk (st := sWalked) lf_fWk cf_fWk kf_fWk
  have b_fWk := F_fWk.binds (ps := ["levels", "steps"]) fun _ _ _ _ _ _ us hl => match us, hl with | [_, _], _ => rfl
  have m_fWk := PySem.W.mg_of X G nf_fWk
  have F_fRe := fun_mk (st := sReach) lf_fRe cf_fRe kf_fRe
  have b_fRe := F_fRe.binds (ps := ["trip"]) fun _ _ _ _ _ _ us hl => match us, hl with | [_], _ => rfl
  have m_fRe := PySem.W.mg_of X G nf_fRe
  have F_fLn := fun_mk (st := sLeast) lf_fLn cf_fLn kf_fLn
  have b_fLn := F_fLn.binds (ps := ["trip"]) fun _ _ _ _ _ _ us hl => match us, hl with | [_], _ => rfl
  have m_fLn := PySem.W.mg_of X G nf_fLn
  have F_fSt := fun_mk (st := sSteps) lf_fSt cf_fSt kf_fSt
  have b_fSt := F_fSt.binds (ps := ["trip"]) fun _ _ _ _ _ _ us hl => match us, hl with | [_], _ => rfl
  have m_fSt := PySem.W.mg_of X G nf_fSt
  have F_fRb := fun_mk (st := sRowBy) lf_fRb cf_fRb kf_fRb
  have b_fRb := F_fRb.binds (ps := ["lamps", "stops"]) fun _ _ _ _ _ _ us hl => match us, hl with | [_, _], _ => rfl
  have m_fRb := PySem.W.mg_of X G nf_fRb
  have F_fWl := fun_mk (st := sLWk) lf_fWl cf_fWl kf_fWl
  have b_fWl := F_fWl.binds (ps := ["trip"]) fun _ _ _ _ _ _ us hl => match us, hl with | [_], _ => rfl
  have m_fWl := PySem.W.mg_of X G nf_fWl
  have F_fBe := fun_mk (st := sBegun) lf_fBe cf_fBe kf_fBe
  have b_fBe := F_fBe.binds (ps := ["_law_script", "_law_turn"]) fun _ _ _ _ _ _ us hl => match us, hl with | [_, _], _ => rfl
  have m_fBe := PySem.W.mg_of X G nf_fBe
  have F_fCa := fun_mk (st := sCast) lf_fCa cf_fCa kf_fCa
  have b_fCa := F_fCa.binds (ps := ["_law_pail", "_law_many"]) fun _ _ _ _ _ _ us hl => match us, hl with | [_, _], _ => rfl
  have m_fCa := PySem.W.mg_of X G nf_fCa
  have F_fAn := fun_mk (st := sAny) lf_fAn cf_fAn kf_fAn
  have b_fAn := F_fAn.binds (ps := ["_law_pail", "_law_some_here"]) fun _ _ _ _ _ _ us hl => match us, hl with | [_, _], _ => rfl
  have m_fAn := PySem.W.mg_of X G nf_fAn
  have F_fVa := fun_mk (st := sVast) lf_fVa cf_fVa kf_fVa
  have b_fVa := F_fVa.binds (ps := ["_law_pail", "_law_many"]) fun _ _ _ _ _ _ us hl => match us, hl with | [_, _], _ => rfl
  have m_fVa := PySem.W.mg_of X G nf_fVa
  have F_fWh := fun_mk (st := sLWhole) lf_fWh cf_fWh kf_fWh
  have b_fWh := F_fWh.binds (ps := ["_law_value"]) fun _ _ _ _ _ _ us hl => match us, hl with | [_], _ => rfl
  have m_fWh := PySem.W.mg_of X G nf_fWh
  have F_fTg := fun_mk (st := sThing) lf_fTg cf_fTg kf_fTg
  have b_fTg := F_fTg.binds (ps := ["_law_pail"]) fun _ _ _ _ _ _ us hl => match us, hl with | [_], _ => rfl
  have m_fTg := PySem.W.mg_of X G nf_fTg
  have F_fIv := fun_mk (st := sLLev) lf_fIv cf_fIv kf_fIv
  have b_fIv := F_fIv.binds (ps := ["_law_value"]) fun _ _ _ _ _ _ us hl => match us, hl with | [_], _ => rfl
  have m_fIv := PySem.W.mg_of X G nf_fIv
  have F_fLw := fun_mk (st := sLWalk) lf_fLw cf_fLw kf_fLw
  have b_fLw := F_fLw.binds (ps := ["_law_pail", "_law_most"]) fun _ _ _ _ _ _ us hl => match us, hl with | [_, _], _ => rfl
  have m_fLw := PySem.W.mg_of X G nf_fLw
  have F_fSo := fun_mk (st := sSort) lf_fSo cf_fSo kf_fSo
  have b_fSo := F_fSo.binds (ps := ["_law_e"]) fun _ _ _ _ _ _ us hl => match us, hl with | [_], _ => rfl
  have m_fSo := PySem.W.mg_of X G nf_fSo
  have F_fAw := fun_mk (st := sAns) lf_fAw cf_fAw kf_fAw
  have b_fAw := F_fAw.binds (ps := ["_law_call_here"]) fun _ _ _ _ _ _ us hl => match us, hl with | [_], _ => rfl
  have m_fAw := PySem.W.mg_of X G nf_fAw
  have F_fDu := fun_mk (st := sLDue) lf_fDu cf_fDu kf_fDu
  have b_fDu := F_fDu.binds (ps := ["_law_p", "_law_value"]) fun _ _ _ _ _ _ us hl => match us, hl with | [_, _], _ => rfl
  have m_fDu := PySem.W.mg_of X G nf_fDu
  have F_fSm := fun_mk (st := sLSome) lf_fSm cf_fSm kf_fSm
  have b_fSm := F_fSm.binds (ps := ["_law_pail"]) fun _ _ _ _ _ _ us hl => match us, hl with | [_], _ => rfl
  have m_fSm := PySem.W.mg_of X G nf_fSm
  have F_fRg := fun_mk (st := sRight) lf_fRg cf_fRg kf_fRg
  have b_fRg := F_fRg.binds (ps := ["_law_pail"]) fun _ _ _ _ _ _ us hl => match us, hl with | [_], _ => rfl
  have m_fRg := PySem.W.mg_of X G nf_fRg
  have F_fLaw := fun_mk (st := sLaw) lf_fLaw cf_fLaw kf_fLaw
  have F_gIn := fun_mk (st := sInit) lf_gIn cf_gIn kf_gIn
  have b_gIn := F_gIn.binds (ps := ["self", "levels", "lamps", "end"]) fun _ _ _ _ _ _ us hl => match us, hl with | [_, _, _, _], _ => rfl
  have F_gEq := fun_mk (st := sEqR) lf_gEq cf_gEq kf_gEq
  have b_gEq := F_gEq.binds (ps := ["self", "other"]) fun _ _ _ _ _ _ us hl => match us, hl with | [_, _], _ => rfl
  have F_iL := fun_mk (st := sXL) lf_iL cf_iL kf_iL
  have b_iL := F_iL.binds (ps := ["self", "given"]) fun _ _ _ _ _ _ us hl => match us, hl with | [_, _], _ => rfl
  have F_iS := fun_mk (st := sXS) lf_iS cf_iS kf_iS
  have b_iS := F_iS.binds (ps := ["self", "index"]) fun _ _ _ _ _ _ us hl => match us, hl with | [_, _], _ => rfl
  have F_iR := fun_mk (st := sXR) lf_iR cf_iR kf_iR
  have b_iR := F_iR.binds (ps := ["self", "given"]) fun _ _ _ _ _ _ us hl => match us, hl with | [_, _], _ => rfl
  have F_iT := fun_mk (st := sXT) lf_iT cf_iT kf_iT
  have b_iT := F_iT.binds (ps := ["self", "given"]) fun _ _ _ _ _ _ us hl => match us, hl with | [_, _], _ => rfl
  have F_gLv := fun_mk (st := sLevels) lf_gLv cf_gLv kf_gLv
  have b_gLv := F_gLv.binds (ps := ["self"]) fun _ _ _ _ _ _ us hl => match us, hl with | [_], _ => rfl
  have F_gLa := fun_mk (st := sLampsP) lf_gLa cf_gLa kf_gLa
  have b_gLa := F_gLa.binds (ps := ["self"]) fun _ _ _ _ _ _ us hl => match us, hl with | [_], _ => rfl
  have F_gEn := fun_mk (st := sEnd) lf_gEn cf_gEn kf_gEn
  have b_gEn := F_gEn.binds (ps := ["self"]) fun _ _ _ _ _ _ us hl => match us, hl with | [_], _ => rfl
  have mR := PySem.W.mg_of X G nC
  have mLv := PySem.W.mg_of X G nL
  have mML := PySem.W.mg_of X G nM
  have four : ∀ H, SqT K H aL [.int 2, .int 3, .int 5, .int 7] := fun H => .inr ⟨_, _, _, lL, rfl, rfl, (by show 4 ≤ sizeLine; decide), .cons ⟨_, rfl⟩ (.cons ⟨_, rfl⟩ (.cons ⟨_, rfl⟩ (.cons ⟨_, rfl⟩ .nil)))⟩
  have m_cA := PySem.W.mg_of X G n_cA
  have m_cB := PySem.W.mg_of X G n_cB
  have m_cC := PySem.W.mg_of X G n_cC
  have m_xL := PySem.W.mg_of X G n_xL
  have m_xS := PySem.W.mg_of X G n_xS
  have m_xR := PySem.W.mg_of X G n_xR
  have m_xT := PySem.W.mg_of X G n_xT
  have mG := PySem.W.mg_of X G nG
  have mT := PySem.W.mg_of X G nT
  have signs : ∀ H, SqT K H aS [.str "<", .str ">", .str "+"] := fun H => .inr ⟨_, _, _, lG, rfl, rfl, (by show 3 ≤ sizeLine; decide), .cons ⟨_, rfl⟩ (.cons ⟨_, rfl⟩ (.cons ⟨_, rfl⟩ .nil))⟩
  refine ⟨PySem.W.fnOf "law" "law" (defArgs sLaw) (defBody sLaw) (defScope sLaw) .none kV_fLaw dc_fLaw pm_fLaw an_fLaw cd_fLaw ct_fLaw, [(codeA cd_fRg, tabA K cd_fRg)], spLaw K [(tabA K cd_fRg, qR)], ?_, fun s u => .of_eq rfl, ?_, fun base _ _ tb => ?_⟩
  · intro p hp
    simp only [List.mem_cons, List.not_mem_nil, or_false] at hp
    rcases hp with rfl
    · exact ⟨"_law_right", by decide, _, _, _, _, PySem.W.mg_of X G nf_fRg, lf_fRg, rfl, rfl, cb_fRg, rfl⟩
  · intro H a ns h1 h2 h3 hS
    refine ⟨a, ns, rfl, hS, h1, h2, fun x hx => ?_, fun _ => rfl⟩
    simp only [List.mem_cons, List.not_mem_nil, or_false] at hx
    rcases hx with rfl
    · exact TabS.nil (h3 (codeA cd_fRg, tabA K cd_fRg) (by simp))
  have tb_fRg : TabB base mg (codeA cd_fRg) (tabA K cd_fRg) := tb (codeA cd_fRg, tabA K cd_fRg) (by simp)
  have ca_fRg : cd_fRg = .ref (codeA cd_fRg) := (codeB_ok cb_fRg).1
  have d_fII : Dr P w K mg base spIsInt "is_integer" ["value"] 1 := ⟨⟨fII, _, ok_isInt F_fII (none (n := "isinstance") (by decide +kernel)) (none (n := "int") (by decide +kernel)) (none (n := "bool") (by decide +kernel)), b_fII, m_fII, kf_fII⟩⟩
  have d_fIL : Dr P w K mg base spIsLevels "is_levels" ["value"] 2 := ⟨⟨fIL, _, ok_isLevels F_fIL d_fII mLv four, b_fIL, m_fIL, kf_fIL⟩⟩
  have d_fIM : Dr P w K mg base spIsLamp "is_lamp" ["levels", "value"] 2 := ⟨⟨fIM, _, ok_isLamp F_fIM d_fII (none (n := "isinstance") (by decide +kernel)) (none (n := "tuple") (by decide +kernel)) (none (n := "len") (by decide +kernel)), b_fIM, m_fIM, kf_fIM⟩⟩
  have d_fWL : Dr P w K mg base (spWrong K) "wrong_lamp" ["levels", "lamps"] 3 := ⟨⟨fWL, _, ok_wrong F_fWL d_fIM (none (n := "enumerate") (by decide +kernel)), b_fWL, m_fWL, kf_fWL⟩⟩
  have gI : FnOk P w K mg base CX0 4 gIn _ ["self", "levels", "lamps", "end"] (spInitR K C) := ok_initR F_gIn R d_fII d_fIL d_fWL mML (none (n := "isinstance") (by decide +kernel)) (none (n := "tuple") (by decide +kernel)) (none (n := "len") (by decide +kernel))
  have M : MkR P w K mg base C := ⟨⟨gIn, _, ⟨hmakes, fm_gIn, if_gIn, hkeep⟩, gI, b_gIn, fun s x u1 u2 u3 => .of_eq rfl⟩⟩
  have Z : Ask3 P w K mg base C := ⟨⟨⟨p_gLv, gLv, _, ⟨pa_gLv, pg_gLv, pt_gLv, ⟨_, pr_gLv⟩⟩, ok_levels F_gLv R, b_gLv⟩⟩, ⟨⟨p_gLa, gLa, _, ⟨pa_gLa, pg_gLa, pt_gLa, ⟨_, pr_gLa⟩⟩, ok_lamps F_gLa R, b_gLa⟩⟩, ⟨⟨p_gEn, gEn, _, ⟨pa_gEn, pg_gEn, pt_gEn, ⟨_, pr_gEn⟩⟩, ok_end F_gEn R, b_gEn⟩⟩⟩
  have ZL : XC P w K mg xL "InvalidLevels" "given" := xc_mk eL jL m_xL (fun base => ok_init F_iL scXL rfl (by decide +kernel) (by decide +kernel) (by decide) (by decide)) (fun s v u _ => .of_eq rfl) (fun s v u _ => .of_eq rfl)
  have DL := kdgB_ok (by obtain ⟨B, n, i, t, T, _⟩ := ecB_ok eL; exact ⟨B, n, i, t, T⟩) kdL
  have ZS : XC P w K mg xS "InvalidSteps" "index" := xc_mk eS jS m_xS (fun base => ok_init F_iS scXS rfl (by decide +kernel) (by decide +kernel) (by decide) (by decide)) (fun s v u _ => .of_eq rfl) (fun s v u _ => .of_eq rfl)
  have DS := kdgB_ok (by obtain ⟨B, n, i, t, T, _⟩ := ecB_ok eS; exact ⟨B, n, i, t, T⟩) kdS
  have ZR : XC P w K mg xR "NotRound" "given" := xc_mk eR jR m_xR (fun base => ok_init F_iR scXR rfl (by decide +kernel) (by decide +kernel) (by decide) (by decide)) (fun s v u _ => .of_eq rfl) (fun s v u _ => .of_eq rfl)
  have DR := kdgB_ok (by obtain ⟨B, n, i, t, T, _⟩ := ecB_ok eR; exact ⟨B, n, i, t, T⟩) kdR
  have ZT : XC P w K mg xT "TooMany" "given" := xc_mk eT jT m_xT (fun base => ok_init F_iT scXT rfl (by decide +kernel) (by decide +kernel) (by decide) (by decide)) (fun s v u _ => .of_eq rfl) (fun s v u _ => .of_eq rfl)
  have DT := kdgB_ok (by obtain ⟨B, n, i, t, T, _⟩ := ecB_ok eT; exact ⟨B, n, i, t, T⟩) kdT
  have NK := noKdB_ok hnk
  have e_fII : Dr P w K mg base (spIsIntA K) "is_integer" ["value"] 1 := ⟨⟨fII, _, ok_isIntA F_fII (none (n := "isinstance") (by decide +kernel)) (none (n := "int") (by decide +kernel)) (none (n := "bool") (by decide +kernel)), b_fII, m_fII, kf_fII⟩⟩
  have e_fIL : Dr P w K mg base (spIsLevelsA K) "is_levels" ["value"] 2 := ⟨⟨fIL, _, ok_isLevelsA F_fIL e_fII mLv four, b_fIL, m_fIL, kf_fIL⟩⟩
  have x_fCL : DrX P w K mg base (spCkLvX K xL) "check_levels" ["value"] 3 := ⟨⟨fCL, _, ok_ckLvX F_fCL e_fIL ZL yL, b_fCL, m_fCL, kf_fCL⟩⟩
  have x_fCR : DrX P w K mg base (spCkRA K C xR) "check_round" ["value"] 3 := ⟨⟨fCR, _, ok_ckRA F_fCR R S NK mR (none (n := "isinstance") (by decide +kernel)) ZR yR, b_fCR, m_fCR, kf_fCR⟩⟩
  have d_fCL : Dr P w K mg base spCkLv "check_levels" ["value"] 3 := ⟨⟨fCL, _, ok_ckLv F_fCL d_fIL, b_fCL, m_fCL, kf_fCL⟩⟩
  have d_fCR : Dr P w K mg base (spCkR C) "check_round" ["value"] 1 := ⟨⟨fCR, _, ok_ckR F_fCR R S mR (none (n := "isinstance") (by decide +kernel)), b_fCR, m_fCR, kf_fCR⟩⟩
  have x_fCM : DrX P w K mg base (spCkManyX xT) "check_many" ["many"] 3 := ⟨⟨fCM, _, ok_ckManyX F_fCM ZT yT mML, b_fCM, m_fCM, kf_fCM⟩⟩
  have x_fRo : DrX P w K mg base (spRolX K C xT) "round_of_lamps" ["levels", "lamps", "end"] 7 := ⟨⟨fRo, _, ok_rolX F_fRo x_fCM M mR (none (n := "len") (by decide +kernel)), b_fRo, m_fRo, kf_fRo⟩⟩
  have e_fTo : Dr P w K mg base (spTotalL K) "total" ["levels", "parts"] 1 := ⟨⟨fTo, _, ok_totalL F_fTo (none (n := "tuple") (by decide +kernel)) (none (n := "sorted") (by decide +kernel)), b_fTo, m_fTo, kf_fTo⟩⟩
  have d_fWs : Dr P w K mg base spWSign "wrong_sign" ["row"] 1 := ⟨⟨fWs, _, ok_wsign F_fWs mG signs mT (none (n := "enumerate") (by decide +kernel)), b_fWs, m_fWs, kf_fWs⟩⟩
  have e_fWs : Dr P w K mg base spWSignB "wrong_sign" ["row"] 1 := ⟨⟨fWs, _, ok_wsignB F_fWs mG signs mT (none (n := "enumerate") (by decide +kernel)), b_fWs, m_fWs, kf_fWs⟩⟩
  have gWkE := ok_walkedE F_fWk x_fCL e_fWs ZS yS (none (n := "isinstance") (by decide +kernel)) (none (n := "str") (by decide +kernel))
  have gWkX := ok_walkedX F_fWk d_fCL d_fWs e_fTo x_fRo (none (n := "isinstance") (by decide +kernel)) (none (n := "str") (by decide +kernel))
  have gWk : FnOk P w K mg base (L2.CX P w) 8 fWk _ ["levels", "steps"] (spWalkedA K C xL xS xT) := FnOk.or gWkE gWkX (by decide) (by decide)
  have x_fWk : DrX P w K mg base (spWalkedA K C xL xS xT) "walked" ["levels", "steps"] 8 := ⟨⟨fWk, _, gWk, b_fWk, m_fWk, kf_fWk⟩⟩
  have e_fWk : DrBX P w K mg base (spWalkedA K C xL xS xT) "walked" ["levels", "steps"] 8 := ⟨⟨fWk, _, gWk, fun s us hl => (by obtain ⟨a, b, rfl⟩ := two_of hl; exact .of_eq rfl), m_fWk, kf_fWk⟩⟩
  have d_fRe : Dr P w K mg base (spReach K C) "reach" ["trip"] 3 := ⟨⟨fRe, _, ok_reach F_fRe R Z (none (n := "min") (by decide +kernel)) (none (n := "max") (by decide +kernel)), b_fRe, m_fRe, kf_fRe⟩⟩
  have d_fLn : Dr P w K mg base (spLeast K C) "least_number" ["trip"] 4 := ⟨⟨fLn, _, ok_least F_fLn R Z d_fRe (none (n := "sum") (by decide +kernel)) (none (n := "abs") (by decide +kernel)), b_fLn, m_fLn, kf_fLn⟩⟩
  have x_fSt : DrX P w K mg base (spAskE K xR) "steps" ["trip"] 4 := ⟨⟨fSt, _, ok_stepsE F_fSt x_fCR, b_fSt, m_fSt, kf_fSt⟩⟩
  have d_fRb : Dr P w K mg base (spRowBy K) "row_by" ["lamps", "stops"] 1 := ⟨⟨fRb, _, ok_rowBy F_fRb (none (n := "dict") (by decide +kernel)), b_fRb, m_fRb, kf_fRb⟩⟩
  have gWlX := ok_lwk F_fWl R Z d_fCR d_fLn d_fRe d_fRb ZT yT mT
  have gWlE := ok_lwkE F_fWl x_fCR
  have gWl : FnOk P w K mg base (L2.CX P w) 6 fWl _ ["trip"] (spLWkA K C xR xT) := FnOk.or gWlE gWlX (by decide) (by decide)
  have x_fWl : DrX P w K mg base (spLWkA K C xR xT) "least_walk" ["trip"] 6 := ⟨⟨fWl, _, gWl, b_fWl, m_fWl, kf_fWl⟩⟩
  have d_fCa : Dr P w K mg base spCast "_law_cast" ["_law_pail", "_law_many"] 1 := ⟨⟨fCa, _, ok_cast F_fCa (none (n := "int") (by decide +kernel)) (none (n := "divmod") (by decide +kernel)), b_fCa, m_fCa, kf_fCa⟩⟩
  have d_fBe : Dr P w K mg base (spBegun K) "_law_begun" ["_law_script", "_law_turn"] 1 := ⟨⟨fBe, _, ok_begun F_fBe (none (n := "int") (by decide +kernel)) (none (n := "len") (by decide +kernel)) (none (n := "abs") (by decide +kernel)), b_fBe, m_fBe, kf_fBe⟩⟩
  have gCa : FnOk P w K mg base CX0 1 fCa _ _ spCast := ok_cast F_fCa (none (n := "int") (by decide +kernel)) (none (n := "divmod") (by decide +kernel))
  have gAn : FnOk P w K mg base CX0 2 fAn _ _ spAny := ok_any F_fAn gCa b_fCa m_fCa kf_fCa (none (n := "len") (by decide +kernel))
  have d_fAn : Dr P w K mg base spAny "_law_any_of" ["_law_pail", "_law_some_here"] 2 := ⟨⟨fAn, _, gAn, b_fAn, m_fAn, kf_fAn⟩⟩
  have d_fVa : Dr P w K mg base spVast "_law_vast" ["_law_pail", "_law_many"] 2 := ⟨⟨fVa, _, ok_vast F_fVa d_fCa (none (n := "int") (by decide +kernel)) (none (n := "range") (by decide +kernel)), b_fVa, m_fVa, kf_fVa⟩⟩
  have d_fWh : Dr P w K mg base (spLWhole K) "_law_is_whole" ["_law_value"] 1 := ⟨⟨fWh, _, ok_lwhole F_fWh (none (n := "isinstance") (by decide +kernel)) (none (n := "int") (by decide +kernel)) (none (n := "bool") (by decide +kernel)), b_fWh, m_fWh, kf_fWh⟩⟩
  have d_fTg : Dr P w K mg base (spThing K) "_law_thing" ["_law_pail"] 3 := ⟨⟨fTg, _, ok_thing F_fTg gAn b_fAn m_fAn kf_fAn, b_fTg, m_fTg, kf_fTg⟩⟩
  have d_fIv : Dr P w K mg base (spLLev K) "_law_is_levels" ["_law_value"] 2 := ⟨⟨fIv, _, ok_llev F_fIv d_fWh, b_fIv, m_fIv, kf_fIv⟩⟩
  have d_fLw : Dr P w K mg base spLWalk "_law_walk" ["_law_pail", "_law_most"] 3 := ⟨⟨fLw, _, ok_lwalk F_fLw d_fCa d_fAn (none (n := "range") (by decide +kernel)), b_fLw, m_fLw, kf_fLw⟩⟩
  have gDu := ok_ldue F_fDu d_fIv (none (n := "repr") (by decide +kernel)) (none (n := "isinstance") (by decide +kernel)) (none (n := "str") (by decide +kernel)) (none (n := "range") (by decide +kernel)) (none (n := "len") (by decide +kernel))
  have d_fSm : Dr P w K mg base (spLSome K) "_law_some" ["_law_pail"] 4 := ⟨⟨fSm, _, ok_lsome F_fSm d_fLw d_fCa d_fAn d_fTg (none (n := "len") (by decide +kernel)), b_fSm, m_fSm, kf_fSm⟩⟩
  have gSo : FnO P w K mg base 2 fSo _ ["_law_e"] (spSort K xL xS xR xT) := ok_sort F_fSo (metaB_ok hmeta) ⟨m_cA, m_cB, m_cC, m_xL, m_xS, m_xR, m_xT, (none (n := "ValueError") (by decide +kernel)), (none (n := "LookupError") (by decide +kernel)), (none (n := "ArithmeticError") (by decide +kernel))⟩ DL DS DR DT (none (n := "isinstance") (by decide +kernel)) (none (n := "repr") (by decide +kernel)) (none (n := "len") (by decide +kernel))
  have Aw : AnsO P w K mg base cA cB cC (spSort K xL xS xR xT) 2 := ansO_mk ⟨⟨fSo, _, gSo, b_fSo, m_fSo, kf_fSo⟩⟩ m_cA m_cB m_cC F_fAw b_fAw m_fAw kf_fAw
  have gRg := ok_right (T := [(tabA K cd_fRg, qR)]) F_fRg ca_fRg tb_fRg (by simp) (fun p hp e => by
    simp only [List.mem_cons, List.not_mem_nil, or_false] at hp
    rcases hp with rfl
    rfl) d_fAn d_fCa d_fVa d_fTg d_fSm gDu b_fDu m_fDu kf_fDu M mR x_fWk e_fWk x_fSt x_fWl Aw xmL xmS xmR xmT (none (n := "range") (by decide +kernel)) (none (n := "len") (by decide +kernel)) (none (n := "str") (by decide +kernel)) (none (n := "repr") (by decide +kernel))
  exact ok_law F_fLaw gRg b_fRg m_fRg kf_fRg d_fBe (none (n := "range") (by decide +kernel)) (none (n := "len") (by decide +kernel)) (none (n := "all") (by decide +kernel)) (none (n := "max") (by decide +kernel)) (none (n := "min") (by decide +kernel))
open PySem.W in
theorem walk {l : PySem.W.OpenLaw} {q : Program} {loose : List Str} {XP : (Str → Option Value) → Heap → Prop} {YP : World → Heap → Prop} {d : DefRec} {K : Params → PySem.W.Frag} (hn : l.most = some 63) (hdf : d.params.defaults = []) (hrec : ∀ x ∈ (["_law_right"] : List Str), ((recsOf q).any fun e => e.name == x) = true) (hY : ∀ (w : World) (h : Heap), YP w h → (K w.params).In h)
    (F : ∀ (w : World) (mg : Str → Option Value) (fa : Addr) (h : Heap), (K w.params).In h → h.Ns mainGlobals mg → mg d.name = some (.ref fa) → ∃ (fd : FuncData) (cs : List (Addr × Addr)) (sp : Sp), (∀ p ∈ cs, TabOf (K w.params) mg ["_law_right"] p) ∧ (∀ (s : Shared) (u : Value), BindsTo s fd ⟨[u], []⟩ [("_law_script", u)]) ∧
      (∀ (H : Hp) (a : Addr) (ns : List Int), ns.length ≤ 63 → (∀ z ∈ ns, Builtin.Int.intBits z ≤ 1048576) → (∀ p ∈ cs, H p.2 = some (.tbl #[])) → SqL (K w.params) H a (ns.map V.int) → sp [.ref a] H (fun v _ => v = .bl true) E0) ∧
        ∀ base : Heap, (K w.params).In base → base.Ns mainGlobals mg → (∀ p ∈ cs, TabB base mg p.1 p.2) → FnG l.prog w (K w.params) mg base 13 fa fd ["_law_script"] sp) : PySem.W.WalkO q loose XP YP l.row.toRowW d [] (fun f vs => PySem.call f vs) :=
  walk_ofGT (n := 63) (k := 13) (x := "_law_script") ["_law_right"] hn (by decide) hdf ⟨rfl, by decide, by decide⟩ hrec hY F
end Lamp
set_option Elab.async false
open PySem PySem.W PyProof.Rows
set_option maxRecDepth 100000 in
set_option maxHeartbeats 0 in
theorem PySem.Challenge.cw_lamprounds_k14_rows_of_steps_refused_holds : PySem.Challenge.rw_lamprounds_k14_rows_of_steps_refused.Holds := by
  w_on; o_law; k_head; (case hw => w_witness2)
  k_fill
  refine Lamp.walk (l := PySem.Challenge.rw_lamprounds_k14_rows_of_steps_refused) rfl rfl ?hrec (fun w h Y => PySem.W.km_in_of Y) ?F
  (case hrec => decide +kernel)
  case F =>
    intro w mg fa h KX G hmg
    refine' Lamp.all_mk KX G hmg ?nC ?n_cA ?n_cB ?n_cC ?n_xL ?n_xS ?n_xR ?n_xT ?nf_fII ?lf_fII ?cf_fII ?kf_fII ?nf_fIL ?lf_fIL ?cf_fIL ?kf_fIL ?nf_fIM ?lf_fIM ?cf_fIM ?kf_fIM ?nf_fWL ?lf_fWL ?cf_fWL ?kf_fWL ?nf_fCL ?lf_fCL ?cf_fCL ?kf_fCL ?nf_fCR ?lf_fCR ?cf_fCR ?kf_fCR ?nf_fCM ?lf_fCM ?cf_fCM ?kf_fCM ?nf_fRo ?lf_fRo ?cf_fRo ?kf_fRo ?nf_fTo ?lf_fTo ?cf_fTo ?kf_fTo ?nf_fWs ?lf_fWs ?cf_fWs ?kf_fWs ?nf_fWk ?lf_fWk ?cf_fWk ?kf_fWk ?nf_fRe ?lf_fRe ?cf_fRe ?kf_fRe ?nf_fLn ?lf_fLn ?cf_fLn ?kf_fLn ?nf_fSt ?lf_fSt ?cf_fSt ?kf_fSt ?nf_fRb ?lf_fRb ?cf_fRb ?kf_fRb ?nf_fWl ?lf_fWl ?cf_fWl ?kf_fWl ?nf_fBe ?lf_fBe ?cf_fBe ?kf_fBe ?nf_fCa ?lf_fCa ?cf_fCa ?kf_fCa ?nf_fAn ?lf_fAn ?cf_fAn ?kf_fAn ?nf_fVa ?lf_fVa ?cf_fVa ?kf_fVa ?nf_fWh ?lf_fWh ?cf_fWh ?kf_fWh ?nf_fTg ?lf_fTg ?cf_fTg ?kf_fTg ?nf_fIv ?lf_fIv ?cf_fIv ?kf_fIv ?nf_fLw ?lf_fLw ?cf_fLw ?kf_fLw ?nf_fSo ?lf_fSo ?cf_fSo ?kf_fSo ?nf_fAw ?lf_fAw ?cf_fAw ?kf_fAw ?nf_fDu ?lf_fDu ?cf_fDu ?kf_fDu ?nf_fSm ?lf_fSm ?cf_fSm ?kf_fSm ?nf_fRg ?lf_fRg ?cf_fRg ?kf_fRg ?nf_fLaw ?lf_fLaw ?cf_fLaw ?kf_fLaw ?fm_gIn ?lf_gIn ?cf_gIn ?kf_gIn ?if_gIn ?fm_gEq ?lf_gEq ?cf_gEq ?kf_gEq ?if_gEq ?fm_iL ?lf_iL ?cf_iL ?kf_iL ?if_iL ?fm_iS ?lf_iS ?cf_iS ?kf_iS ?if_iS ?fm_iR ?lf_iR ?cf_iR ?kf_iR ?if_iR ?fm_iT ?lf_iT ?cf_iT ?kf_iT ?if_iT ?pa_gLv ?pr_gLv ?pg_gLv ?pt_gLv ?lf_gLv ?cf_gLv ?kf_gLv ?pa_gLa ?pr_gLa ?pg_gLa ?pt_gLa ?lf_gLa ?cf_gLa ?kf_gLa ?pa_gEn ?pr_gEn ?pg_gEn ?pt_gEn ?lf_gEn ?cf_gEn ?kf_gEn ?nL ?lL ?nM ?nG ?lG ?nT ?all
    (case nC => k_is)
    (case n_cA => k_is)
    (case n_cB => k_is)
    (case n_cC => k_is)
    (case n_xL => k_is)
    (case n_xS => k_is)
    (case n_xR => k_is)
    (case n_xT => k_is)
    (case nf_fII => k_is)
    (case lf_fII => k_is)
    (case cf_fII => k_is)
    (case kf_fII => k_is)
    (case nf_fIL => k_is)
    (case lf_fIL => k_is)
    (case cf_fIL => k_is)
    (case kf_fIL => k_is)
    (case nf_fIM => k_is)
    (case lf_fIM => k_is)
    (case cf_fIM => k_is)
    (case kf_fIM => k_is)
    (case nf_fWL => k_is)
    (case lf_fWL => k_is)
    (case cf_fWL => k_is)
    (case kf_fWL => k_is)
    (case nf_fCL => k_is)
    (case lf_fCL => k_is)
    (case cf_fCL => k_is)
    (case kf_fCL => k_is)
    (case nf_fCR => k_is)
    (case lf_fCR => k_is)
    (case cf_fCR => k_is)
    (case kf_fCR => k_is)
    (case nf_fCM => k_is)
    (case lf_fCM => k_is)
    (case cf_fCM => k_is)
    (case kf_fCM => k_is)
    (case nf_fRo => k_is)
    (case lf_fRo => k_is)
    (case cf_fRo => k_is)
    (case kf_fRo => k_is)
    (case nf_fTo => k_is)
    (case lf_fTo => k_is)
    (case cf_fTo => k_is)
    (case kf_fTo => k_is)
    (case nf_fWs => k_is)
    (case lf_fWs => k_is)
    (case cf_fWs => k_is)
    (case kf_fWs => k_is)
    (case nf_fWk => k_is)
    (case lf_fWk => k_is)
    (case cf_fWk => k_is)
    (case kf_fWk => k_is)
    (case nf_fRe => k_is)
    (case lf_fRe => k_is)
    (case cf_fRe => k_is)
    (case kf_fRe => k_is)
    (case nf_fLn => k_is)
    (case lf_fLn => k_is)
    (case cf_fLn => k_is)
    (case kf_fLn => k_is)
    (case nf_fSt => k_is)
    (case lf_fSt => k_is)
    (case cf_fSt => k_is)
    (case kf_fSt => k_is)
    (case nf_fRb => k_is)
    (case lf_fRb => k_is)
    (case cf_fRb => k_is)
    (case kf_fRb => k_is)
    (case nf_fWl => k_is)
    (case lf_fWl => k_is)
    (case cf_fWl => k_is)
    (case kf_fWl => k_is)
    (case nf_fBe => k_is)
    (case lf_fBe => k_is)
    (case cf_fBe => k_is)
    (case kf_fBe => k_is)
    (case nf_fCa => k_is)
    (case lf_fCa => k_is)
    (case cf_fCa => k_is)
    (case kf_fCa => k_is)
    (case nf_fAn => k_is)
    (case lf_fAn => k_is)
    (case cf_fAn => k_is)
    (case kf_fAn => k_is)
    (case nf_fVa => k_is)
    (case lf_fVa => k_is)
    (case cf_fVa => k_is)
    (case kf_fVa => k_is)
    (case nf_fWh => k_is)
    (case lf_fWh => k_is)
    (case cf_fWh => k_is)
    (case kf_fWh => k_is)
    (case nf_fTg => k_is)
    (case lf_fTg => k_is)
    (case cf_fTg => k_is)
    (case kf_fTg => k_is)
    (case nf_fIv => k_is)
    (case lf_fIv => k_is)
    (case cf_fIv => k_is)
    (case kf_fIv => k_is)
    (case nf_fLw => k_is)
    (case lf_fLw => k_is)
    (case cf_fLw => k_is)
    (case kf_fLw => k_is)
    (case nf_fSo => k_is)
    (case lf_fSo => k_is)
    (case cf_fSo => k_is)
    (case kf_fSo => k_is)
    (case nf_fAw => k_is)
    (case lf_fAw => k_is)
    (case cf_fAw => k_is)
    (case kf_fAw => k_is)
    (case nf_fDu => k_is)
    (case lf_fDu => k_is)
    (case cf_fDu => k_is)
    (case kf_fDu => k_is)
    (case nf_fSm => k_is)
    (case lf_fSm => k_is)
    (case cf_fSm => k_is)
    (case kf_fSm => k_is)
    (case nf_fRg => k_is)
    (case lf_fRg => k_is)
    (case cf_fRg => k_is)
    (case kf_fRg => k_is)
    (case nf_fLaw => k_is)
    (case lf_fLaw => k_is)
    (case cf_fLaw => k_is)
    (case kf_fLaw => k_is)
    (case fm_gIn => k_is)
    (case lf_gIn => k_is)
    (case cf_gIn => k_is)
    (case kf_gIn => k_is)
    (case if_gIn => k_is)
    (case fm_gEq => k_is)
    (case lf_gEq => k_is)
    (case cf_gEq => k_is)
    (case kf_gEq => k_is)
    (case if_gEq => k_is)
    (case fm_iL => k_is)
    (case lf_iL => k_is)
    (case cf_iL => k_is)
    (case kf_iL => k_is)
    (case if_iL => k_is)
    (case fm_iS => k_is)
    (case lf_iS => k_is)
    (case cf_iS => k_is)
    (case kf_iS => k_is)
    (case if_iS => k_is)
    (case fm_iR => k_is)
    (case lf_iR => k_is)
    (case cf_iR => k_is)
    (case kf_iR => k_is)
    (case if_iR => k_is)
    (case fm_iT => k_is)
    (case lf_iT => k_is)
    (case cf_iT => k_is)
    (case kf_iT => k_is)
    (case if_iT => k_is)
    (case pa_gLv => k_is)
    (case pr_gLv => k_is)
    (case pg_gLv => k_is)
    (case pt_gLv => k_is)
    (case lf_gLv => k_is)
    (case cf_gLv => k_is)
    (case kf_gLv => k_is)
    (case pa_gLa => k_is)
    (case pr_gLa => k_is)
    (case pg_gLa => k_is)
    (case pt_gLa => k_is)
    (case lf_gLa => k_is)
    (case cf_gLa => k_is)
    (case kf_gLa => k_is)
    (case pa_gEn => k_is)
    (case pr_gEn => k_is)
    (case pg_gEn => k_is)
    (case pt_gEn => k_is)
    (case lf_gEn => k_is)
    (case cf_gEn => k_is)
    (case kf_gEn => k_is)
    (case nL => k_is)
    (case lL => k_is)
    (case nM => k_is)
    (case nG => k_is)
    (case lG => k_is)
    (case nT => k_is)
    (case all => kernel_rfl)
