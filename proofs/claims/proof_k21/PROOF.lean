import PyProof.Rows.All
import Wide.All
import OpenK.AllK
import Wide.FinOn
import HandS.ForMost
import HandS.Wide
import HandS.WideBits
import HandS.EndBits
import HandS.Steps
import HandS.ExcInit
import KE.KExcLine
import KE.KExcIs
import HandS.ExcOwn
import HandS.ExcValue
import HandS.IsInst
import HandS.ExcField
import HandS.List
import HandS.More
import HandS.Dict
import HandS.Keys
import HandS.Call
import KE.KDictPairs
import KE.KEqNest
import HandS.DictEq
import HandS.Conv
import HandS.SortInts
import KE.GoesMore
import HandS.TupAny
import HandS.Text
import HandS.StrMore
import HandS.FStr
import KE.IntTextLaws
import HandS.Deep
import KE.KCallOwn
import HandS.Property
import HandS.ClsMeth
import HandS.MakeKwOnly
import HandS.RaiseMore
import HandS.Comp
import HandS.OwnEq
import HandS.Iter
import HandS.NoneIn
import PySem.Challenge.RW_lamprounds_k21_whole_rounds_that_commute
set_option Elab.async false
set_option linter.all false
set_option maxRecDepth 100000
namespace Lamp
open PySem PySem.Spec PyProof.Rows L2
/-! A def's promise where it is known that no repr is under way. -/
structure FnG (P : Program) (w : World) (K : PySem.W.Frag) (mg : Str → Option Value) (base : Heap) (k : Nat) (f : Addr) (fd : FuncData) (ps : List Str) (sp : Sp) : Prop where
  many : ∀ vs H Q E, sp vs H Q E → vs.length = ps.length
  goes : ∀ (A : Around) (out : List Env) (s : Shared) (H : Hp) (ar : Args) (us : List Value) (vs : List V) (Q : VK) (E : XK), A.guards = some [] → Room k A → Env0 P w K mg base A out s H →
    BindsTo s fd ar (ps.zip us) → Vals vs us → sp vs H Q E → codeAny (model P w) A (.call (.ref f) ar) (CR CX0 out P w H s Q E) s
section
variable {P : Program} {w : World} {K : PySem.W.Frag} {mg : Str → Option Value} {base : Heap}
theorem FnG.of {k : Nat} {f : Addr} {fd : FuncData} {ps : List Str} {sp : Sp} (F : FnOk P w K mg base CX0 k f fd ps sp) : FnG P w K mg base k f fd ps sp :=
  ⟨F.len, fun A out s H ar us vs Q E _ hr he hb hv hs => F.run A out s H ar us vs Q E hr he hb hv hs⟩
theorem FnG.up {j k : Nat} {f : Addr} {fd : FuncData} {ps : List Str} {sp : Sp} (F : FnG P w K mg base j f fd ps sp) (h : j ≤ k) : FnG P w K mg base k f fd ps sp :=
  ⟨F.many, fun A out s H ar us vs Q E hg hr he hb hv hs => F.goes A out s H ar us vs Q E hg (hr.mono h) he hb hv hs⟩
/-- the rule for a def, by its body -/
theorem okG {x qual : Str} {st : Stmt} {f : Addr} {fd : FuncData} {N ps : List Str} {k : Nat} {sp : Sp} (F : Fun K x qual st f fd) (S : FnScope N ps (defScope st)) (len : ∀ vs H Q E, sp vs H Q E → vs.length = ps.length)
    (hbody : ∀ (cdv : Value) (A : Around) (outer : List Env) (s : Shared) (H : Hp) (vs : List V) (Q : VK) (E : XK), A.guards = some [] → Room k (A.deeper (envOfC qual (defScope st) s.heap.objs.size f cdv)) → sp vs H Q E →
      ∃ t, PSs (cxOf CX0 P w K mg base N qual (defScope st) f cdv A outer s H E).nox (defBody st) t ∧ t { nx := fun _ H' => Q .non H', rt := Q } (start N vs) H) : FnG P w K mg base (k + 1) f fd ps sp := by
  obtain ⟨oc, od, kV, doc, pm, an, cdv, ct, osl, efd, hlk, hcode⟩ := F.ex
  subst efd
  refine ⟨len, fun A out s H ar us vs Q E hgd hroom hst hbind hvals hs => ?_⟩
  have hcount := len _ _ _ _ hs
  have inK : K.In s.heap := hst.mod.kin.keeps fun b o e => (hst.bs b o e).1
  have noLim : s.heap.NoLimit := hst.mod.nolimit.keeps fun b o e => (hst.bs b o e).1
  refine codeAny_call_function hroom.depth (inK _ _ hlk) rfl S.co S.gen rfl (PySem.W.codeRec_of inK hcode) (hbind _ _ _ _ ?_)
  refine wpAny_newFunctionEnv_cells S.kind (fun y hy => ?_) fun env eenv s1 xin => ?_
  · obtain ⟨nm, val⟩ := y
    cases S.par nm (List.of_mem_zip hy).1 with
    | inl isLocal => exact .inl isLocal
    | inr isCell => exact .inr ⟨isCell, PySem.W.cellsFrom_some _ _ _ (.inl isCell)⟩
  subst eenv
  refine ⟨noLim.keeps xin.toInCall.keep, codeAny_func ?_⟩
  obtain ⟨t, ht0, hq⟩ := hbody cdv A out s H vs Q E hgd (hroom.deeper _) hs
  have ht := ht0.nox
  have inv0 : Inv (cxOf CX0 P w K mg base N qual (defScope st) f cdv A out s H E) [] (start N vs) H s1 := inv_start S hroom.hd hst hcount hvals xin
  have fin : ∀ {σ' : L2.St} {H' : Hp} {v : V} {u : Value} {s' : Shared}, Inv (cxOf CX0 P w K mg base N qual (defScope st) f cdv A out s H E) [] σ' H' s' → RelV v u → Q v H' → CE out P w H s Q u s' := fun J rv q => ⟨_, _, J.os, J.bare, J.base, J.hok, rv, q⟩
  refine wpAny_mono (ht.run [] s1 (start N vs) H _ inv0 hq) (fun flow s' told => ?_) fun e s' told => told
  match flow, told with
  | .ret u, ⟨v, σ', H', J, rv, q⟩ => exact fin J rv q
  | .next, ⟨σ', H', J, q⟩ => exact fin (v := V.non) (u := Value.none) J rfl q
  | .brk, ⟨_, _, _, q⟩ => exact False.elim q
  | .cont, ⟨_, _, _, q⟩ => exact False.elim q
end
section
variable {X : Cx} {k : Nat} {f : Addr} {fd : FuncData} {ps : List Str} {sp : Sp} {dvs : List V} {ds : List Value} {x : Str} {p pos : Pos} {e : Expr} {es : List Expr} {t : TA}
theorem runG {pins : List (Addr × Obj)} {σ : L2.St} {H : Hp} {s : Shared} {Q : VK} {us : List Value} {vs : List V} (F : FnG X.prog X.w X.K X.mg X.base k f fd ps sp) (hgd : X.A.guards = some []) (hr : Room k X.A) (hb : Binds X.K fd ps [])
    (I : Inv X pins σ H s) (r : Vals vs us) (h : sp vs H Q E0) : wpAny (model X.prog X.w) X.A (call (.ref f) us) (EP X pins σ Q) X.xe s := by
  have hl : (us ++ []).length = ps.length := by rw [List.append_nil, ← r.length]; exact F.many _ _ _ _ h
  have hbb := hb s us I.kIn hl
  rw [List.append_nil] at hbb
  refine wpAny_call (codeAny_mono (F.goes X.A X.stack s H ⟨us, []⟩ us vs Q E0 hgd hr I.env0 hbb r h) fun res s' told => ?_)
  match res, told with
  | .error _, told => exact False.elim told
  | .ok (.ret u), told => exact I.after told
  | .ok .next, told => exact False.elim told
  | .ok .brk, told => exact False.elim told
  | .ok .cont, told => exact False.elim told
/-- f(e, ..) -/
def tCallG (sp : Sp) (t : TA) : TE := fun σ H Q => t σ H fun vs H1 => sp vs H1 Q E0
theorem pe_callG (F : FnG X.prog X.w X.K X.mg X.base k f fd ps sp) (hgd : X.A.guards = some []) (hr : Room k X.A) (hg : Gl X x) (hm : X.mg x = some (.ref f)) (hk : PySem.W.keepIn X.K (.ref f) = true) (hb : Binds X.K fd ps [])
    (ha : PA X (e :: es) t) (hdb : (x == ("__debug__" : Str)) = false := by decide) (he : starEach (e :: es) X.env = (false, eval e X.env) :: starEach es X.env := by rfl) (hpl : (backTo pos (starEach es X.env)).any (·.1) = false := by rfl) :
    PE X (.Call (.Name x p) (e :: es) [] pos) (tCallG sp t) :=
  ⟨fun pins s σ H Q I h => wpAny_Call_Name_kw (ld_glob I hg hm (PySem.W.callWith_K (h₀ := X.base) I.ok.mod.kin hk (thn (ha.run pos pins s σ H _ I h) fun us s1 ⟨vs, H1, I1, r, q⟩ =>
    ⟨I1.kIn, runG F hgd hr hb I1 r q⟩) he hpl) hdb)⟩
end
/-! the law's own call, from its promise -/
theorem law_goes {P : Program} {w : World} {K : PySem.W.Frag} {mg mb : Str → Option Value} {k : Nat} {fa a : Addr} {fd : FuncData} {x : Str} {sp : Sp} {sh : Shared} {vs : List Value} {ns : List Int} {H : Hp}
    (inK : K.In sh.heap) (nsG : sh.heap.Ns mainGlobals mg) (nsB : sh.heap.Ns builtinsNs mb) (bltn : ∀ x : Str, x ≠ "__name__" → mb x = bootBuiltins x) (noLim : sh.heap.NoLimit) (noGen : sh.gens = #[])
    (there : sh.heap.get? a = some { cls := .type "list", data := .seq vs.toArray }) (room : Room k callerA)
    (F : ∀ base : Heap, K.In base → base.Ns mainGlobals mg → FnG P w K mg base k fa fd [x] sp) (hbind : ∀ (s : Shared) (u : Value), BindsTo s fd ⟨[u], []⟩ [(x, u)])
    (asked : sp [.ref a] H (fun v _ => v = .bl true) E0) (only : Only H) (hok : HOk P w H sh.heap) (alone : ∀ b u, H b = some u → b = a ∧ K.lookup a = none) :
    codeAny (model P w) callerA (.call (.ref fa) ⟨[.ref a], []⟩) (fun r s' => r = .ok (.ret (.bool true)) ∧ OldK sh.heap s'.heap ∧ s'.os = sh.os ∧ AllBare s'.gens) sh := by
  have untold : ∀ {b : Addr} {o : Obj}, sh.heap.get? b = some o → (b = a → o.cls ≠ .type "list") → H b = none := fun {b o} e ne => by
    cases q : H b with
    | none => rfl
    | some u =>
      have eb := (alone b u q).1
      subst eb
      rw [there] at e
      cases e
      exact absurd rfl (ne rfl)
  have nsKeep : ∀ {b : Addr} {m : Str → Option Value}, sh.heap.Ns b m → (hidT sh.heap H).Ns b m := fun {b m} told => by
    obtain ⟨o, es, ep, e, d, r⟩ := told
    refine ⟨o, es, ep, hidT_get e ?_, d, r⟩
    cases q : H b with
    | none => rfl
    | some u =>
      have eb := (alone b u q).1
      subst eb
      rw [there] at e
      cases e
      exact Data.noConfusion d
  have inK' : K.In (hidT sh.heap H) := fun b o e => hidT_get (inK b o e) (by
    cases q : H b with
    | none => rfl
    | some u =>
      obtain ⟨eb, none⟩ := alone b u q
      rw [eb, none] at e
      cases e)
  obtain ⟨mc, lim1, lim2⟩ := noLim
  have start0 : Env0 P w K mg (hidT sh.heap H) callerA [] sh H :=
    { frames := rfl, mod := ⟨inK', nsKeep nsG, ⟨mb, nsKeep nsB, bltn⟩, ⟨mc, nsKeep lim1, lim2⟩⟩, bs := fun b o e => of_hidT e, bsz := Nat.le_of_eq (hidT_size _ _), funs := trivial, frf := (fun b hb => nomatch hb), hok := hok, bare := .of_eq noGen }
  refine codeAny_mono ((F _ inK' (nsKeep nsG)).goes callerA [] sh H ⟨[.ref a], []⟩ [.ref a] [.ref a] _ _ rfl room start0 (hbind sh (.ref a)) (.cons rfl .nil) asked) fun res s' told => ?_
  match res, told with
  | .error _, told => exact False.elim told
  | .ok .next, told => exact False.elim told
  | .ok .brk, told => exact False.elim told
  | .ok .cont, told => exact False.elim told
  | .ok (.ret u), ⟨v, H', os, bare, un, hok', rv, ev⟩ =>
    have ev' : v = .bl true := ev
    subst ev'
    have eu : u = Value.bool true := rv
    subst eu
    refine ⟨rfl, OldK.of_keep fun b o e => ?_, os, bare⟩
    rcases only b with none | ⟨ob, xs, froz⟩
    · exact un.keep b o e none (fun z => nomatch z) (fun z => nomatch z)
    · have old := (hok b _ froz).1
      have new := (hok' b _ (un.frzs b ob _ froz)).1
      rw [e] at old
      cases old
      exact new
theorem law_goes2 {P : Program} {w : World} {K : PySem.W.Frag} {mg mb : Str → Option Value} {k : Nat} {fa a : Addr} {fd : FuncData} {x : Str} {sp : Sp} {sh : Shared} {vs : List Value} {ns : List Int}
    (inK : K.In sh.heap) (nsG : sh.heap.Ns mainGlobals mg) (nsB : sh.heap.Ns builtinsNs mb) (bltn : ∀ x : Str, x ≠ "__name__" → mb x = bootBuiltins x) (noLim : sh.heap.NoLimit) (noGen : sh.gens = #[])
    (there : sh.heap.get? a = some { cls := .type "list", data := .seq vs.toArray }) (areInts : IntsAre vs ns) (short : ns.length ≤ sizeLine) (room : Room k callerA)
    (F : ∀ base : Heap, K.In base → base.Ns mainGlobals mg → FnG P w K mg base k fa fd [x] sp) (hbind : ∀ (s : Shared) (u : Value), BindsTo s fd ⟨[u], []⟩ [(x, u)])
    (asked : ∀ H : Hp, Only H → SqL K H a (ns.map V.int) → sp [.ref a] H (fun v _ => v = .bl true) E0) :
    codeAny (model P w) callerA (.call (.ref fa) ⟨[.ref a], []⟩) (fun r s' => r = .ok (.ret (.bool true)) ∧ OldK sh.heap s'.heap ∧ s'.os = sh.os ∧ AllBare s'.gens) sh := by
  have vals := vals_ints areInts
  have same := areInts.length
  cases look : K.lookup a with
  | some o =>
    have e := inK a o look
    rw [there] at e
    cases e
    have on : Only fun _ => none := fun _ => .inl rfl
    exact law_goes (ns := ns) inK nsG nsB bltn noLim noGen there room F hbind (asked _ on (.inr ⟨_, vs.toArray, _, look, rfl, rfl, rfl, by rw [List.size_toArray, same]; exact short, vals⟩)) on (fun b u z => nomatch z) (fun b u z => nomatch z)
  | none =>
    let held : HO := .frz { cls := .type "list", data := .seq vs.toArray } (.lst (ns.map V.int))
    have at_ : ∀ b, b = a → (fun c => if c = a then some held else none : Hp) b = some held := fun b e => if_pos e
    have off : ∀ b, b ≠ a → (fun c => if c = a then some held else none : Hp) b = none := fun b e => if_neg e
    have on : Only fun c => if c = a then some held else none := fun b => by
      by_cases eb : b = a
      · exact .inr ⟨_, _, at_ b eb⟩
      · exact .inl (off b eb)
    refine law_goes (ns := ns) inK nsG nsB bltn noLim noGen there room F hbind (asked _ on (.inl (.inr ⟨_, at_ a rfl⟩))) on (fun b u z => ?_) (fun b u z => ?_)
    · by_cases eb : b = a
      · subst eb
        have z2 := (at_ b rfl).symm.trans z
        cases z2
        exact ⟨there, by rw [List.length_map]; exact short, vs, _, vals, there⟩
      · have z2 := (off b eb).symm.trans z
        cases z2
    · by_cases eb : b = a
      · exact ⟨eb, look⟩
      · have z2 := (off b eb).symm.trans z
        cases z2
open PySem.W in
theorem walk_ofG {l : PySem.W.OpenLaw} {n k : Nat} {q : Program} {loose : List Str} {XP : (Str → Option Value) → Heap → Prop} {YP : World → Heap → Prop} {d : DefRec} {K : Params → PySem.W.Frag} {sp : World → Sp} {x : Str}
    (hn : l.most = some n) (hn2 : n ≤ sizeLine) (hdf : d.params.defaults = []) (hr : Room k callerA) (hY : ∀ (w : World) (h : Heap), YP w h → (K w.params).In h)
    (F : ∀ (w : World) (mg : Str → Option Value) (fa : Addr) (h : Heap), (K w.params).In h → h.Ns mainGlobals mg → mg d.name = some (.ref fa) → ∃ fd : FuncData, (∀ (s : Shared) (u : Value), BindsTo s fd ⟨[u], []⟩ [(x, u)]) ∧
        ∀ base : Heap, (K w.params).In base → base.Ns mainGlobals mg → FnG l.prog w (K w.params) mg base k fa fd [x] (sp w))
    (hsp : ∀ (w : World) (H : Hp) (a : Addr) (ns : List Int), ns.length ≤ n → (∀ z ∈ ns, Builtin.Int.intBits z ≤ 1048576) → Only H → SqL (K w.params) H a (ns.map V.int) → sp w [.ref a] H (fun v _ => v = .bl true) E0) :
    PySem.W.WalkO q loose XP YP l.row.toRowW d [] (fun f vs => PySem.call f vs) :=
  Att.attach_callB hn hdf fun w s₀ s₁ mg mb fa o pm cd doc a vs ns G Y ho hd hcd hmg hobj hints hlen hbits hg => by
    obtain ⟨fd, hb, hF⟩ := F w mg fa _ (hY w _ Y) G.T.g hmg
    exact law_goes2 (hY w _ Y) G.T.g G.T.b G.T.builtins G.T.nolimit hg hobj hints (Nat.le_trans hlen hn2) hr hF hb fun H hO hS => hsp w H a ns hlen hbits hO hS
end Lamp
set_option Elab.async false
set_option linter.all false
set_option maxRecDepth 100000
namespace Lamp
open PySem PySem.Spec PyProof.Rows L2
/-! repr of data -/
mutual
theorem dp_nodict {K : PySem.W.Frag} {H : Hp} : ∀ (d : PyData) (v : V), Dp K H v d → d.hasDict = false
  | .none, _, _ => by simp only [PyData.hasDict]
  | .bool _, _, _ => by simp only [PyData.hasDict]
  | .int _, _, _ => by simp only [PyData.hasDict]
  | .str _, _, _ => by simp only [PyData.hasDict]
  | .list ds, _, h => by
    cases h with
    | lst hs ha => simpa only [PyData.hasDict] using dpAll_nodict ds _ ha
  | .tuple ds, _, h => by
    cases h with
    | tup hs ha => simpa only [PyData.hasDict] using dpAll_nodict ds _ ha
  | .dict _, _, h => by cases h
theorem dpAll_nodict {K : PySem.W.Frag} {H : Hp} : ∀ (ds : List PyData) (vs : List V), DpAll K H vs ds → PyData.hasDictAll ds = false
  | [], _, _ => by simp only [PyData.hasDictAll]
  | d :: ds, _, h => by
    cases h with
    | cons h1 h2 => simp only [PyData.hasDictAll, dp_nodict d _ h1, dpAll_nodict ds _ h2, Bool.or_self]
end
/-- the data of a scalar -/
def scalD : V → Option PyData
  | .non => some .none
  | .bl b => some (.bool b)
  | .int i => some (.int i)
  | .str x => some (.str x)
  | _ => none
def keyD : Key → PyData
  | .inl i => .int i
  | .inr x => .str x
/-- a value that shows as data: data without dicts, or a dict of scalars -/
inductive Dq (K : PySem.W.Frag) (H : Hp) : V → PyData → Prop
  | plain {v : V} {d : PyData} : Dp K H v d → Dq K H v d
  | dict {a : Addr} {kvs : List (Key × V)} {es : List (PyData × PyData)} : H a = some (.dK kvs) → kvs.map (fun p => (keyD p.1, scalD p.2)) = es.map (fun p => (p.1, some p.2)) → Dq K H (.ref a) (.dict es)
theorem scal_reads {h : Heap} {v : V} {u : Value} {d : PyData} (e : scalD v = some d) (r : RelV v u) : Reads h u d [] := by
  cases v with
  | non => cases e; cases r; exact .none
  | bl b => cases e; cases r; exact .bool b
  | int i => cases e; obtain ⟨t, rfl⟩ := r; exact .int i t
  | str x => cases e; obtain ⟨t, rfl⟩ := r; exact .str x t
  | byt _ => cases e
  | flt _ => cases e
  | ref _ => cases e
  | ty _ => cases e
theorem key_reads {h : Heap} {k : Key} {u : Value} (e : keyIs k u = true) : Reads h u (keyD k) [] := by
  rcases keyIs_shape e with ⟨i, t, rfl, rfl⟩ | ⟨x, t, rfl, rfl⟩
  · exact .int i t
  · exact .str x t
theorem entries_read {P : Program} {w : World} {h : Heap} : ∀ {ents : List DictEntry} {vs : List (Key × Value)} {kvs : List (Key × V)} {es : List (PyData × PyData)}, Pairs (mixKind P w) ents vs → KV kvs vs →
    kvs.map (fun p => (keyD p.1, scalD p.2)) = es.map (fun p => (p.1, some p.2)) → ReadsAll h (ents.map (·.key)) (es.map (·.1)) [] ∧ ReadsAll h (ents.map (·.val)) (es.map (·.2)) [] := by
  intro ents vs kvs es hp
  induction hp generalizing kvs es with
  | nil =>
    intro hk e
    cases hk
    cases es with
    | nil => exact ⟨.nil, .nil⟩
    | cons _ _ => cases e
  | @cons en kv ents vs hkey hval _ ih =>
    intro hk e
    cases hk with
    | @cons p _ kvs' _ hpq hrest =>
      obtain ⟨ek, ev⟩ := hpq
      cases es with
      | nil => cases e
      | cons q es' =>
        simp only [List.map_cons, List.cons.injEq, Prod.mk.injEq] at e
        obtain ⟨⟨e1, e2⟩, e3⟩ := e
        obtain ⟨r1, r2⟩ := ih hrest e3
        have hkey' : keyIs p.1 en.key = true := by rw [ek]; exact hkey
        have k1 : Reads h en.key q.1 [] := by rw [← e1]; exact key_reads hkey'
        have k2 : Reads h en.val q.2 [] := scal_reads e2 (by rw [hval]; exact ev)
        exact ⟨by simpa using ReadsAll.cons k1 r1, by simpa using ReadsAll.cons k2 r2⟩
theorem dq_reads {X : Cx} {pins : List (Addr × Obj)} {σ : L2.St} {H : Hp} {s : Shared} (I : Inv X pins σ H s) {v : V} {u : Value} {d : PyData} (h : Dq X.K H v d) (r : RelV v u) :
    ∃ as, Reads s.heap u d as ∧ (d.hasDict = true → sysModules ∉ as) := by
  cases h with
  | plain h =>
    obtain ⟨as, q⟩ := Dp.reads I d v u h r
    exact ⟨as, q, fun z => by rw [dp_nodict d v h] at z; cases z⟩
  | @dict a kvs es ha he =>
    have eu : u = Value.ref a := r
    subst eu
    obtain ⟨_, low, vs, hk, o, ents, ep, h1, h2, h3, _, h5, _⟩ := (show ObjOk X.prog X.w H s.heap a (.dK kvs) from I.hok a _ ha)
    obtain ⟨q1, q2⟩ := entries_read (h := s.heap) h5 hk he
    refine ⟨_, Reads.dict h1 h2.1 h3 q1 q2, fun _ hm => ?_⟩
    simp at hm
    rw [← hm] at low
    simp at low
/-- repr(x) of data -/
def rReprD (K : PySem.W.Frag) : List V → Hp → VK → Prop := fun xs H Q => ∃ v d, xs = [v] ∧ Dq K H v d ∧ d.showable = true ∧ d.depth ≤ 60 ∧ d.shown.length ≤ sizeLine ∧ Q (.str d.shown) H
theorem call_reprD {X : Cx} (hgd : X.A.guards = some []) (hu : X.A.units + 64 < cLine) : CallR X (.builtin "repr") (rReprD X.K) := by
  intro pins s σ H xs us Q I r h
  obtain ⟨v, d, rfl, hd, hs, hdep, hlen, q⟩ := h
  obtain ⟨u, rfl, rv⟩ := vals1 r
  obtain ⟨as, hr, hsm⟩ := dq_reads I hd rv
  cases hr with
  | none => exact PySem.P.repr_of_none ⟨.str _, H, I.tok _, ⟨_, rfl⟩, q⟩
  | bool b => exact PySem.P.repr_of_bool ⟨.str _, H, I.tok _, ⟨_, rfl⟩, q⟩
  | int i t => exact PySem.P.repr_of_int (by simpa [PyData.showable] using hs) ⟨.str _, H, I.tok _, ⟨_, rfl⟩, q⟩
  | str x t => exact PySem.P.repr_of_str ⟨.str _, H, I.tok _, ⟨_, rfl⟩, q⟩ (by simpa [PyData.shown] using hlen)
  | list h1 h2 h3 h4 => exact repr_of_reads' (.list h1 h2 h3 h4) hs hsm hgd (by omega) (fun _ _ e => e) (fun h' u tk k => ⟨.str _, H, I.kept k, ⟨_, rfl⟩, q⟩) hlen
  | tuple h1 h2 h3 h4 => exact repr_of_reads' (.tuple h1 h2 h3 h4) hs hsm hgd (by omega) (fun _ _ e => e) (fun h' u tk k => ⟨.str _, H, I.kept k, ⟨_, rfl⟩, q⟩) hlen
  | dict h1 h2 h3 h4 h5 => exact repr_of_reads' (.dict h1 h2 h3 h4 h5) hs hsm hgd (by omega) (fun _ _ e => e) (fun h' u tk k => ⟨.str _, H, I.kept k, ⟨_, rfl⟩, q⟩) hlen
end Lamp
set_option Elab.async false
set_option linter.all false
set_option maxRecDepth 100000
set_option maxHeartbeats 4000000
namespace PySem
namespace LampX
open HandSPX Builtin Builtin.ObjectAttr
/-! an exception class of the program called, with keywords too -/
section
variable {prog : Program} {w : World} {M : Model} {A : Around} {E : Value → Shared → Prop} {R : Result → Shared → Prop} {h : Heap} {g : Array GenState} {d : Drawn} {t : Nat} {os : OsState}
variable {cn cq : Str} {C N : Addr} {bs bm tail : List Value} {hdct : Bool} {sn : List Str} {sub : List Value} {ab : Bool} {col : Option Bool} {dd : Option Addr} {k0 k1 k2 k3 k5 : Option Value} {B newId initId : String} {rest : List Value} {kw : List (Str × Value)}
theorem newChecked (F : ExcBaseFacts B newId initId tail) (hT : ∀ X : String, bm.contains (.type X) = tail.contains (.type X)) {Q : Unit → Shared → Prop}
    (hC : h.get? C = some (excClassObj cn cq C N bs bm hdct sn sub ab col dd k0 k1 k2 k3 k5 newId)) (hq : Q () ⟨h, g, d, t, os⟩) : wpAny M A (checkBuiltinCall newId ⟨.ref C :: rest, kw⟩) Q E ⟨h, g, d, t, os⟩ := by
  have below : (Value.ref C :: bm).contains (.type B) = true := by rw [List.contains_cons, hT, F.hasB, Bool.or_true]
  have plain := F.noStar
  simp only [checkBuiltinCall, F.newKind, F.newSplit, F.newRow]
  repeat (first | refine wpAny_loadPart_at hC ?_ | (refine wpAny_isSubtype_exc hC ?_; rw [below]) | refine wpAny_staticBase_exc hC ?_ | refine wpAny_madeBy_exc hC ?_ | simp only [bne_self_eq_false, Bool.false_eq_true, if_false] | wp_step)
  exact hq
theorem newMade (F : ExcBaseFacts B newId initId tail) (hT : ∀ X : String, bm.contains (.type X) = tail.contains (.type X))
    (hC : h.get? C = some (excClassObj cn cq C N bs bm hdct sn sub ab col dd k0 k1 k2 k3 k5 newId))
    (hq : R (.ok (.ret (.ref (h.objs.size + 1)))) ⟨(h.push (W.kdv_tup rest)).push (excO C h.objs.size), g, d, t, os⟩) (short : rest.length ≤ sizeLine) :
    codeAny (model prog w) A (.builtin newId ⟨.ref C :: rest, kw⟩) R ⟨h, g, d, t, os⟩ := by
  have stops := F.ends
  have isB : (Value.ref C :: bm).contains (.type B) = true := by rw [List.contains_cons, hT, F.hasB, Bool.or_true]
  have notA : (Value.ref C :: bm).contains (.type "AttributeError") = false := by rw [List.contains_cons, hT, F.noAttr] <;> rfl
  have notN : (Value.ref C :: bm).contains (.type "NameError") = false := by rw [List.contains_cons, hT, F.noName] <;> rfl
  refine codeAny_builtinAt F.entry ?_
  unfold Builtin.«BaseException.__new__»
  refine wpAt_bind ?_
  show wpAt _ _ _ (stack >>= _) _ _ _
  refine wpAt_bind (wpAt_stack fun p below => wpAt_of_wpAny ?_)
  wp_walk
  refine wpAt_of_wpAny ?_
  rw [F.owner]
  repeat (first | with_reducible refine wpAny_madeHere_exc F.canon hC ?_ | with_reducible refine wpAny_loadPart_at hC ?_ | (with_reducible refine wpAny_isSubtype_exc hC ?_; first | rw [isB] | rw [notA] | rw [notN]) | wp_step)
  show R _ _
  rw [Heap.size_push]
  exact hq
theorem typeCalled (F : ExcBaseFacts B newId initId tail) (hT : ∀ X : String, bm.contains (.type X) = tail.contains (.type X)) {fI : Addr} {Q : Fin → Shared → Prop}
    (hC : h.get? C = some (excClassObj cn cq C N bs bm hdct sn sub ab col dd k0 k1 k2 k3 k5 newId))
    (hi : W.Looks (model prog w) h (typeLookup (.ref C) "__init__") (some (.ref fI))) (hb : ∀ self, W.Looks (model prog w) h (bindSpecial (.ref fI) self) (.ref fI, [self])) (short : rest.length ≤ sizeLine)
    (hq : codeAny (model prog w) A (.call (.ref fI) ⟨.ref (h.objs.size + 1) :: rest, kw⟩)
      (fun r s' => match r with | .ok (.ret v) => v = .none ∧ Q (.done (.ret (.ref (h.objs.size + 1)))) s' | .ok _ => False | .error e => E e s') ⟨(h.push (W.kdv_tup rest)).push (excO C h.objs.size), g, d, t, os⟩) :
    wpAny (model prog w) A (Builtin.«type.__call__» ⟨.ref C :: rest, kw⟩) Q E ⟨h, g, d, t, os⟩ := by
  repeat (first | with_reducible refine wpAny_loadPart_at hC ?_ | with_reducible refine wpAny_madeBy_exc hC ?_ | wp_step)
  refine codeAny_call_builtin_code (Code.quiet_builtin _ F.quiet) (newChecked F hT hC ?_)
  refine newMade F hT hC ?_ short
  show wpAny _ _ _ _ _ _
  have stays : ∀ b o, h.get? b = some o → ((h.push (W.kdv_tup rest)).push (excO C h.objs.size)).get? b = some o := fun b o e => Heap.get?_push_of_some _ (Heap.get?_push_of_some _ e)
  have classThere := stays _ _ hC
  have newThere : ((h.push (W.kdv_tup rest)).push (excO C h.objs.size)).get? (h.objs.size + 1) = some (excO C h.objs.size) := by heap_get
  have ownClass : (Value.ref C :: bm).contains (.ref C) = true := by simp
  have initLook := hi.keeps stays
  have initBound := (hb (.ref (h.objs.size + 1))).keeps stays
  unfold isInstance
  repeat (first | with_reducible refine wpAny_loadPart_at newThere ?_ | (with_reducible refine wpAny_isSubtype_exc classThere ?_; rw [ownClass]) | wp_step)
  show wpAny _ _ (typeLookup (.ref C) _) _ _ _
  refine initLook.at ?_
  refine wpAny_holding (wpAny_bind (initBound.at ?_))
  refine wpAny_bind (wpAny_call (codeAny_mono hq fun r s' z => ?_))
  rcases r with e | (v | _ | _ | _) <;> first | exact z | exact z.elim | skip
  obtain ⟨rfl, z⟩ := z
  first
    | exact wpAny_pure (wpAny_pure z)
    | (wp_walk; exact z)
theorem typeCallChecked {Q : Unit → Shared → Prop} (hC : h.get? C = some (excClassObj cn cq C N bs bm hdct sn sub ab col dd k0 k1 k2 k3 k5 newId))
    (hq : Q () ⟨h, g, d, t, os⟩) : wpAny M A (checkBuiltinCall "type.__call__" ⟨.ref C :: rest, kw⟩) Q E ⟨h, g, d, t, os⟩ := by
  have isSub := tc_sub
  have isClass : (⟨h, g, d, t, os⟩ : Shared).TypeIs (.ref C) "type" := ⟨_, hC, rfl⟩
  simp only [checkBuiltinCall, tc_kind, tc_split]
  repeat (any_goals (first | assumption | with_reducible refine wpAny_loadPart_at hC ?_ | with_reducible refine wpAny_onRaise ?_ | with_reducible refine wpAny_map ?_ | wp_step))
/-- the class called -/
theorem excCalled (F : ExcBaseFacts B newId initId tail) (hT : ∀ X : String, bm.contains (.type X) = tail.contains (.type X)) {fI : Addr}
    (hC : h.get? C = some (excClassObj cn cq C N bs bm hdct sn sub ab col dd k0 k1 k2 k3 k5 newId))
    (hi : W.Looks (model prog w) h (typeLookup (.ref C) "__init__") (some (.ref fI))) (hb : ∀ self, W.Looks (model prog w) h (bindSpecial (.ref fI) self) (.ref fI, [self])) (short : rest.length ≤ sizeLine)
    (hq : codeAny (model prog w) (A.under (.builtin "type.__call__" ⟨.ref C :: rest, kw⟩)) (.call (.ref fI) ⟨.ref (h.objs.size + 1) :: rest, kw⟩) (W.InitBack (h.objs.size + 1) R) ⟨(h.push (W.kdv_tup rest)).push (excO C h.objs.size), g, d, t, os⟩) :
    codeAny (model prog w) A (.call (.ref C) ⟨rest, kw⟩) R ⟨h, g, d, t, os⟩ := by
  have look := tc_lookup
  have bound := tc_bind (.ref C)
  have isClass : (⟨h, g, d, t, os⟩ : Shared).TypeIs (.ref C) "type" := ⟨_, hC, rfl⟩
  refine codeAny_of_tree ?_
  show wpAny _ _ (callAny (.ref C) _) _ _ _
  repeat (any_goals (first | assumption | with_reducible refine wpAny_loadPart_at hC ?_ | wp_step))
  refine ⟨rfl, ?_⟩
  refine codeAny_call_builtin_at (Code.quiet_builtin _ (by decide +kernel)) entry_typeCall (typeCallChecked hC (typeCalled F hT hC hi hb short ?_))
  refine codeAny_mono hq fun r s' z => ?_
  rcases r with e | (v | _ | _ | _) <;> exact z
end
end LampX
end PySem
set_option Elab.async false
set_option linter.all false
set_option maxRecDepth 100000
set_option maxHeartbeats 4000000
namespace PySem
namespace LampX
open PySem.W Builtin.ObjectAttr
section
variable {prog : Program} {w : World} {A : Around} {s : Shared} {K : Frag} {C : Addr} {B : String} {tail : List Value}
/-- the first field of an exception: its dict is laid -/
theorem firstField {x t : Addr} {name : Str} {tk : Tok} {v : Value} {R : Result → Shared → Prop} (SF : StoreFacts B tail "object.__setattr__" "object") (inK : K.In s.heap) (there : s.heap.get? x = some (excObj C t none .none))
    (over : excOver K C tail = true) (taker : takerIn K C name = some none) (dict : hasDictIn K C = true)
    (hq : ∀ h' tk' dx, (∀ b o, b ≠ x → s.heap.get? b = some o → h'.get? b = some o) → s.heap.objs.size ≤ dx → dx ≠ x → h'.get? x = some (excObj C t (some dx) .none) →
      h'.Ns1 dx (fun y => if y = name then some v else none) → R (.ok (.ret .none)) { s with heap := h', toks := tk' }) :
    codeAny (model prog w) A (.call (.builtin "object.__setattr__") ⟨[.ref x, .str name tk, v], []⟩) R s := by
  have fresh : x ≠ s.heap.objs.size := Nat.ne_of_lt (Heap.lt_size there)
  refine osa_openX (od := none) SF inK ⟨there, rfl, rfl, trivial⟩ over taker fun b => ?_
  obtain ⟨cd, hcd, hdd⟩ := any_some dict
  refine wpAny_bind (wpAny_pure (wpAny_bind (instanceDict_exc there (looks_clsIn inK hcd) hdd ?_)))
  show wpAny _ _ (storeInDict s.heap.objs.size (.str name tk) name v) _ _ _
  have was : (s.heap.push (dictOf [] 0)).get? x = some (excObj C t none .none) := Heap.get?_push_of_some _ there
  refine HandSPX.store_in_new ⟨_, #[], _, (Heap.get?_update_ne _ _ _ _ fresh.symm).trans (Heap.get?_push_at rfl rfl), rfl, fun e he => absurd he (by simp), fun _ => rfl⟩ fun h' tk' named kept => ?_
  refine hq h' tk' s.heap.objs.size (fun b o hb ho => ?_) (Nat.le_refl _) fresh.symm ?_ named
  · exact (kept.2 b (Nat.ne_of_lt (Heap.lt_size ho))).trans ((Heap.get?_update_ne _ _ _ _ hb).trans (Heap.get?_push_of_some _ ho))
  · exact (kept.2 x fresh).trans (Heap.get?_update_self _ was rfl)
end
end LampX
end PySem
namespace Lamp
open PySem PySem.Spec PyProof.Rows L2
/-- what the written part says of an exception class of the program -/
structure EC (K : PySem.W.Frag) (C : Addr) (B newId initId : String) (tail : List Value) : Prop where
  F : ExcBaseFacts B newId initId tail
  S : StoreFacts B tail "object.__setattr__" "object"
  made : PySem.W.excInitIn K C tail newId = true
  over : PySem.W.excOver K C tail = true
  sa : PySem.W.findIn K (.ref C) "__setattr__" = some (some (.builtin "object.__setattr__"))
  ga : PySem.W.findIn K (.ref C) "__getattribute__" = some (some (.builtin "BaseException.__getattribute__"))
  gg : PySem.W.findIn K (.ref C) "__getattr__" = some none
  exC : PySem.W.subIn K (.ref C) (.type "BaseException") = some true
  hd : PySem.W.hasDictIn K C = true
  kp : PySem.W.keepIn K (.ref C) = true
  cls : PySem.W.findIn K (.ref C) "__class__" = some (some (.builtin "object.__class__"))
  obj : PySem.W.mroIn K C (.type "object") = some true
section
variable {X : Cx} {pins : List (Addr × Obj)} {σ : L2.St} {H : Hp} {s : Shared} {a C : Addr} {f : Str} {y : V} {u : Value} {Q : Unit → Shared → Prop} {E : Value → Shared → Prop} {A : Around} {B newId initId : String} {tail : List Value}
theorem store1 (T : EC X.K C B newId initId tail) (I : Inv X pins σ H s) (e : H a = some (exo a C none)) (ht : PySem.W.takerIn X.K C f = some none) (ry : RelV y u)
    (h : ∀ dx s', H dx = none → dx ≠ a → Inv X pins σ (upd (upd H dx (exd dx [(f, y)])) a (exo a C (some dx))) s' → Q () s') : wpAny (model X.prog X.w) A (setAttr (.ref a) f u) Q E s := by
  obtain ⟨t1, there⟩ := exo_at I.hok e
  refine PySem.W.set_plain I.kIn (ox := PySem.W.excObj C t1 none .none) (od := none) ⟨there, rfl, rfl, trivial⟩ T.sa ?_
  refine PySem.LampX.firstField (s := { s with toks := s.toks + 1 }) T.S I.kIn there T.over ht T.hd fun h' tk' dx kept new other now named => ?_
  have free : H dx = none := I.hok.fresh new
  have notNew : ∀ {b : Addr} {o : Obj}, s.heap.get? b = some o → b ≠ dx := fun {b o} q => Nat.ne_of_lt (Nat.lt_of_lt_of_le (Heap.lt_size q) new)
  have notA : ∀ {b : Addr}, H b = none → b ≠ a := fun {b} n z => by rw [z, e] at n; cases n
  have un : Un X.fs [] H (upd (upd H dx (exd dx [(f, y)])) a (exo a C (some dx))) s.heap h' :=
    ⟨fun b o q n _ _ => kept b o (notA n) q, fun b o q n _ _ => ⟨o.slots, kept b o (notA n) q⟩, fun b o q n _ => by rw [upd_ne (notA n), upd_ne (notNew q)]; exact n,
      fun b o q _ => by
        by_cases hb : b = a
        · subst hb; exact ⟨_, now⟩
        · exact ⟨o, kept b o hb q⟩,
      fun b xs q => by rw [upd_ne (at_ne e q exo_tup), upd_ne (ne_of_none q free)]; exact q,
      fun b o v q => by rw [upd_ne (at_ne e q exo_frz), upd_ne (ne_of_none q free)]; exact q,
      fun b ps q => ⟨#[], by rw [upd_ne (at_ne e q exo_tbl), upd_ne (ne_of_none q free), q]; simp⟩⟩
  refine h dx _ free other (I.un (t' := tk') un fun b o q => ?_)
  by_cases hb : b = a
  · subst hb
    rw [upd_same] at q
    cases q
    exact exo_ok now
  · rw [upd_ne hb] at q
    by_cases hbd : b = dx
    · subst hbd
      rw [upd_same] at q
      cases q
      exact exd_ok named (relO_put (fs := []) ry fun g => True.intro)
    · rw [upd_ne hbd] at q
      refine (I.hok b o q).stay (fun c v hc z => kept c v ?_ z) (fun c hc => ?_) fun c xs hc => ?_
      · rcases hc with rfl | hc
        · exact hb
        · exact at_ne e hc exo_own
      · rw [upd_ne (at_ne e hc exo_own), upd_ne (ne_of_none hc free)]; exact hc
      · rw [upd_ne (at_ne e hc exo_tup), upd_ne (ne_of_none hc free)]; exact hc
end
/-- self.f = e in an exception's __init__ -/
def tStore1 (K : PySem.W.Frag) (f : Str) (to te : TE) : TS := fun D σ H => te σ H fun y H1 => to σ H1 fun x H2 => ∃ (a C : Addr), x = .ref a ∧ (∃ (B newId initId : String) (tail : List Value), EC K C B newId initId tail) ∧ PySem.W.takerIn K C f = some none ∧
  H2 a = some (exo a C none) ∧ ∀ dx, H2 dx = none → dx ≠ a → D.nx σ (upd (upd H2 dx (exd dx [(f, y)])) a (exo a C (some dx)))
theorem ps_store1 {X : Cx} {o e : Expr} {to te : TE} {f : Str} {p pos : Pos} (ho : PE X o to) (he : PE X e te) (hs : swapsWith e (some (.Attribute o f p)) pos.line X.env = pure false := by rfl) : PS X (.Assign [.Attribute o f p] e pos) (tStore1 X.K f to te) := by
  refine ⟨fun pins s σ H D I h => plainObj_wpAny_Assign_Attribute (thn (he.run pins s σ H _ I h) fun v s1 ⟨y, H1, I1, r1, q1⟩ => thn (ho.run pins s1 σ H1 _ I1 q1) fun u s2 ⟨x, H2, I2, r2, told⟩ => ?_) hs⟩
  obtain ⟨a, C, ex, ⟨B, newId, initId, tail, T⟩, ht, ea, q⟩ := told
  subst ex
  have eu : u = Value.ref a := r2
  subst eu
  exact store1 T I2 ea ht r1 fun dx s' n ne J => ⟨σ, _, J, q dx n ne⟩
end Lamp
set_option Elab.async false
set_option linter.all false
set_option maxRecDepth 100000
set_option maxHeartbeats 4000000
namespace Lamp
open PySem PySem.Spec PyProof.Rows L2
/-- the promise of an __init__ that keeps its one argument under f -/
def spInit (K : PySem.W.Frag) (C : Addr) (f : Str) : Sp := fun vs H Q _ => ∃ (a : Addr) (y : V), vs = [.ref a, y] ∧ (∃ (B newId initId : String) (tail : List Value), EC K C B newId initId tail) ∧ PySem.W.takerIn K C f = some none ∧ H a = some (exo a C none) ∧
  ∀ dx, H dx = none → dx ≠ a → Q .non (upd (upd H dx (exd dx [(f, y)])) a (exo a C (some dx)))
section
variable {P : Program} {w : World} {K : PySem.W.Frag} {mg : Str → Option Value} {base : Heap}
theorem ok_init {fI C : Addr} {fd : FuncData} {st : Stmt} {qual f : Str} {p1 p2 p3 p4 : Pos} (F : Fun K "__init__" qual st fI fd) (S : FnScope ["self", f] ["self", f] (defScope st))
    (hb : defBody st = [.Assign [.Attribute (.Name "self" p1) f p2] (.Name f p3) p4]) (v0 : (defScope st).names.lookup ("self" : Str) = some NameKind.local) (v1 : (defScope st).names.lookup f = some NameKind.local)
    (d1 : (f == ("__debug__" : Str)) = false) (d2 : (f == ("__classdict__" : Str)) = false) : FnOk P w K mg base CX0 1 fI fd ["self", f] (spInit K C f) := by
  refine F.ok S (fun vs H Q E h => ?_) (fun cdv A outer s H vs Q E hr h => ?_)
  · obtain ⟨a, y, rfl, _⟩ := h
    rfl
  · obtain ⟨a, y, rfl, T, ht, ha, q⟩ := h
    rw [hb]
    refine ⟨_, pss_one (ps_store1 (pv 0 rfl (Or.inl v0)) (pv 1 rfl (Or.inl v1) d1 d2)), ?_⟩
    exact ⟨_, rfl, _, rfl, a, C, rfl, T, ht, ha, q⟩
end
/-- C(e), C(f=e): a new exception with the field f -/
def tMkE (C : Addr) (f : Str) (ta : TE) : TE := fun σ H Q => ta σ H fun y H1 => ∀ a dx, H1 a = none → H1 dx = none → dx ≠ a → Q (.ref a) (upd (upd (upd H1 a (exo a C none)) dx (exd dx [(f, y)])) a (exo a C (some dx)))
section
variable {X : Cx} {C fI : Addr} {fd : FuncData} {f x : Str} {B newId initId : String} {tail : List Value} {p pos kpos : Pos} {e : Expr} {ta : TE}
theorem run_mkE {pins : List (Addr × Obj)} {σ : L2.St} {H : Hp} {s : Shared} {Q : VK} {u : Value} {y : V} {us : List Value} {kw : List (Str × Value)} {k : Nat} (T : EC X.K C B newId initId tail) (iC : PySem.W.findIn X.K (.ref C) "__init__" = some (some (.ref fI))) (tI : PySem.W.typeIn X.K (.ref fI) = some (.type "function"))
    (ht : PySem.W.takerIn X.K C f = some none) (F1 : FnOk X.prog X.w X.K X.mg X.base CX0 k fI fd ["self", f] (spInit X.K C f)) (hr : Room (k + 1) X.A)
    (hb : ∀ (s : Shared) (v : Value), X.K.In s.heap → BindsTo s fd ⟨v :: us, kw⟩ [("self", v), (f, u)]) (I : Inv X pins σ H s) (r : RelV y u) (short : us.length ≤ sizeLine)
    (h : ∀ a dx, H a = none → H dx = none → dx ≠ a → Q (.ref a) (upd (upd (upd H a (exo a C none)) dx (exd dx [(f, y)])) a (exo a C (some dx)))) :
    wpAny (model X.prog X.w) X.A (call (.ref C) us kw) (EP X pins σ Q) X.xe s := by
  obtain ⟨nm, N, qn, bs, bm, hdct, sn, sub, ab, col, dd, k0, k1, k2, k3, k5, hC, hT⟩ := PySem.W.excInit_of I.kIn T.made
  obtain ⟨hp, g, dr, tk, os⟩ := s
  have above : hp.objs.size ≤ hp.objs.size + 1 := Nat.le_succ _
  have new : H (hp.objs.size + 1) = none := I.hok.fresh above
  have kept : ∀ b o, hp.get? b = some o → ((hp.push (PySem.W.kdv_tup us)).push (PySem.HandSPX.excO C hp.objs.size)).get? b = some o := fun b o e => Heap.get?_push_of_some _ (Heap.get?_push_of_some _ e)
  have there : ((hp.push (PySem.W.kdv_tup us)).push (PySem.HandSPX.excO C hp.objs.size)).get? (hp.objs.size + 1) = some (PySem.HandSPX.excO C hp.objs.size) := by heap_get
  have I2 : Inv X pins σ (upd H (hp.objs.size + 1) (exo (hp.objs.size + 1) C none)) ⟨(hp.push (PySem.W.kdv_tup us)).push (PySem.HandSPX.excO C hp.objs.size), g, dr, tk, os⟩ :=
    I.laid (t' := tk) (a := hp.objs.size + 1) (o := exo (hp.objs.size + 1) C none) (h' := (hp.push (PySem.W.kdv_tup us)).push (PySem.HandSPX.excO C hp.objs.size)) kept above (exo_ok there)
  have asked : spInit X.K C f [.ref (hp.objs.size + 1), y] (upd H (hp.objs.size + 1) (exo (hp.objs.size + 1) C none)) (fun v H2 => v = .non ∧ Q (.ref (hp.objs.size + 1)) H2) E0 :=
    ⟨_, y, rfl, ⟨B, newId, initId, tail, T⟩, ht, upd_same, fun dx hn ne => ⟨rfl, h _ dx new (by rw [upd_ne ne] at hn; exact hn) ne⟩⟩
  refine wpAny_call (PySem.LampX.excCalled T.F hT hC (PySem.W.looks_findIn I.kIn iC) (fun self => PySem.W.bind_fn I.kIn self tI) short
    (codeAny_mono (F1.run _ X.stack _ _ ⟨Value.ref (hp.objs.size + 1) :: us, kw⟩ [Value.ref (hp.objs.size + 1), u] _ _ E0 ?rm ?ev (hb _ _ I2.kIn) (.cons (show RelV (V.ref _) (Value.ref _) from rfl) (.cons r .nil)) asked) fun res s' told => ?_))
  case rm => exact hr.make C us kw
  case ev => exact I2.env0.make C us kw
  match res, told with
  | .error _, told => exact False.elim told
  | .ok .next, told => exact False.elim told
  | .ok .brk, told => exact False.elim told
  | .ok .cont, told => exact False.elim told
  | .ok (.ret v), told =>
    obtain ⟨z, H', I3, rv, ez, q3⟩ := I2.after told
    subst ez
    exact ⟨rv, ⟨V.ref (hp.objs.size + 1), H', I3, rfl, q3⟩⟩
theorem pe_mkE {k : Nat} (T : EC X.K C B newId initId tail) (iC : PySem.W.findIn X.K (.ref C) "__init__" = some (some (.ref fI))) (tI : PySem.W.typeIn X.K (.ref fI) = some (.type "function")) (ht : PySem.W.takerIn X.K C f = some none)
    (F1 : FnOk X.prog X.w X.K X.mg X.base CX0 k fI fd ["self", f] (spInit X.K C f)) (hr : Room (k + 1) X.A) (hb : ∀ (s : Shared) (v u : Value), X.K.In s.heap → BindsTo s fd ⟨[v, u], []⟩ [("self", v), (f, u)]) (hg : Gl X x) (hm : X.mg x = some (.ref C))
    (ha : PE X e ta) (hs : starEach [e] X.env = (false, eval e X.env) :: starEach [] X.env := by rfl) (hdb : (x == ("__debug__" : Str)) = false := by decide) : PE X (.Call (.Name x p) [e] [] pos) (tMkE C f ta) := by
  refine ⟨fun pins s σ H Q I h => wpAny_Call_Name_kw (ld_glob I hg hm (PySem.W.callWith_K (h₀ := X.base) I.ok.mod.kin T.kp ?_ hs (by rfl)) hdb)⟩
  rw [hs]
  show wpAny _ _ (spliced ((false, eval e X.env) :: backTo pos (starEach [] X.env))) _ _ s
  refine Calls.spliced_cons (thn (ha.run pins s σ H _ I h) fun u s1 ⟨y, H1, I1, r1, q1⟩ => Calls.spliced_nil ⟨I1.kIn, ?_⟩)
  exact run_mkE (us := [u]) (kw := []) T iC tI ht F1 hr (fun s v hk => hb s v u hk) I1 r1 (by show 1 ≤ sizeLine; decide) q1
/-- the same with keywords: their values, one -/
def tMkK (C : Addr) (f : Str) (tk : TA) : TE := fun σ H Q => tk σ H fun zs H1 => ∃ y, zs = [y] ∧ ∀ a dx, H1 a = none → H1 dx = none → dx ≠ a → Q (.ref a) (upd (upd (upd H1 a (exo a C none)) dx (exd dx [(f, y)])) a (exo a C (some dx)))
theorem pe_mkK {k : Nat} {kws : List Keyword} {tk : TA} (T : EC X.K C B newId initId tail) (iC : PySem.W.findIn X.K (.ref C) "__init__" = some (some (.ref fI))) (tI : PySem.W.typeIn X.K (.ref fI) = some (.type "function")) (ht : PySem.W.takerIn X.K C f = some none)
    (F1 : FnOk X.prog X.w X.K X.mg X.base CX0 k fI fd ["self", f] (spInit X.K C f)) (hr : Room (k + 1) X.A) (hb : ∀ (s : Shared) (v u : Value), X.K.In s.heap → BindsTo s fd ⟨[v], [(f, u)]⟩ [("self", v), (f, u)]) (hg : Gl X x) (hm : X.mg x = some (.ref C))
    (hkw : PK X kws tk) (hall : (backToKw pos (keywordEach kws X.env)).all (·.1.isSome) = true := by rfl) (hks : (backToKw pos (keywordEach kws X.env)).filterMap (·.1) = [f] := by rfl) (hdb : (x == ("__debug__" : Str)) = false := by decide)
    (hpl : ((backTo pos (starEach [] X.env)).any (·.1) || (backToKw pos (keywordEach kws X.env)).any (·.1.isNone)) = false := by rfl) : PE X (.Call (.Name x p) [] kws pos) (tMkK C f tk) := by
  refine ⟨fun pins s σ H Q I h => ?_⟩
  refine wpAny_Call_Name_kw (ld_glob I hg hm ?_ hdb)
  refine PySem.W.callWith_KW0 (h₀ := X.base) I.ok.mod.kin T.kp hall (thn (hkw.run pos pins s σ H _ I h) fun ws s2 told => ?_) hpl
  obtain ⟨zs, H2, I2, rz, y, ez, q2⟩ := told
  subst ez
  rw [hks]
  cases rz with
  | @cons _ u _ us r rest =>
    cases rest
    exact ⟨I2.kIn, run_mkE (us := []) (kw := [(f, u)]) T iC tI ht F1 hr (fun s v hk => hb s v u hk) I2 r (Nat.zero_le _) q2⟩
end
/-- C() where the program gives no __init__: a new exception -/
theorem pe_mk0 {X : Cx} {C : Addr} {x : Str} {B newId initId : String} {tail : List Value} {p pos : Pos} (F : ExcBaseFacts B newId initId tail) (q : PySem.W.excIn X.K C tail newId = true) (gC : X.mg x = some (.ref C)) (kC : PySem.W.keepIn X.K (.ref C) = true) (hg : Gl X x)
    (hdb : (x == ("__debug__" : Str)) = false := by decide) : PE X (.Call (.Name x p) [] [] pos) (fun _ H Q => ∀ a, H a = none → Q (.ref a) (upd H a (exo a C none))) := by
  refine ⟨fun pins s σ H Q I h => wpAny_Call_Name_kw (ld_glob I hg gC (PySem.W.callWith_K0 I.kIn kC ?_) hdb)⟩
  show wpAny _ _ (call (.ref C) []) _ _ _
  obtain ⟨bm, N, nm, qn, bs, hdct, sn, sub, ab, col, dd, k0, k1, k2, k3, k5, mN, hC, hN, hni, T⟩ := exc_obj I.kIn q
  obtain ⟨hp, g, dr, tk, os⟩ := s
  refine wpAny_call_exc_subT F T hC hN hni (fun h' a hm => ?_) (by show 0 ≤ sizeLine; exact Nat.zero_le _)
  have new : H a = none := I.hok.gone hm.new
  obtain ⟨t, there, _, _⟩ := hm.there
  exact ⟨.ref a, upd H a (exo a C none), I.laidN (t' := tk) hm.keeps hm.new new (exo_ok there), rfl, h a new⟩
end Lamp
set_option Elab.async false
set_option linter.all false
set_option maxRecDepth 100000
set_option maxHeartbeats 1000000
namespace Lamp
open PySem PySem.Spec PyProof.Rows L2
/-- an exception of the class at C stands at a -/
def XAt (H : Hp) (a C : Addr) : Prop := H a = some (exo a C none) ∨ ∃ dx fs, H a = some (exo a C (some dx)) ∧ H dx = some (exd dx fs)
/-- .. with its fields -/
def XFld (H : Hp) (a C : Addr) (f : Str) (y : V) : Prop := ∃ dx, H a = some (exo a C (some dx)) ∧ H dx = some (exd dx [(f, y)])
theorem XFld.at {H : Hp} {a C : Addr} {f : Str} {y : V} (h : XFld H a C f y) : XAt H a C := by
  obtain ⟨dx, h1, h2⟩ := h
  exact .inr ⟨dx, _, h1, h2⟩
theorem XFld.same {H H' : Hp} {a C : Addr} {f : Str} {y : V} (h : XFld H a C f y) (s : Same H H') : XFld H' a C f y := by
  obtain ⟨dx, h1, h2⟩ := h
  exact ⟨dx, s _ _ h1, s _ _ h2⟩
theorem XAt.same {H H' : Hp} {a C : Addr} (h : XAt H a C) (s : Same H H') : XAt H' a C := by
  rcases h with h | ⟨dx, fs, h1, h2⟩
  · exact .inl (s _ _ h)
  · exact .inr ⟨dx, fs, s _ _ h1, s _ _ h2⟩
theorem xat_inst {X : Cx} {pins : List (Addr × Obj)} {σ : L2.St} {H : Hp} {s : Shared} {a C : Addr} (I : Inv X pins σ H s) (h : XAt H a C) : ∃ ox od, PySem.W.InstAt s.heap a ox C od := by
  rcases h with h | ⟨dx, fs, h1, h2⟩
  · obtain ⟨t, there⟩ := exo_at I.hok h
    exact ⟨_, none, there, rfl, rfl, trivial⟩
  · obtain ⟨t, there⟩ := exo_at I.hok h1
    obtain ⟨mA, ⟨o, _, _, ho, _⟩, _⟩ := exd_at I.hok h2
    exact ⟨_, some o, there, rfl, rfl, ho⟩
/-- what is asked of object's own __class__ -/
structure ClsG (K : PySem.W.Frag) : Prop where
  get : PySem.W.specialIn K (.builtin "object.__class__") "__get__" = some (some (.builtin "getset_descriptor.__get__"))
  tak : PySem.W.takesIn K (.builtin "object.__class__") = some true
/-- isinstance(e, c), e an exception of the program -/
def rIsX (K : PySem.W.Frag) : List V → Hp → VK → Prop := fun xs H Q => ∃ (a C : Addr) (c : V) (u : Value) (b : Bool), xs = [.ref a, c] ∧ XAt H a C ∧ (∃ (B newId initId : String) (tail : List Value), EC K C B newId initId tail) ∧ ClsV c u ∧ PySem.W.kitOne K (.ref C) u = some b ∧ Q (.bl b) H
theorem call_isX {X : Cx} (G : ClsG X.K) : CallR X (.builtin "isinstance") (rIsX X.K) := by
  intro pins s σ H xs us Q I r h
  obtain ⟨a, C, c, cv, b, rfl, hx, ⟨B, newId, initId, tail, T⟩, hc, hk, q⟩ := h
  obtain ⟨u1, u2, rfl, r1, r2⟩ := vals2 r
  have e1 : u1 = Value.ref a := r1
  subst e1
  have e2 := hc.eq r2
  subst e2
  obtain ⟨ox, od, J⟩ := xat_inst I hx
  have isCls : (PySem.W.clsIn X.K C).isSome = true := by
    obtain ⟨cd, hcd, _⟩ := PySem.W.any_some T.hd
    rw [hcd]
    rfl
  exact PySem.W.kia_one (PySem.W.kitx_exc isCls T.ga T.gg T.exC T.cls G.get G.tak T.obj) I.kIn J hk (fun z => nomatch z) fun tk => ⟨.bl b, H, I.tok tk, rfl, q⟩
/-- e.f -/
def tXFld (K : PySem.W.Frag) (f : Str) (te : TE) : TE := fun σ H Q => te σ H fun x H1 => ∃ (a C : Addr) (y : V), x = .ref a ∧ XFld H1 a C f y ∧ (∃ (B newId initId : String) (tail : List Value), EC K C B newId initId tail) ∧ PySem.W.findIn K (.ref C) f = some none ∧ Q y H1
theorem pe_xfld {X : Cx} {e : Expr} {te : TE} {pos : Pos} {f : Str} (he : PE X e te) (hb : attributeBase e f X.env (eval e X.env) = eval e X.env := by rfl) : PE X (.Attribute e f pos) (tXFld X.K f te) := by
  refine ⟨fun pins s σ H Q I h => attr_of hb (thn (he.run pins s σ H _ I h) fun u s1 ⟨x, H1, I1, r1, told⟩ => ?_)⟩
  obtain ⟨a, C, y, ex, ⟨dx, h1, h2⟩, ⟨B, newId, initId, tail, T⟩, hno, q⟩ := told
  subst ex
  have eu : u = Value.ref a := r1
  subst eu
  obtain ⟨t, there⟩ := exo_at I1.hok h1
  obtain ⟨mA, named, rel⟩ := exd_at I1.hok h2
  obtain ⟨od, hod, look⟩ := lookIn_ns named
  have rf := rel f
  rw [lookup_put, if_pos rfl] at rf
  obtain ⟨v, hv, rv⟩ := RelO.some_of (v := y) (o := mA f) rf
  have J : PySem.W.InstAt s1.heap a _ C (some od) := ⟨there, rfl, rfl, hod⟩
  exact HandSPX.exc_get I1.kIn J T.ga T.gg T.exC (PySem.W.findObj_own T.hd hno rfl (by rw [look, hv])) (handed_of rv) ⟨y, H1, I1.tok _, rv, q⟩
end Lamp
set_option Elab.async false
set_option linter.all false
set_option maxRecDepth 100000
set_option maxHeartbeats 1000000
namespace Lamp
open PySem PySem.Spec PyProof.Rows L2
theorem same_of {q : Addr} {H : Hp} {o : HO} (h : H q = none) : Same H (upd H q o) := fun b u e => by rw [upd_ne (ne_of_none e h)]; exact e
theorem same_seqT {K : PySem.W.Frag} {H H' : Hp} {a : Addr} {xs : List V} (e : Same H H') (h : SqT K H a xs) : SqT K H' a xs := by
  rcases h with (h | ⟨o, h⟩) | h
  · exact .inl (.inl (e _ _ h))
  · exact .inl (.inr ⟨o, e _ _ h⟩)
  · exact .inr h
mutual
theorem dp_same {K : PySem.W.Frag} {H H' : Hp} (e : Same H H') : ∀ (d : PyData) (v : V), Dp K H v d → Dp K H' v d
  | .none, _, h => by cases h; exact .non
  | .bool _, _, h => by cases h; exact .bl _
  | .int _, _, h => by cases h; exact .int _
  | .str _, _, h => by cases h; exact .str _
  | .list ds, _, h => by
    cases h with
    | lst hs ha => exact .lst (e.seq hs) (dpAll_same e ds _ ha)
  | .tuple ds, _, h => by
    cases h with
    | tup hs ha => exact .tup (same_seqT e hs) (dpAll_same e ds _ ha)
  | .dict _, _, h => by cases h
theorem dpAll_same {K : PySem.W.Frag} {H H' : Hp} (e : Same H H') : ∀ (ds : List PyData) (vs : List V), DpAll K H vs ds → DpAll K H' vs ds
  | [], _, h => by cases h; exact .nil
  | d :: ds, _, h => by
    cases h with
    | cons h1 h2 => exact .cons (dp_same e d _ h1) (dpAll_same e ds _ h2)
end
theorem dq_same {K : PySem.W.Frag} {H H' : Hp} (e : Same H H') {d : PyData} {v : V} (h : Dq K H v d) : Dq K H' v d := by
  cases h with
  | plain h => exact .plain (dp_same e d v h)
  | dict h1 h2 => exact .dict (e _ _ h1) h2
theorem dpAll_len {K : PySem.W.Frag} {H : Hp} : ∀ {ds : List PyData} {vs : List V}, DpAll K H vs ds → vs.length = ds.length
  | [], _, h => by cases h; rfl
  | d :: ds, _, h => by
    cases h with
    | cons h1 h2 => rw [List.length_cons, List.length_cons, dpAll_len h2]
/-! the drawing list, and all else -/
/-- at p: the drawing list of a case -/
def Pail (H : Hp) (p : Addr) : Prop := ∃ x y z : Int, H p = some (.lst [.int x, .int y, .int z]) ∧ 0 ≤ x ∧ 0 ≤ y ∧ y < 2147483648
/-- all but p stands as it stood -/
def But (p : Addr) (H H' : Hp) : Prop := ∀ b o, b ≠ p → H b = some o → H' b = some o
theorem But.refl (p : Addr) (H : Hp) : But p H H := fun _ _ _ h => h
theorem But.trans {p : Addr} {H H1 H2 : Hp} (a : But p H H1) (b : But p H1 H2) : But p H H2 := fun c o n h => b c o n (a c o n h)
theorem But.of {p : Addr} {H H1 : Hp} (a : Same H H1) : But p H H1 := fun b o _ h => a b o h
theorem But.at {p : Addr} {H : Hp} {o : HO} : But p H (upd H p o) := fun b u n h => by rw [upd_ne n]; exact h
theorem But.new {p q : Addr} {H : Hp} {o : HO} (h : H q = none) : But p H (upd H q o) := fun b u _ e => by
  rw [upd_ne (ne_of_none e h)]
  exact e
theorem Pail.same {H H' : Hp} {p : Addr} (h : Pail H p) (s : Same H H') : Pail H' p := by
  obtain ⟨x, y, z, e, r⟩ := h
  exact ⟨x, y, z, s _ _ e, r⟩
theorem Pail.ne {H : Hp} {p q : Addr} (h : Pail H p) (e : H q = none) : q ≠ p := by
  obtain ⟨x, y, z, hp, _⟩ := h
  intro z
  rw [z, hp] at e
  cases e
theorem But.del {p : Addr} {H H' : Hp} (b : But p H H') : Same (delH H p) (delH H' p) := fun a o h => by
  by_cases e : a = p
  · rw [e, delH_same] at h; cases h
  · rw [delH_ne e] at h ⊢
    exact b a o e h
theorem del_sub {p : Addr} {H : Hp} : Same (delH H p) H := fun a o h => by
  by_cases e : a = p
  · rw [e, delH_same] at h; cases h
  · rw [delH_ne e] at h
    exact h
/-! data made, beside the drawing list at p -/
section
variable (K : PySem.W.Frag) (p : Addr)
def EvP (te : TE) (d : PyData) : Prop := ∀ (σ : L2.St) (H : Hp), Pail H p → ∀ Q : VK, (∀ v H', Same H H' → Dp K (delH H' p) v d → Q v H') → te σ H Q
def EvPs (ta : TA) (ds : List PyData) : Prop := ∀ (σ : L2.St) (H : Hp), Pail H p → ∀ Q : List V → Hp → Prop, (∀ vs H', Same H H' → DpAll K (delH H' p) vs ds → Q vs H') → ta σ H Q
def EvQ (te : TE) (d : PyData) : Prop := ∀ (σ : L2.St) (H : Hp), Pail H p → ∀ Q : VK, (∀ v H', Same H H' → Dq K (delH H' p) v d → Q v H') → te σ H Q
def EvQs (ta : TA) (ds : List PyData) : Prop := ∀ (σ : L2.St) (H : Hp), Pail H p → ∀ Q : List V → Hp → Prop, (∀ vs H', Same H H' → Paired (Dq K (delH H' p)) vs ds → Q vs H') → ta σ H Q
end
section
variable {K : PySem.W.Frag} {p : Addr} {te : TE} {ta : TA} {d : PyData} {ds : List PyData}
theorem evp_non : EvP K p (tC .non) .none := fun σ H _ Q q => q _ H (Same.refl H) .non
theorem evp_bl {b : Bool} : EvP K p (tC (.bl b)) (.bool b) := fun σ H _ Q q => q _ H (Same.refl H) (.bl b)
theorem evp_int {i : Int} : EvP K p (tC (.int i)) (.int i) := fun σ H _ Q q => q _ H (Same.refl H) (.int i)
theorem evp_str {x : Str} : EvP K p (tC (.str x)) (.str x) := fun σ H _ Q q => q _ H (Same.refl H) (.str x)
theorem evp_neg {i : Int} (h : EvP K p te (.int i)) : EvP K p (tUn (rU fun i => .int (-i)) te) (.int (-i)) := fun σ H hp Q q => h σ H hp _ fun v H' s hd => by
  cases hd
  exact ⟨i, rfl, q _ H' s (.int _)⟩
theorem evp_pow {i j : Int} (hc : CPow i j) : EvP K p (tOp (rI CPow fun i j => .int (i ^ j.toNat)) (tC (.int i)) (tC (.int j))) (.int (i ^ j.toNat)) := fun σ H hp Q q => ⟨i, j, rfl, rfl, hc, q _ H (Same.refl H) (.int _)⟩
theorem evps_nil : EvPs K p tNil [] := fun σ H _ Q q => q _ H (Same.refl H) .nil
theorem evps_cons (h1 : EvP K p te d) (h2 : EvPs K p ta ds) : EvPs K p (tCons te ta) (d :: ds) := fun σ H hp Q q => h1 σ H hp _ fun v H1 s1 d1 => h2 σ H1 (hp.same s1) _ fun vs H2 s2 d2 =>
  q _ H2 (s1.trans s2) (.cons (dp_same (But.of s2).del d v d1) d2)
theorem evp_tup (h : EvPs K p ta ds) (hl : ds.length ≤ 100) : EvP K p (tTup ta) (.tuple ds) := fun σ H hp Q q => h σ H hp _ fun vs H1 s1 d1 => by
  have hlen := dpAll_len d1
  refine ⟨Nat.le_of_lt (small1000 (by omega)), fun r hr => ?_⟩
  have ne := (hp.same s1).ne hr
  have s2 : Same H1 (upd H1 r (.tup vs)) := same_of hr
  exact q _ _ (s1.trans s2) (.tup (.inl (.inl (by rw [delH_ne ne, upd_same]))) (dpAll_same (But.of s2).del ds vs d1))
theorem evp_lst (h : EvPs K p ta ds) (hl : ds.length ≤ 100) : EvP K p (tLst ta) (.list ds) := fun σ H hp Q q => h σ H hp _ fun vs H1 s1 d1 => by
  have hlen := dpAll_len d1
  refine ⟨Nat.le_of_lt (small1000 (by omega)), fun r hr => ?_⟩
  have ne := (hp.same s1).ne hr
  have s2 : Same H1 (upd H1 r (.lst vs)) := same_of hr
  exact q _ _ (s1.trans s2) (.lst (.inl (.inl (by rw [delH_ne ne, upd_same]))) (dpAll_same (But.of s2).del ds vs d1))
theorem evq_of (h : EvP K p te d) : EvQ K p te d := fun σ H hp Q q => h σ H hp Q fun v H' s hd => q v H' s (.plain hd)
theorem evq_d0 : EvQ K p tDNewK (.dict []) := fun σ H hp Q q r hr => q _ _ (same_of hr) (.dict (kvs := []) (by rw [delH_ne (hp.ne hr), upd_same]) rfl)
theorem evq_d1 {k : Str} {i : Int} : EvQ K p (tDisp [(tC (.str k), tC (.int i))]) (.dict [(.str k, .int i)]) := fun σ H hp Q q r hr => by
  refine ⟨upd_same, [(Sum.inr k, V.int i)], rfl, (by show 1 ≤ 15; decide), q _ _ (fun b o e => ?_) (.dict (kvs := [(Sum.inr k, V.int i)]) ?_ rfl)⟩
  · rw [upd_ne (ne_of_none e hr), upd_ne (ne_of_none e hr)]; exact e
  · rw [delH_ne (hp.ne hr), upd_same]
    rfl
theorem evqs_nil : EvQs K p tNil [] := fun σ H _ Q q => q _ H (Same.refl H) .nil
theorem paired_same {H H' : Hp} (e : Same H H') {vs : List V} {ds : List PyData} (h : Paired (Dq K H) vs ds) : Paired (Dq K H') vs ds := L2.Paired.mapP h fun _ _ x => dq_same e x
theorem evqs_cons (h1 : EvQ K p te d) (h2 : EvQs K p ta ds) : EvQs K p (tCons te ta) (d :: ds) := fun σ H hp Q q => h1 σ H hp _ fun v H1 s1 d1 => h2 σ H1 (hp.same s1) _ fun vs H2 s2 d2 =>
  q _ H2 (s1.trans s2) (.cons (dq_same (But.of s2).del d1) d2)
theorem paired_app {α β : Type} {R : α → β → Prop} : ∀ {xs ys : List α} {us ws : List β}, Paired R xs us → Paired R ys ws → Paired R (xs ++ ys) (us ++ ws)
  | _, _, _, _, .nil, s => s
  | _, _, _, _, .cons r t, s => .cons r (paired_app t s)
theorem paired_mem {α β : Type} {R : α → β → Prop} : ∀ {xs : List α} {us : List β} {x : α}, Paired R xs us → x ∈ xs → ∃ u, u ∈ us ∧ R x u
  | _, _, _, .nil, h => by cases h
  | _, _, _, .cons r t, h => by
    rcases List.mem_cons.mp h with e | e
    · subst e; exact ⟨_, List.mem_cons_self .., r⟩
    · obtain ⟨u, h1, h2⟩ := paired_mem t e
      exact ⟨u, List.mem_cons_of_mem _ h1, h2⟩
end
/-- what repr shows of it fits -/
def okD (d : PyData) : Bool := d.showable && decide (d.depth ≤ 60) && decide (d.shown.length ≤ sizeLine)
theorem okD_of {d : PyData} (h : okD d = true) : d.showable = true ∧ d.depth ≤ 60 ∧ d.shown.length ≤ sizeLine := by
  unfold okD at h
  simp only [Bool.and_eq_true, decide_eq_true_eq] at h
  exact ⟨h.1.1, h.1.2, h.2⟩
end Lamp
set_option Elab.async false
set_option linter.all false
set_option maxRecDepth 100000
set_option maxHeartbeats 1000000
namespace Lamp
open PySem PySem.Spec PyProof.Rows L2
/-! division by any number but 0; tuples laid by tuple(..) that have no dict of their own; dict(..) of a tuple of pairs; defs called by keywords alone, in the opposite order -/
theorem rd_same {H H' : Hp} {a : Addr} {u : HO} (h : Rd H a u) (e : Same H H') : Rd H' a u := by
  rcases h with h | ⟨o, h⟩
  · exact .inl (e _ _ h)
  · exact .inr ⟨o, e _ _ h⟩
def CDivG (_ j : Int) : Prop := j ≠ 0 ∧ j.natAbs.log2 < 9000
def Bare (H : Hp) (t : Addr) (xs : List V) : Prop := ∃ o : Obj, H t = some (.frz o (.tup xs)) ∧ o.dict = none
theorem Bare.rd {H : Hp} {t : Addr} {xs : List V} (h : Bare H t xs) : Rd H t (.tup xs) := by
  obtain ⟨o, e, _⟩ := h
  exact .inr ⟨o, e⟩
theorem Bare.same {H H' : Hp} {t : Addr} {xs : List V} (h : Bare H t xs) (e : Same H H') : Bare H' t xs := by
  obtain ⟨o, h, d⟩ := h
  exact ⟨o, e _ _ h, d⟩
def rTupB (K : PySem.W.Frag) : List V → Hp → VK → Prop := fun xs H Q => ∃ p ys, xs = [.ref p] ∧ SqL K H p ys ∧ ∀ (l : Addr) (o : Obj), H l = none → o.dict = none → Q (.ref l) (upd H l (.frz o (.tup ys)))
/-- dict(..) of a bare tuple of pairs -/
def rDictT (K : PySem.W.Frag) : List V → Hp → VK → Prop := fun xs H Q => ∃ (a : Addr) (ps : List Addr) (kvs : List (Key × V)), xs = [.ref a] ∧ Bare H a (ps.map V.ref) ∧ Paired (fun p kv => SqT K H p [kV kv.1, kv.2]) ps kvs ∧
  ∀ p, H p = none → Q (.ref p) (upd H p (.dK (mergeK [] kvs)))
section
variable {X : Cx}
theorem op_fdivG : OpR X (binaryOp .FloorDiv) (rI CDivG fun i j => .int (i.fdiv j)) := opI fun i j _ _ _ _ _ hc q => floordiv_int hc.1 q (.inl (PyProof.noPylong_of_log2 hc.2))
theorem call_tupB : CallR X (.type "tuple") (rTupB X.K) := by
  intro pins s σ H xs us Q I r h
  obtain ⟨p, ys, rfl, hq, q⟩ := h
  obtain ⟨u, rfl, rx⟩ := vals1 r
  cases rx
  obtain ⟨its, r', pl, hz⟩ := I.list hq
  have hlen := r'.length
  refine call_tuple_list pl.isList (fun h' kp => ?_) (by simp only [List.size_toArray] <;> omega)
  have I1 : Inv X pins σ H { s with heap := h' } := I.kept (t' := s.toks) kp
  obtain ⟨o, eo⟩ : ∃ o : Obj, o = { cls := .type "tuple", data := .seq its.toArray } := ⟨_, rfl⟩
  have I2 : Inv X pins σ (upd H h'.objs.size (.frz o (.tup ys))) { s with heap := h'.push { cls := .type "tuple", data := .seq its.toArray } } :=
    I1.laid (t' := s.toks) (fun b o e => Heap.get?_push_of_some _ e) (Nat.le_refl _) (show ObjOk X.prog X.w _ _ _ (.frz o (.tup ys)) from ⟨by rw [eo]; exact Heap.get?_push_size _ rfl, hz, its, r', IsTup.new _ _⟩)
  exact ⟨.ref h'.objs.size, _, I2, rfl, q _ o (I1.hok.fresh (Nat.le_refl _)) (by rw [eo])⟩
theorem call_dictT (hcalm : X.calm = true) : CallR X (.type "dict") (rDictT X.K) := by
  intro pins s σ H xs us Q I r h
  obtain ⟨a, ps, kvs, rfl, ⟨o, ho, hd⟩, hp, q⟩ := h
  obtain ⟨u, rfl, rx⟩ := vals1 r
  cases rx
  obtain ⟨hget, hz, its, rv, o2, ho2, hc2, n2, hdat2⟩ := (show ObjOk X.prog X.w H s.heap a (.frz o (.tup (ps.map V.ref))) from I.hok a _ ho)
  rw [hget] at ho2
  cases ho2
  have ei := refs_at rv
  subst ei
  rw [List.length_map] at hz
  obtain ⟨prs, rel, hl, hpr⟩ := pairs_of I hp
  obtain ⟨vs, hvs⟩ : ∃ vs : List (Value × Value), vs.length = prs.length ∧ ∀ (j : Nat) (k v : Value), vs[j]? = some (k, v) → ∃ q : Key × Value, prs[j]? = some q ∧ q.2 = v ∧ keyIs q.1 k = true ∧ ∃ b, ps[j]? = some b ∧ IsTup s.heap b #[k, v] := by
    have all : ∀ j : Nat, ∃ kv : Value × Value, j < prs.length → ∃ q : Key × Value, prs[j]? = some q ∧ q.2 = kv.2 ∧ keyIs q.1 kv.1 = true ∧ ∃ b, ps[j]? = some b ∧ IsTup s.heap b #[kv.1, kv.2] := fun j => by
      by_cases hj : j < prs.length
      · obtain ⟨b, u, e1, e2, e3⟩ := hpr j prs[j] (List.getElem?_eq_getElem hj)
        exact ⟨(u, prs[j].2), fun _ => ⟨prs[j], List.getElem?_eq_getElem hj, rfl, e3, b, e1, e2⟩⟩
      · exact ⟨(.none, .none), fun z => absurd z hj⟩
    refine ⟨(List.range prs.length).map fun j => (all j).choose, by rw [List.length_map, List.length_range], fun j k v e => ?_⟩
    rw [List.getElem?_map] at e
    by_cases hj : j < prs.length
    · rw [List.getElem?_range hj] at e
      have e' : (all j).choose = (k, v) := Option.some.inj e
      have z := (all j).choose_spec hj
      rw [e'] at z
      exact z
    · rw [List.getElem?_eq_none (by rw [List.length_range]; omega)] at e
      cases e
  obtain ⟨hvl, hva⟩ := hvs
  refine PySem.call_dict_pairs (knd := mixKind X.prog X.w) (kvs := prs) (PairArg.tuple a (ps.map Value.ref).toArray (fun j => ps.getD j 0) vs) (I.ok.hd hcalm) ⟨⟨o, n2, hget, hc2, hd, hdat2⟩, by simp [hvl, hl], fun j k v e => ?_⟩ ⟨hvl.symm, fun j k v e => ?_⟩ (by rw [hvl, hl]; exact hz) fun h' tk hd' k => ?_
  · obtain ⟨q, e1, e2, e3, b, eb, et⟩ := hva j k v e
    have eg : ps.getD j 0 = b := by rw [List.getD_eq_getElem?_getD, eb]; rfl
    refine ⟨?_, .inl ?_⟩
    · show (ps.map Value.ref).toArray[j]? = some (Value.ref (ps.getD j 0))
      rw [eg, List.getElem?_toArray, List.getElem?_map, eb]
      rfl
    · show s.heap.IsTuple (ps.getD j 0) #[k, v]
      rw [eg]
      exact et
  · obtain ⟨q, e1, e2, e3, b, eb, et⟩ := hva j k v e
    exact ⟨q.1, by rw [e1, ← e2], e3⟩
  · have hm : (s.heap.objs.size == sysModules) = false := beq_eq_false_iff_ne.mpr (Nat.ne_of_gt I.big)
    have hlen : (mergeK [] kvs).length ≤ sizeLine := by
      refine Nat.le_trans (length_mergeK kvs []) ?_
      rw [List.length_nil, Nat.zero_add, rel.length, hl]
      exact hz
    exact ⟨.ref s.heap.objs.size, upd H s.heap.objs.size (.dK (mergeK [] kvs)), I.laid (t' := tk) (fun b o e => k b o (by simp) e) (Nat.le_refl _) (show ObjOk X.prog X.w _ _ _ (.dK (mergeK [] kvs)) from ⟨hlen, hm, merged [] prs, KV.merge rel .nil, hd'⟩), rfl, q _ (I.hok.fresh (Nat.le_refl _))⟩
end
theorem vals_rev : ∀ {vs : List V} {us : List Value}, Vals vs us → Vals vs.reverse us.reverse
  | _, _, .nil => .nil
  | _, _, .cons r t => by
    rw [List.reverse_cons, List.reverse_cons]
    exact (vals_rev t).append (.cons r .nil)
/-- what is known of a def that is called by keywords alone, in the opposite order -/
structure DrB (P : Program) (w : World) (K : PySem.W.Frag) (mg : Str → Option Value) (base : Heap) (sp : Sp) (x : Str) (ps : List Str) (k : Nat) : Prop where
  ex : ∃ (f : Addr) (fd : FuncData), FnOk P w K mg base CX0 k f fd ps sp ∧ (∀ (s : Shared) (us : List Value), us.length = ps.length → BindsTo s fd ⟨[], ps.reverse.zip us⟩ (ps.zip us.reverse)) ∧ mg x = some (.ref f) ∧ PySem.W.keepIn K (.ref f) = true
def tCallB (sp : Sp) (tk : TA) : TE := fun σ H Q => tk σ H fun zs H1 => sp zs.reverse H1 Q E0
section
variable {X : Cx} {sp : Sp} {x : Str} {ps : List Str} {k j : Nat} {tk : TA} {p pos : Pos} {kws : List Keyword}
theorem pe_drB (Z : DrB X.prog X.w X.K X.mg X.base sp x ps k) (hk : k ≤ j) (hr : Room j X.A) (hg : Gl X x) (hkw : PK X kws tk)
    (hall : (backToKw pos (keywordEach kws X.env)).all (·.1.isSome) = true := by rfl) (hks : (backToKw pos (keywordEach kws X.env)).filterMap (·.1) = ps.reverse := by rfl) (hdb : (x == ("__debug__" : Str)) = false := by decide)
    (hpl : ((backTo pos (starEach [] X.env)).any (·.1) || (backToKw pos (keywordEach kws X.env)).any (·.1.isNone)) = false := by rfl) : PE X (.Call (.Name x p) [] kws pos) (tCallB sp tk) := by
  obtain ⟨f, fd, F, b, m, kp⟩ := Z.ex
  refine ⟨fun pins s σ H Q I h => ?_⟩
  refine wpAny_Call_Name_kw (ld_glob I hg m ?_ hdb)
  refine PySem.W.callWith_KW0 (h₀ := X.base) I.ok.mod.kin kp hall ?_ hpl
  refine thn (hkw.run pos pins s σ H _ I h) fun ws s2 ⟨zs, H2, I2, rz, q⟩ => ⟨I2.kIn, ?_⟩
  rw [hks]
  have r2 := vals_rev rz
  have hl : ws.reverse.length = ps.length := by rw [← r2.length]; exact F.len _ _ _ _ q
  refine wpAny_call (codeAny_mono (F.run X.A X.stack s2 H2 ⟨[], ps.reverse.zip ws⟩ ws.reverse zs.reverse Q E0 (hr.mono hk) I2.env0 (b s2 ws (by rw [← hl, List.length_reverse])) r2 q) fun res s' told => ?_)
  match res, told with
  | .error _, told => exact False.elim told
  | .ok (.ret u), told => exact I2.after told
  | .ok .next, told => exact False.elim told
  | .ok .brk, told => exact False.elim told
  | .ok .cont, told => exact False.elim told
end
end Lamp
set_option Elab.async false
set_option linter.all false
set_option maxRecDepth 100000
set_option maxHeartbeats 1000000
namespace Lamp
open PySem PySem.Spec PyProof.Rows L2
/-! a tuple that is written out has no dict of its own -/
def tTupB (t : TA) : TE := fun σ H Q => t σ H fun xs H1 => xs.length ≤ sizeLine ∧ ∀ (p : Addr) (o : Obj), H1 p = none → o.dict = none → Q (.ref p) (upd H1 p (.frz o (.tup xs)))
section
variable {X : Cx} {es : List Expr} {t : TA} {pos : Pos}
theorem pe_tupB {x1} (h : PA X es t) : PE X (.Tuple es x1 pos) (tTupB t) := by
  refine ⟨fun pins s σ H Q I hq => ?_⟩
  refine wpAny_Tuple_spliced (thn (h.run pos pins s σ H _ I hq) fun us s1 ⟨xs, H1, I1, r, z, q⟩ => ⟨by rw [← r.length]; exact z, ?_⟩)
  have hf : H1 s1.heap.objs.size = none := I1.hok.fresh (Nat.le_refl _)
  obtain ⟨o, eo⟩ : ∃ o : Obj, o = { cls := .type "tuple", data := .seq us.toArray } := ⟨_, rfl⟩
  refine ⟨.ref s1.heap.objs.size, upd H1 s1.heap.objs.size (.frz o (.tup xs)), I1.laid (t' := s1.toks) (fun b u e => Heap.get?_push_of_some _ e) (Nat.le_refl _) (show ObjOk X.prog X.w _ _ _ (.frz o (.tup xs)) from ⟨by rw [eo]; exact Heap.get?_push_size _ rfl, z, us, r, ⟨_, Heap.get?_push_size _ rfl, rfl, _, rfl⟩⟩), rfl, q _ o hf (by rw [eo])⟩
end
end Lamp
set_option Elab.async false
set_option linter.all false
set_option maxRecDepth 100000
set_option maxHeartbeats 1000000
namespace Lamp
open PySem PySem.Spec PyProof.Rows L2
/-! (dict of ints, int) == (dict of ints, int) -/
def Ints (ks : List (Key × V)) : Prop := ∀ p ∈ ks, ∃ i : Int, p.2 = .int i
def sameD (ks ls : List (Key × V)) : Bool := (ks.length == ls.length) && ks.all fun p => (valV ls p.1).isSome && decide (valV ls p.1 = valV ks p.1)
theorem valV_in {ks : List (Key × V)} {k : Key} {x : V} (h : valV ks k = some x) : (k, x) ∈ ks := by
  induction ks with
  | nil => cases h
  | cons p r ih =>
    by_cases e : p.1 = k
    · rw [valV_pos e] at h
      have e2 : p = (k, x) := by
        obtain ⟨a, b⟩ := p
        show (a, b) = (k, x)
        rw [show a = k from e, show b = x from Option.some.inj h]
      rw [← e2]
      exact List.mem_cons_self ..
    · rw [valV_neg e] at h
      exact List.mem_cons_of_mem _ (ih h)
theorem valV_nd : ∀ {ks : List (Key × V)} {k : Key} {x : V}, (ks.map (·.1)).Nodup → (k, x) ∈ ks → valV ks k = some x
  | p :: r, k, x, hn, hm => by
    rw [List.map_cons] at hn
    cases hn with
    | cons h1 h2 =>
      rcases List.mem_cons.mp hm with e | hm
      · subst e
        exact valV_pos rfl
      · have ne : ¬ p.1 = k := h1 k (List.mem_map.mpr ⟨(k, x), hm, rfl⟩)
        rw [valV_neg ne]
        exact valV_nd h2 hm
theorem kv_mem {ks : List (Key × V)} {vs : List (Key × Value)} (r : KV ks vs) {k : Key} {v : Value} (h : (k, v) ∈ vs) : ∃ x, (k, x) ∈ ks ∧ RelV x v := by
  unfold KV at r
  induction r with
  | nil => cases h
  | @cons p q ps qs hh t ih =>
    rcases List.mem_cons.mp h with e | h
    · subst e
      obtain ⟨a, b⟩ := p
      obtain ⟨h1, h2⟩ := hh
      refine ⟨b, ?_, h2⟩
      rw [show k = a from h1.symm]
      exact List.mem_cons_self ..
    · obtain ⟨x, hx, rx⟩ := ih h
      exact ⟨x, List.mem_cons_of_mem _ hx, rx⟩
theorem kv_all {ks ls : List (Key × V)} {vs ws : List (Key × Value)} (r : KV ks vs) (r2 : KV ls ws) (e : Key → Bool) : (vs.all fun p => (valueAt ws p.1).isSome && e p.1) = ks.all fun p => (valV ls p.1).isSome && e p.1 := by
  unfold KV at r
  induction r with
  | nil => rfl
  | @cons p q ps qs hh t ih =>
    rw [List.all_cons, List.all_cons, ih, ← hh.1, (r2.val p.1).isSome_eq]
def rEqDI : R2 := fun x y H Q => ∃ (a b d1 d2 : Addr) (ks ls : List (Key × V)) (i j : Int), x = .ref a ∧ y = .ref b ∧ d1 ≠ d2 ∧ H a = some (.tup [.ref d1, .int i]) ∧ H b = some (.tup [.ref d2, .int j]) ∧ H d1 = some (.dK ks) ∧ H d2 = some (.dK ls) ∧
  Ints ks ∧ Ints ls ∧ (ks.map (·.1)).Nodup ∧ Q (.bl (sameD ks ls && (i == j))) H
section
variable {X : Cx}
theorem op_eqDI (hu : X.A.units + 64 < cLine) : OpR X (compareOp .Eq) rEqDI := by
  intro pins s σ H x y v u Q I rx ry h
  obtain ⟨a, b, d1, d2, ks, ls, i, j, rfl, rfl, hne, ha, hb, hd1, hd2, hi1, hi2, hnd, q⟩ := h
  cases rx
  cases ry
  obtain ⟨its, r1, t1, _⟩ := I.tuple (SqT.of ha)
  obtain ⟨jts, r2, t2, _⟩ := I.tuple (SqT.of hb)
  obtain ⟨u1, u2, rfl, ra1, ra2⟩ := vals2 r1
  obtain ⟨w1, w2, rfl, rb1, rb2⟩ := vals2 r2
  cases (show u1 = Value.ref d1 from ra1)
  cases (show w1 = Value.ref d2 from rb1)
  obtain ⟨k1, rfl⟩ := (show ∃ t, u2 = Value.int i t from ra2)
  obtain ⟨k2, rfl⟩ := (show ∃ t, w2 = Value.int j t from rb2)
  obtain ⟨_, ya, va, rva, da⟩ := dk_of I.hok hd1
  obtain ⟨_, yb, vb, rvb, db⟩ := dk_of I.hok hd2
  have leaf : ∀ k v y, (k, v) ∈ va → valueAt vb k = some y → PySem.W.EqTree X.prog X.w s 0 v y (decide (valV ls k = valV ks k)) := fun k v y hm hy => by
    obtain ⟨x, hx, rx⟩ := kv_mem rva hm
    obtain ⟨z, ez⟩ := hi1 _ hx
    have ez' : x = .int z := ez
    subst ez'
    have e1 : valV ks k = some (.int z) := valV_nd hnd hx
    have ro := rvb.val k
    rw [hy] at ro
    cases e2 : valV ls k with
    | none => rw [e2] at ro; exact (show False from ro).elim
    | some x2 =>
      rw [e2] at ro
      obtain ⟨z2, ez2⟩ := hi2 _ (valV_in e2)
      have ez2' : x2 = .int z2 := ez2
      subst ez2'
      obtain ⟨t1, rfl⟩ := (show ∃ t, v = Value.int z t from rx)
      obtain ⟨t2, rfl⟩ := (show ∃ t, y = Value.int z2 t from ro)
      have eb : decide ((some (V.int z2) : Option V) = valV ks k) = (z == z2) := by
        rw [e1]
        by_cases h : z = z2
        · subst h
          simp
        · have h' : ¬ (some (V.int z2) : Option V) = some (V.int z) := fun e => h (V.int.inj (Option.some.inj e)).symm
          rw [decide_eq_false h']
          simp [h]
      rw [eb]
      exact .leaf fun A _ => SeqAt.EqAt.int_int z t1 z2 t2
  have td : PySem.W.EqTree X.prog X.w s 1 (.ref d1) (.ref d2) _ := .dicts (knd := mixKind X.prog X.w) (e := fun k => decide (valV ls k = valV ks k)) hne ya yb da db leaf
  rw [kv_all rva rvb (fun k => decide (valV ls k = valV ks k)), ← rva.length, ← rvb.length] at td
  have td' : PySem.W.EqTree X.prog X.w s 1 (.ref d1) (.ref d2) (sameD ks ls) := td
  refine PySem.W.eq_tuplesT (n := 1) (e := fun m => if m = 0 then sameD ks ls else (i == j)) t1 t2 (fun m h1 h2 => ?_) (by omega) ?_
  · match m, h1, h2 with
    | 0, _, _ => exact td'
    | 1, _, _ => exact .leaf fun A _ => SeqAt.EqAt.int_int i k1 j k2
    | n + 2, h1, _ => exact absurd h1 (by simp)
  · refine ⟨.bl (sameD ks ls && (i == j)), H, I, ?_, q⟩
    show Value.bool _ = Value.bool _
    congr 1
    simp [List.range_succ]
end
end Lamp
set_option Elab.async false
set_option linter.all false
set_option maxRecDepth 100000
namespace Lamp
open PySem PySem.Spec PyProof.Rows L2
def top (i : Nat) : Stmt := PySem.Challenge.pw_lamprounds_k21_whole_rounds_that_commute.main.body.getD i (.Pass ⟨0, 0, 0, 0⟩)
abbrev sWell : Stmt := top 32
abbrev sDraw : Stmt := top 33
abbrev sPick : Stmt := top 34
abbrev sGreat : Stmt := top 35
/-! where draws come from: a mixed number, a count, the digits of a great number -/
def Well (H : Hp) (p : Addr) : Prop := ∃ x y z : Int, H p = some (.lst [.int x, .int y, .int z]) ∧ 0 ≤ x ∧ x < 2147483648 ∧ 0 ≤ z
theorem Well.same {H H' : Hp} {p : Addr} (h : Well H p) (s : Same H H') : Well H' p := by
  obtain ⟨x, y, z, h, hx⟩ := h
  exact ⟨x, y, z, s _ _ h, hx⟩
theorem Well.ne {H : Hp} {p q : Addr} (h : Well H p) (e : H q = none) : q ≠ p := by
  obtain ⟨x, y, z, h, _⟩ := h
  exact fun z => by rw [z, h] at e; cases e
def spWell (K : PySem.W.Frag) : Sp := fun vs H Q _ => ∃ (a : Addr) (ns : List Int) (t : Int), vs = [.ref a, .int t] ∧ SqL K H a (ns.map V.int) ∧ ns.length ≤ 63 ∧ 0 ≤ t ∧ t ≤ 100 ∧
  ∀ H' p, Same H H' → H p = none → Well H' p → Q (.ref p) H'
def spDraw : Sp := fun vs H Q _ => ∃ (p : Addr) (m : Int), vs = [.ref p, .int m] ∧ 0 < m ∧ m < 1073741824 ∧ Well H p ∧ ∀ (r : Int) H', 0 ≤ r → r < m → Well H' p → But p H H' → Q (.int r) H'
theorem ints_at {ns : List Int} {i : Nat} {y : V} (h : (ns.map V.int)[i]? = some y) : ∃ z, ns[i]? = some z ∧ y = .int z := by
  rw [List.getElem?_map] at h
  cases e : ns[i]? with
  | none => rw [e] at h; cases h
  | some z => rw [e] at h; exact ⟨z, rfl, (Option.some.inj h).symm⟩

theorem cut_ints (ns : List Int) (lo hi : Option Int) : ∃ ms : List Int, cutV (ns.map V.int) lo hi = ms.map V.int := by
  unfold cutV
  exact ⟨_, by rw [← List.map_drop, ← List.map_take]⟩
/-! reading a term without allocation -/
section
variable {σ : L2.St} {H : Hp} {K : PySem.W.Frag} {ta tb : TE} {i j : Int} {x y z : V}
theorem lv_I0 {g : Int → Int → V} : ∀ Q : VK, Q (g i j) H → rI0 g (.int i) (.int j) H Q := fun _ q => ⟨i, j, rfl, rfl, q⟩
theorem lv_I {C : Int → Int → Prop} {g : Int → Int → V} (h : C i j) : ∀ Q : VK, Q (g i j) H → rI C g (.int i) (.int j) H Q := fun _ q => ⟨i, j, rfl, rfl, h, q⟩
theorem lv_ix {p : Addr} {xs : List V} (h : H p = some (.lst xs)) (e : atI xs i = some z) : ∀ Q : VK, Q z H → rIxL K (.ref p) (.int i) H Q := fun _ q => ⟨p, xs, i, z, rfl, rfl, SqL.of h, e, q⟩
theorem lv_int (h : Val ta σ H (.int i)) : Val (tCB (fun xs H Q => (∃ i, xs = [.int i] ∧ Q (.int i) H) ∨ ∃ k, xs = [.bl k] ∧ Q (.int (if k then 1 else 0)) H) (tCons ta tNil)) σ H (.int i) := fun Q q => h _ (Or.inl ⟨i, rfl, q⟩)
theorem lv_ixS {p : Addr} {xs : List V} (h : SqL K H p xs) (e : atI xs i = some z) : ∀ Q : VK, Q z H → rIxL K (.ref p) (.int i) H Q := fun _ q => ⟨p, xs, i, z, rfl, rfl, h, e, q⟩
theorem lv_if {t : TT} {b : Bool} (h : Ans t σ H b) (h1 : b = true → Val ta σ H x) (h2 : b = false → Val tb σ H x) : Val (tIf t ta tb) σ H x := by
  intro Q q
  refine h _ ?_
  cases b with
  | true => exact h1 rfl Q q
  | false => exact h2 rfl Q q
theorem lv_len {p : Addr} {ys : List V} (h : Val ta σ H (.ref p)) (hs : SqL K H p ys) : Val (tCB (fun xs H Q => ∃ p ys, xs = [.ref p] ∧ (SqL K H p ys ∨ SqT K H p ys) ∧ Q (.int ys.length) H) (tCons ta tNil)) σ H (.int ys.length) :=
  fun Q q => h _ ⟨p, ys, rfl, .inl hs, q⟩
theorem lv_abs (h : Val ta σ H (.int i)) : Val (tCB (fun xs H Q => ∃ i, xs = [.int i] ∧ Q (.int (if i < 0 then -i else i)) H) (tCons ta tNil)) σ H (.int (if i < 0 then -i else i)) := fun Q q => h _ ⟨i, rfl, q⟩
theorem lv_lst3 {tc : TE} {D : Ends} (h1 : Val ta σ H x) (h2 : Val tb σ H y) (h3 : Val tc σ H z) (q : ∀ p, H p = none → D.rt (.ref p) (upd H p (.lst [x, y, z]))) : tRet (tLst (tCons ta (tCons tb (tCons tc tNil)))) D σ H :=
  h1 _ (h2 _ (h3 _ ⟨by show 3 ≤ sizeLine; decide, q⟩))
theorem lv_op1 {r : R2} (ha : Val ta σ H x) (hb : Val tb σ H y) (hr : ∀ Q : VK, Q z H → r x y H Q) : Val (tOp r ta tb) σ H z := val_op ha hb hr
end
section
variable {σ : L2.St} {H : Hp} {D : Ends} {te ta tb : TE} {t1 t2 t3 : TS} {c : TT} {v : V} {i : Nat}
theorem sq_no (h : Ans c σ H false) (q : t2 D σ H) : tSeq (tIfS c t1 tNext) t2 D σ H := st_seq (st_no h q)
theorem sq_yes (h : Ans c σ H true) (q : t1 { D with nx := t2 D } σ H) : tSeq (tIfS c t1 t3) t2 D σ H := st_seq (st_yes h q)
theorem sq_set (h : Val te σ H v) (q : t2 D (σ.set i (some v)) H) : tSeq (tAsg te (gName i)) t2 D σ H := st_seq (st_set h q)
theorem sq_setL {p : Addr} {xs : List V} {k : Int} {j : Nat} (h : Val te σ H v) (ha : Val ta σ H (.ref p)) (hb : Val tb σ H (.int k)) (hp : H p = some (.lst xs)) (hj : ixN xs.length k = some j)
    (q : t2 D σ (upd H p (.lst (xs.set j v)))) : tSeq (tAsg te (gSub ta tb rSetL)) t2 D σ H := h _ (ha _ (hb _ ⟨p, xs, k, j, rfl, rfl, hp, hj, q⟩))
theorem sq_for {K : PySem.W.Frag} {g : TG} (P : Addr → Hp → Prop) (h : ∀ Q : VK, (∀ a H1, P a H1 → Q (.ref a) H1) → te σ H Q)
    (k : ∀ a H1, P a H1 → ∃ (xs : List V) (Pv : Nat → L2.St → Hp → Prop), SqL K H1 a xs ∧ Pv 0 σ H1 ∧ (∀ i σ H, i ≤ xs.length → Pv i σ H → SqL K H a xs) ∧ (∀ i x σ H, xs[i]? = some x → Pv i σ H → g x σ H fun σ2 H2 => t1 { D with nx := Pv (i + 1), ct := Pv (i + 1), bk := t2 D } σ2 H2) ∧ ∀ σ H, Pv xs.length σ H → t2 D σ H) :
    tSeq (tFor (iList K te) g t1) t2 D σ H := h _ fun a H1 p => by
  obtain ⟨xs, Pv, h1, h2, h3, h4, h5⟩ := k a H1 p
  exact ⟨a, rfl, ⟨xs, h1⟩, for_list (D := { D with nx := t2 D }) Pv h2 h3 h4 h5⟩
theorem an_gt {x y : Int} {b : Bool} (ha : Val ta σ H (.int x)) (hb : Val tb σ H (.int y)) (e : decide (y < x) = b) : Ans (tTest (tOp (rI0 fun i j => .bl (decide (j < i))) ta tb)) σ H b :=
  ans_cmp ha hb fun Q q => ⟨x, y, rfl, rfl, (show Q (.bl (decide (y < x))) H by rw [e]; exact q)⟩
theorem an_lt {x y : Int} {b : Bool} (ha : Val ta σ H (.int x)) (hb : Val tb σ H (.int y)) (e : decide (x < y) = b) : Ans (tTest (tOp (rI0 fun i j => .bl (decide (i < j))) ta tb)) σ H b :=
  ans_cmp ha hb fun Q q => ⟨x, y, rfl, rfl, (show Q (.bl (decide (x < y))) H by rw [e]; exact q)⟩
theorem an_ge {x y : Int} {b : Bool} (ha : Val ta σ H (.int x)) (hb : Val tb σ H (.int y)) (e : decide (y ≤ x) = b) : Ans (tTest (tOp (rI0 fun i j => .bl (decide (j ≤ i))) ta tb)) σ H b :=
  ans_cmp ha hb fun Q q => ⟨x, y, rfl, rfl, (show Q (.bl (decide (y ≤ x))) H by rw [e]; exact q)⟩
end
theorem mulR {i j : Int} (h : j < 2 ^ 64 ∧ -(2 ^ 64) < j) : CMul i j := .inr ⟨h.2, h.1⟩
theorem mulL {i j : Int} (h : i < 2 ^ 64 ∧ -(2 ^ 64) < i) : CMul i j := .inl ⟨h.2, h.1⟩
local macro_rules | `(tactic| walk_at "lv") => `(tactic| first
  | exact val_var rfl
  | exact val_c
  | (refine' lv_int ?ha; (case ha => walk_at "lv"))
  | (refine' lv_op1 ?ha ?hb ?hr; (case ha => walk_at "lv"); (case hb => walk_at "lv"); (case hr => first | exact fun _ q => ⟨_, _, rfl, rfl, q⟩ | (refine' lv_ix ?hh ?ee; (case hh => assumption); (case ee => rfl)) | exact fun _ q => ⟨_, _, rfl, rfl, mulR ⟨by decide, by decide⟩, q⟩ | exact fun _ q => ⟨_, _, rfl, rfl, mulL ⟨by decide, by decide⟩, q⟩ | exact fun _ q => ⟨_, _, rfl, rfl, (show CDiv _ _ from ⟨by omega, by omega⟩), q⟩ | exact fun _ q => ⟨_, _, rfl, rfl, mulL (by omega), q⟩ | exact fun _ q => ⟨_, _, rfl, rfl, mulR (by omega), q⟩ | exact fun _ q => ⟨_, _, rfl, rfl, (show (0 : Int) < _ by omega), q⟩)))
theorem cut_len (ns : List Int) (lo hi : Option Int) : (cutV (ns.map V.int) lo hi).length ≤ ns.length := by
  unfold cutV
  rw [List.length_take, List.length_drop, List.length_map]
  omega
theorem le_of_lt1000 {n : Nat} (h : n < 1000) : n ≤ sizeLine := Nat.le_of_lt (small1000 (Nat.le_of_lt h))
section
variable {P : Program} {w : World} {K : PySem.W.Frag} {mg : Str → Option Value} {base : Heap}
theorem pyl {x m : Int} (h0 : 0 < m) (h1 : m < 1073741824) : Builtin.divisionGoesByPylong x m = false := by
  have hl : m.natAbs.log2 < 30 := PySem.Flt.log2_lt_of (by decide) (by omega)
  have hm : ¬ ((if (m == 0) = true then 0 else m.natAbs.log2 / 30 + 1) > 300) := by
    split
    · decide
    · omega
  show (decide ((if (m == 0) = true then 0 else m.natAbs.log2 / 30 + 1) > 300) && _) = false
  rw [decide_eq_false hm, Bool.false_and]
theorem scWell : FnScope ["_law_script", "_law_spot", "_law_state", "_law_cell", "_law_own"] ["_law_script", "_law_spot"] (defScope sWell) := ⟨rfl, rfl, rfl, by decide +kernel, rfl, by decide +kernel, by decide +kernel⟩
theorem scDraw : FnScope ["_law_well_here", "_law_many", "_law_digit", "_law_seed"] ["_law_well_here", "_law_many"] (defScope sDraw) := ⟨rfl, rfl, rfl, by decide +kernel, rfl, by decide +kernel, by decide +kernel⟩
theorem ok_draw {f : Addr} {fd : FuncData} {k : Nat} (F : Fun K "_law_draw" "_law_draw" sDraw f fd) (mi : mg "int" = none) (md : mg "divmod" = none) : FnOk P w K mg base CX0 (k + 1) f fd ["_law_well_here", "_law_many"] spDraw := by
  refine F.ok scDraw (fun vs H Q E h => ?_) (fun cdv A outer s H vs Q E hr h => ?_)
  · obtain ⟨p, m, rfl, _⟩ := h
    rfl
  · obtain ⟨p, m, rfl, h0, h1, ⟨x, y, z, hp, hx, hx2, hz⟩, q⟩ := h
    refine ⟨_, pss_cons (ps_if (pt_cmpR op_gt (pe_ix ix_list (pv 0) pe_int (fun _ _ => rfl)) pe_int (nomark _))
        (pss_cons (ps_asg (pe_callB call_divmodW (by rfl) md (by decide +kernel) (pa_cons (pe_ix ix_list (pv 0) pe_int (fun _ _ => rfl)) (pa_cons (pv 1) pa_nil)))
            (pg_tup rfl (pgs_cons (pg_sub (pv 0) pe_int set_list) (pgs_cons (pg_name (i := 2) scDraw.nd rfl (.inl rfl)) pgs_nil))))
          (pss_one (ps_ret (pv 2)))) pss_nil)
      (pss_cons (ps_asg (pe_op op_add (pe_ix ix_list (pv 0) pe_int (fun _ _ => rfl)) pe_int) (pg_sub (pv 0) pe_int set_list))
      (pss_cons (ps_set (i := 3) scDraw.nd rfl (.inl rfl) (pe_callTy call_int1 (by rfl) mi (by decide +kernel) (pa_cons (pe_ix ix_list (pv 0) pe_int (fun _ _ => rfl)) pa_nil)))
      (pss_cons (ps_asg (pe_op op_mod (pe_callTy call_int1 (by rfl) mi (by decide +kernel) (pa_cons (pe_op op_add (pe_op op_add (pe_op op_mul (pv 3) pe_int) (pe_op op_mul (pe_ix ix_list (pv 0) pe_int (fun _ _ => rfl)) pe_int)) pe_int) pa_nil)) pe_int) (pg_sub (pv 0) pe_int set_list))
      (pss_one (ps_ret (pe_op op_mod (pe_callTy call_int1 (by rfl) mi (by decide +kernel) (pa_cons (pe_op op_fdiv (pe_ix ix_list (pv 0) pe_int (fun _ _ => rfl)) pe_int) pa_nil)) (pv 1))))))), ?_⟩
    by_cases hz0 : 0 < z
    · refine sq_yes (an_gt (x := z) (by walk_at "lv") val_c (decide_eq_true hz0)) ?_
      refine ⟨.ref p, rfl, p, _, 2, .int z, rfl, rfl, SqL.of hp, rfl, _, rfl, z, m, rfl, ⟨h0, pyl h0 h1⟩, fun t nt => ?_⟩
      have ntp : p ≠ t := ne_of_none hp nt
      refine ⟨t, _, rfl, SqT.of upd_same, rfl, _, _, rfl, ?_⟩
      refine ⟨.ref p, rfl, p, [.int x, .int y, .int z], 2, 2, rfl, rfl, (by rw [upd_ne ntp]; exact hp), rfl, ?_⟩
      refine ⟨_, _, rfl, rfl, ?_⟩
      refine ⟨_, rfl, ?_⟩
      refine q _ _ (Int.emod_nonneg _ (by omega)) (Int.emod_lt_of_pos _ h0) ⟨_, _, _, upd_same, hx, hx2, Int.ediv_nonneg hz (by omega)⟩ ?_
      exact (But.new nt).trans But.at
    · refine sq_no (an_gt (x := z) (by walk_at "lv") val_c (decide_eq_false hz0)) ?_
      refine sq_setL (by walk_at "lv") (val_var rfl) val_c hp rfl ?_
      have hp1 : (upd H p (.lst [.int x, .int (y + 1), .int z])) p = some (.lst [.int x, .int (y + 1), .int z]) := upd_same
      refine sq_set (v := .int x) (by walk_at "lv") ?_
      obtain ⟨Y, hY⟩ : ∃ Y : Int, (x * 40009 + (y + 1) * 48017 + 71) % 2147483629 = Y := ⟨_, rfl⟩
      refine sq_setL (v := .int Y) (j := 0) ?hv (val_var rfl) val_c hp1 rfl ?_
      case hv =>
        rw [← hY]
        walk_at "lv"
      have hY0 : 0 ≤ Y := by rw [← hY]; exact Int.emod_nonneg _ (by decide)
      have hY1 : Y < 2147483629 := by rw [← hY]; exact Int.emod_lt_of_pos _ (by decide)
      have hp2 : (upd (upd H p (.lst [.int x, .int (y + 1), .int z])) p (.lst [.int Y, .int (y + 1), .int z])) p = some (.lst [.int Y, .int (y + 1), .int z]) := upd_same
      refine st_ret (v := .int (Y / 2048 % m)) ?_ ?_
      · walk_at "lv"
      · exact q _ _ (Int.emod_nonneg _ (by omega)) (Int.emod_lt_of_pos _ h0) ⟨_, _, _, upd_same, hY0, by omega, hz⟩ (But.at.trans But.at)
theorem ok_well {f : Addr} {fd : FuncData} {k : Nat} (F : Fun K "_law_well" "_law_well" sWell f fd) (mi : mg "int" = none) (ml : mg "len" = none) (ma : mg "abs" = none) : FnOk P w K mg base CX0 (k + 1) f fd ["_law_script", "_law_spot"] (spWell K) := by
  refine F.ok scWell (fun vs H Q E h => ?_) (fun cdv A outer s H vs Q E hr h => ?_)
  · obtain ⟨a, ns, t, rfl, _⟩ := h
    rfl
  · obtain ⟨a, ns, t, rfl, hS, hlen, ht0, ht1, q⟩ := h
    refine ⟨_, pss_cons (ps_set (i := 2) scWell.nd rfl (.inl rfl) (pe_op op_add pe_int (pe_op op_mul pe_int (pv 1))))
      (pss_cons (ps_for PassesOwn.never rfl (pi_list (pe_op op_cat (pe_slice (r := rSlL K) sl_list (pv 0) po_none (po_some pe_int)) (pe_slice (r := rSlL K) sl_list (pv 0) (po_some (pv 1)) (po_some (pe_op op_add (pv 1) pe_int))))) (pg_name (i := 3) scWell.nd rfl (.inl rfl))
        (pss_one (ps_set (i := 2) scWell.nd rfl (.inl rfl) (pe_op op_mod (pe_callTy call_int1 (by rfl) mi (by decide +kernel) (pa_cons (pe_op op_add (pe_op op_add (pe_op op_mul (pv 2) pe_int) (pv 3)) pe_int) pa_nil)) pe_int))))
      (pss_cons (ps_set (i := 4) scWell.nd rfl (.inl rfl) (pe_ifExp (pt_cmpR op_lt (pv 1) (pe_callB call_len_seq (by rfl) ml PySem.boot_len (pa_cons (pv 0) pa_nil)) (nomark _)) (pe_ix ix_list (pv 0) (pv 1) (fun _ _ => rfl)) pe_int))
      (pss_one (ps_ret (pe_lst (pa_cons (pv 2) (pa_cons pe_int (pa_cons (pe_ifExp (pt_cmpR op_ge (pe_callB call_abs (by rfl) ma (by decide +kernel) (pa_cons (pv 4) pa_nil)) (pe_op op_pow pe_int pe_int) (nomark _)) (pe_callB call_abs (by rfl) ma (by decide +kernel) (pa_cons (pv 4) pa_nil)) pe_int) pa_nil)))))))), ?_⟩
    refine sq_set (v := .int (70009 + 853 * t)) (by walk_at "lv") ?_
    refine sq_for (fun c H1 => H c = none ∧ Same H H1 ∧ ∃ ms : List Int, H1 c = some (.lst (ms.map V.int))) (fun Q q => ?_) ?_
    · refine ⟨.ref a, rfl, 4, rfl, a, ns.map V.int, rfl, hS, fun c1 n1 => ?_⟩
      have s1 := same_of (o := .lst (cutV (ns.map V.int) none (some 4))) n1
      refine ⟨.ref a, rfl, .int t, rfl, t, rfl, .int t, rfl, t, 1, rfl, rfl, t + 1, rfl, a, ns.map V.int, rfl, s1.seq hS, fun c2 n2 => ?_⟩
      obtain ⟨m1, e1⟩ := cut_ints ns none (some 4)
      obtain ⟨m2, e2⟩ := cut_ints ns (some t) (some (t + 1))
      have l1 := cut_len ns none (some 4)
      have l2 := cut_len ns (some t) (some (t + 1))
      rw [e1] at l1 s1 n2 ⊢
      rw [e2] at l2 ⊢
      rw [List.length_map] at l1 l2
      have s2 := same_of (o := .lst (m2.map V.int)) n2
      have nc : c1 ≠ c2 := fun e => by rw [← e, upd_same] at n2; cases n2
      refine ⟨c1, c2, m1.map V.int, m2.map V.int, rfl, rfl, by rw [upd_ne nc, upd_same], upd_same, le_of_lt1000 (by rw [List.length_map, List.length_map]; omega), fun c n => q c _ ⟨?_, ?_, m1 ++ m2, by rw [upd_same, List.map_append]⟩⟩
      · exact (s1.trans s2).free n
      · exact (s1.trans s2).trans (same_of n)
    · rintro c H1 ⟨nc, sm, ms, hc⟩
      refine ⟨ms.map V.int, fun i σ H' => ∃ (st : Int) (v4 : Option V), σ = [some (.ref a), some (.int t), some (.int st), v4, none] ∧ 0 ≤ st ∧ st < 2147483648 ∧ H' = H1, SqL.of hc,
        ⟨70009 + 853 * t, none, rfl, by omega, by omega, rfl⟩, (fun i σ H' _ ⟨_, _, _, _, _, e⟩ => by rw [e]; exact SqL.of hc), ?_, ?_⟩
      · rintro i y σ H' hi ⟨st, v4, rfl, hs0, hs1, rfl⟩
        obtain ⟨z, hz, rfl⟩ := ints_at hi
        show tAsg _ _ _ _ _
        refine st_set (v := .int ((st * 36007 + z + 41) % 2147483579)) (by walk_at "lv") ?_
        exact ⟨_, _, rfl, Int.emod_nonneg _ (by decide), Int.lt_of_lt_of_le (Int.emod_lt_of_pos _ (by decide)) (by decide), rfl⟩
      · rintro σ H' ⟨st, v4, rfl, hs0, hs1, rfl⟩
        have hS1 := sm.seq hS
        have hown : ∃ own : Int, ∀ hlt : Bool, decide (t < (ns.length : Int)) = hlt → (hlt = true → atI (ns.map V.int) t = some (.int own)) ∧ (hlt = false → own = 0) := by
          by_cases hl : t < (ns.length : Int)
          · have hj : t.toNat < ns.length := by omega
            refine ⟨ns[t.toNat], fun b hb => ⟨fun _ => ?_, fun e => ?_⟩⟩
            · exact L2.at_of (j := t.toNat) (by omega) (by rw [List.getElem?_map, List.getElem?_eq_getElem hj]; rfl)
            · rw [decide_eq_true hl] at hb
              rw [e] at hb
              cases hb
          · refine ⟨0, fun b hb => ⟨fun e => ?_, fun _ => rfl⟩⟩
            rw [decide_eq_false hl] at hb
            rw [e] at hb
            cases hb
        obtain ⟨own, how⟩ := hown
        obtain ⟨b, hb⟩ : ∃ b, decide (t < (ns.length : Int)) = b := ⟨_, rfl⟩
        have how := how b hb
        refine sq_set (v := .int own) (lv_if (b := b) (an_lt (val_var rfl) (lv_len (val_var rfl) hS1) (by rw [List.length_map]; exact hb)) (fun e => val_op (val_var rfl) (val_var rfl) (lv_ixS hS1 (how.1 e))) (fun e => by rw [how.2 e]; exact val_c)) ?_
        have hX : ∃ X : Int, 0 ≤ X ∧ ((10 ^ 18 ≤ (if own < 0 then -own else own) ∧ X = if own < 0 then -own else own) ∨ (¬ (10 : Int) ^ 18 ≤ (if own < 0 then -own else own) ∧ X = 0)) := by
          by_cases h2 : (10 : Int) ^ 18 ≤ (if own < 0 then -own else own)
          · exact ⟨_, Int.le_trans (by decide) h2, .inl ⟨h2, rfl⟩⟩
          · exact ⟨0, by omega, .inr ⟨h2, rfl⟩⟩
        obtain ⟨X, hX0, hX⟩ := hX
        refine lv_lst3 (x := .int st) (y := .int 0) (z := .int X) (val_var rfl) val_c ?_ ?_
        · rcases hX with ⟨h1, e⟩ | ⟨h1, e⟩
          · refine lv_if (b := true) (an_ge (y := 10 ^ 18) (lv_abs (val_var rfl)) ?_ (decide_eq_true h1)) (fun _ => ?_) (fun z => Bool.noConfusion z)
            · exact val_op val_c val_c fun _ q => ⟨_, _, rfl, rfl, ⟨by decide, by decide, by decide⟩, q⟩
            · rw [e]
              exact lv_abs (val_var rfl)
          · refine lv_if (b := false) (an_ge (y := 10 ^ 18) (lv_abs (val_var rfl)) ?_ (decide_eq_false h1)) (fun z => Bool.noConfusion z) (fun _ => ?_)
            · exact val_op val_c val_c fun _ q => ⟨_, _, rfl, rfl, ⟨by decide, by decide, by decide⟩, q⟩
            · rw [e]
              exact val_c
        · intro p np
          exact q _ p (sm.trans (same_of np)) (sm.free np) ⟨_, _, _, upd_same, hs0, hs1, hX0⟩
end
end Lamp
set_option Elab.async false
set_option linter.all false
set_option maxRecDepth 100000
set_option maxHeartbeats 1000000
namespace Lamp
open PySem PySem.Spec PyProof.Rows L2
/-- all that the walk asks of an exception class whose __init__ keeps f -/
structure XC (P : Program) (w : World) (K : PySem.W.Frag) (mg : Str → Option Value) (C : Addr) (x f : Str) : Prop where
  T : ∃ (B newId initId : String) (tail : List Value), EC K C B newId initId tail
  hm : mg x = some (.ref C)
  nf : PySem.W.findIn K (.ref C) f = some none
  made : ∃ (fI : Addr) (fd : FuncData), PySem.W.findIn K (.ref C) "__init__" = some (some (.ref fI)) ∧ PySem.W.typeIn K (.ref fI) = some (.type "function") ∧ PySem.W.takerIn K C f = some none ∧
    (∀ base : Heap, FnOk P w K mg base CX0 1 fI fd ["self", f] (spInit K C f)) ∧ (∀ (s : Shared) (v u : Value), K.In s.heap → BindsTo s fd ⟨[v, u], []⟩ [("self", v), (f, u)]) ∧ (∀ (s : Shared) (v u : Value), K.In s.heap → BindsTo s fd ⟨[v], [(f, u)]⟩ [("self", v), (f, u)])
/-- .. that has no __init__ of the program -/
structure XN (K : PySem.W.Frag) (mg : Str → Option Value) (C : Addr) (x : Str) : Prop where
  T : ∃ (B newId initId : String) (tail : List Value), EC K C B newId initId tail ∧ PySem.W.excIn K C tail newId = true
  hm : mg x = some (.ref C)
section
variable {X : Cx} {C : Addr} {x f : Str} {p pos : Pos} {e : Expr} {ta : TE}
theorem pe_xc (Z : XC X.prog X.w X.K X.mg C x f) (hr : Room 2 X.A) (hg : Gl X x) (ha : PE X e ta) (hs : starEach [e] X.env = (false, eval e X.env) :: starEach [] X.env := by rfl) (hdb : (x == ("__debug__" : Str)) = false := by decide) :
    PE X (.Call (.Name x p) [e] [] pos) (tMkE C f ta) := by
  obtain ⟨fI, fd, h1, h2, h3, h4, h5, _⟩ := Z.made
  obtain ⟨B, newId, initId, tail, T⟩ := Z.T
  exact pe_mkE T h1 h2 h3 (h4 _) hr h5 hg Z.hm ha hs hdb
theorem pe_xk {kws : List Keyword} {tk : TA} (Z : XC X.prog X.w X.K X.mg C x f) (hr : Room 2 X.A) (hg : Gl X x) (hkw : PK X kws tk) (hall : (backToKw pos (keywordEach kws X.env)).all (·.1.isSome) = true := by rfl) (hks : (backToKw pos (keywordEach kws X.env)).filterMap (·.1) = [f] := by rfl)
    (hdb : (x == ("__debug__" : Str)) = false := by decide) (hpl : ((backTo pos (starEach [] X.env)).any (·.1) || (backToKw pos (keywordEach kws X.env)).any (·.1.isNone)) = false := by rfl) : PE X (.Call (.Name x p) [] kws pos) (tMkK C f tk) := by
  obtain ⟨fI, fd, h1, h2, h3, h4, _, h6⟩ := Z.made
  obtain ⟨B, newId, initId, tail, T⟩ := Z.T
  exact pe_mkK T h1 h2 h3 (h4 _) hr h6 hg Z.hm hkw hall hks hdb hpl
/-- C() -/
def tMkN (C : Addr) : TE := fun _ H Q => ∀ a, H a = none → Q (.ref a) (upd H a (exo a C none))
theorem pe_xn (Z : XN X.K X.mg C x) (hg : Gl X x) (hdb : (x == ("__debug__" : Str)) = false := by decide) : PE X (.Call (.Name x p) [] [] pos) (tMkN C) := by
  obtain ⟨B, newId, initId, tail, T, q⟩ := Z.T
  exact pe_mk0 T.F q Z.hm T.kp hg hdb
end
/-! rows of exceptions made -/
/-- a class with the field that its exceptions have -/
abbrev XSpec := Addr × Option Str
def XHas (H : Hp) (y : V) (a : Addr) (s : XSpec) : Prop := match s.2 with
  | some f => XFld H a s.1 f y
  | none => XAt H a s.1
theorem XHas.same {H H' : Hp} {y : V} {a : Addr} {s : XSpec} (h : XHas H y a s) (e : Same H H') : XHas H' y a s := by
  obtain ⟨C, f⟩ := s
  cases f with
  | none => exact XAt.same h e
  | some f => exact XFld.same h e
theorem XHas.at {H : Hp} {y : V} {a : Addr} {s : XSpec} (h : XHas H y a s) : XAt H a s.1 := by
  obtain ⟨C, f⟩ := s
  cases f with
  | none => exact h
  | some f => exact XFld.at h
def EvX (y : V) (te : TE) (σ : L2.St) (s : XSpec) : Prop := ∀ (H : Hp) (Q : VK), (∀ a H', Same H H' → XHas H' y a s → Q (.ref a) H') → te σ H Q
def EvXs (y : V) (ta : TA) (σ : L2.St) (ss : List XSpec) : Prop := ∀ (H : Hp) (Q : List V → Hp → Prop), (∀ (as : List Addr) H', Same H H' → Paired (XHas H' y) as ss → Q (as.map V.ref) H') → ta σ H Q
section
variable {y : V} {te : TE} {ta : TA} {σ : L2.St} {s : XSpec} {ss : List XSpec} {C : Addr} {f : Str}
theorem made_same {H : Hp} {a dx : Addr} (h1 : H a = none) (h2 : H dx = none) (ne : dx ≠ a) : Same H (upd (upd (upd H a (exo a C none)) dx (exd dx [(f, y)])) a (exo a C (some dx))) := fun b o e => by
  rw [upd_ne (ne_of_none e h1), upd_ne (ne_of_none e h2), upd_ne (ne_of_none e h1)]
  exact e
theorem made_has {H : Hp} {a dx : Addr} (ne : dx ≠ a) : XFld (upd (upd (upd H a (exo a C none)) dx (exd dx [(f, y)])) a (exo a C (some dx))) a C f y :=
  ⟨dx, upd_same, by rw [upd_ne ne, upd_same]⟩
theorem evx_e {i : Nat} (h : σ[i]? = some (some y)) : EvX y (tMkE C f (tVar i)) σ (C, some f) := fun H Q q => ⟨y, h, fun a dx h1 h2 ne => q a _ (made_same h1 h2 ne) (made_has ne)⟩
theorem evx_k {i : Nat} (h : σ[i]? = some (some y)) : EvX y (tMkK C f (tCons (tVar i) tNil)) σ (C, some f) := fun H Q q => ⟨y, h, y, rfl, fun a dx h1 h2 ne => q a _ (made_same h1 h2 ne) (made_has ne)⟩
theorem evx_n : EvX y (tMkN C) σ (C, none) := fun H Q q a h => q a _ (same_of h) (.inl upd_same)
theorem evxs_nil : EvXs y tNil σ [] := fun H Q q => q [] H (Same.refl H) .nil
theorem evxs_cons (h1 : EvX y te σ s) (h2 : EvXs y ta σ ss) : EvXs y (tCons te ta) σ (s :: ss) := fun H Q q => h1 H _ fun a H1 s1 x1 => h2 H1 _ fun as H2 s2 x2 => q (a :: as) H2 (s1.trans s2) (.cons (x1.same s2) x2)
theorem xs_same {H H' : Hp} (e : Same H H') {as : List Addr} (h : Paired (XHas H y) as ss) : Paired (XHas H' y) as ss := L2.Paired.mapP h fun _ _ x => x.same e
variable {t2 : TS} {D : Ends} {H : Hp} {i : Nat} {ss0 : List XSpec}
theorem sq_lstX (h : EvXs y ta σ ss) (hl : ss.length ≤ 100) (k : ∀ l (as : List Addr) H', H' l = some (.lst (as.map V.ref)) → Same H H' → Paired (XHas H' y) as ss → t2 D (σ.set i (some (.ref l))) H') : tSeq (tAsg (tLst ta) (gName i)) t2 D σ H :=
  h H _ fun as H1 s1 x1 => by
    have hlen := Paired.length x1
    refine ⟨Nat.le_of_lt (small1000 (by rw [List.length_map]; omega)), fun r hr => ?_⟩
    exact k r as _ upd_same (s1.trans (same_of hr)) (xs_same (same_of hr) x1)
theorem cat_X {as0 : List Addr} {l0 : Addr} {Q : VK} (hx : σ[i]? = some (some (.ref l0))) (h0 : H l0 = some (.lst (as0.map V.ref))) (x0 : Paired (XHas H y) as0 ss0) (h : EvXs y ta σ ss) (hl : ss.length ≤ 100) (hl0 : ss0.length ≤ 100)
    (k : ∀ l (as : List Addr) H', H' l = some (.lst (as.map V.ref)) → Same H H' → Paired (XHas H' y) as (ss0 ++ ss) → Q (.ref l) H') : tOp rCat (tVar i) (tLst ta) σ H Q := by
  refine ⟨_, hx, h H _ fun as H1 s1 x1 => ?_⟩
  have hlen := Paired.length x1
  have hlen0 := Paired.length x0
  refine ⟨Nat.le_of_lt (small1000 (by rw [List.length_map]; omega)), fun r hr => ?_⟩
  have s2 : Same H1 (upd H1 r (.lst (as.map V.ref))) := same_of hr
  refine ⟨l0, r, as0.map V.ref, as.map V.ref, rfl, rfl, s2 _ _ (s1 _ _ h0), upd_same, Nat.le_of_lt (small1000 (by rw [List.length_map, List.length_map]; omega)), fun r2 hr2 => ?_⟩
  have s3 : Same (upd H1 r (.lst (as.map V.ref))) (upd (upd H1 r (.lst (as.map V.ref))) r2 (.lst (as0.map V.ref ++ as.map V.ref))) := same_of hr2
  exact k r2 (as0 ++ as) _ (by rw [List.map_append, upd_same]) ((s1.trans s2).trans s3) (paired_app (xs_same ((s1.trans s2).trans s3) x0) (xs_same (s2.trans s3) x1))
theorem sq_catX {as0 : List Addr} {l0 : Addr} (hx : σ[i]? = some (some (.ref l0))) (h0 : H l0 = some (.lst (as0.map V.ref))) (x0 : Paired (XHas H y) as0 ss0) (h : EvXs y ta σ ss) (hl : ss.length ≤ 100) (hl0 : ss0.length ≤ 100)
    (k : ∀ l (as : List Addr) H', H' l = some (.lst (as.map V.ref)) → Same H H' → Paired (XHas H' y) as (ss0 ++ ss) → t2 D (σ.set i (some (.ref l))) H') : tSeq (tAsg (tOp rCat (tVar i) (tLst ta)) (gName i)) t2 D σ H := cat_X hx h0 x0 h hl hl0 k
theorem st_catX {as0 : List Addr} {l0 : Addr} (hx : σ[i]? = some (some (.ref l0))) (h0 : H l0 = some (.lst (as0.map V.ref))) (x0 : Paired (XHas H y) as0 ss0) (h : EvXs y ta σ ss) (hl : ss.length ≤ 100) (hl0 : ss0.length ≤ 100)
    (k : ∀ l (as : List Addr) H', H' l = some (.lst (as.map V.ref)) → Same H H' → Paired (XHas H' y) as (ss0 ++ ss) → D.rt (.ref l) H') : tRet (tOp rCat (tVar i) (tLst ta)) D σ H := cat_X hx h0 x0 h hl hl0 k
end
end Lamp
set_option Elab.async false
set_option linter.all false
set_option maxRecDepth 100000
set_option maxHeartbeats 1000000
namespace Lamp
open PySem PySem.Spec PyProof.Rows L2
/-! argument lists that make nothing -/
def VA (ta : TA) (σ : L2.St) (H : Hp) (vs : List V) : Prop := ∀ Q : List V → Hp → Prop, Q vs H → ta σ H Q
section
variable {K : PySem.W.Frag} {te : TE} {ta : TA} {σ : L2.St} {H : Hp} {v : V} {vs vs0 : List V} {t2 : TS} {D : Ends} {i : Nat} {l0 : Addr}
theorem va_nil : VA tNil σ H [] := fun Q q => q
theorem va_cons (h1 : Val te σ H v) (h2 : VA ta σ H vs) : VA (tCons te ta) σ H (v :: vs) := fun Q q => h1 _ (h2 _ q)
theorem sq_lstV (h : VA ta σ H vs) (hl : vs.length ≤ 100) (k : ∀ l H', H' l = some (.lst vs) → Same H H' → t2 D (σ.set i (some (.ref l))) H') : tSeq (tAsg (tLst ta) (gName i)) t2 D σ H :=
  h _ ⟨Nat.le_of_lt (small1000 (by omega)), fun r hr => k r _ upd_same (same_of hr)⟩
theorem cat_V {Q : VK} (hx : σ[i]? = some (some (.ref l0))) (h0 : H l0 = some (.lst vs0)) (h : VA ta σ H vs) (hl : vs.length ≤ 100) (hl0 : vs0.length ≤ 100)
    (k : ∀ l H', H' l = some (.lst (vs0 ++ vs)) → Same H H' → Q (.ref l) H') : tOp rCat (tVar i) (tLst ta) σ H Q := by
  refine ⟨_, hx, h _ ⟨Nat.le_of_lt (small1000 (by omega)), fun r hr => ?_⟩⟩
  have s2 : Same H (upd H r (.lst vs)) := same_of hr
  exact ⟨l0, r, vs0, vs, rfl, rfl, s2 _ _ h0, upd_same, Nat.le_of_lt (small1000 (by omega)), fun r2 hr2 => k r2 _ upd_same (s2.trans (same_of hr2))⟩
theorem sq_catV (hx : σ[i]? = some (some (.ref l0))) (h0 : H l0 = some (.lst vs0)) (h : VA ta σ H vs) (hl : vs.length ≤ 100) (hl0 : vs0.length ≤ 100)
    (k : ∀ l H', H' l = some (.lst (vs0 ++ vs)) → Same H H' → t2 D (σ.set i (some (.ref l))) H') : tSeq (tAsg (tOp rCat (tVar i) (tLst ta)) (gName i)) t2 D σ H := cat_V hx h0 h hl hl0 k
theorem st_catV (hx : σ[i]? = some (some (.ref l0))) (h0 : H l0 = some (.lst vs0)) (h : VA ta σ H vs) (hl : vs.length ≤ 100) (hl0 : vs0.length ≤ 100)
    (k : ∀ l H', H' l = some (.lst (vs0 ++ vs)) → Same H H' → D.rt (.ref l) H') : tRet (tOp rCat (tVar i) (tLst ta)) D σ H := cat_V hx h0 h hl hl0 k
theorem v_isX {a C D' : Addr} {b : Bool} (h : σ[i]? = some (some (.ref a))) (hx : XAt H a C) (T : ∃ (B newId initId : String) (tail : List Value), EC K C B newId initId tail) (hk : PySem.W.kitOne K (.ref C) (.ref D') = some b) :
    Val (tCB (rIsX K) (tCons (tVar i) (tCons (tC (.ref D')) tNil))) σ H (.bl b) := fun Q q => ⟨_, h, a, C, _, _, b, rfl, hx, T, .own D', hk, q⟩
theorem v_isT {a C : Addr} {n : String} {b : Bool} (h : σ[i]? = some (some (.ref a))) (hx : XAt H a C) (T : ∃ (B newId initId : String) (tail : List Value), EC K C B newId initId tail) (hk : PySem.W.kitOne K (.ref C) (.type n) = some b) :
    Val (tCB (rIsX K) (tCons (tVar i) (tCons (tC (.ty n)) tNil))) σ H (.bl b) := fun Q q => ⟨_, h, a, C, _, _, b, rfl, hx, T, .ty n, hk, q⟩
end
end Lamp
set_option Elab.async false
set_option linter.all false
set_option maxRecDepth 100000
set_option maxHeartbeats 1000000
namespace Lamp
open PySem PySem.Spec PyProof.Rows L2
theorem But.step {p : Addr} {H H1 H2 : Hp} (a : But p H H1) (b : But p H1 H2) : But p H H2 := a.trans b
def big : Int := 10 ^ 39
section
variable {σ : L2.St} {H : Hp} {D : Ends} {t1 t2 : TS} {j : Nat}
theorem sq_forRn {n : Nat} (hn : n ≤ 1000) (Pv : Nat → L2.St → Hp → Prop) (h0 : Pv 0 σ H) (hs : ∀ (i : Nat) (σ' : L2.St) (H' : Hp), i < n → Pv i σ' H' → t1 { D with nx := Pv (i + 1), ct := Pv (i + 1), bk := t2 D } (σ'.set j (some (.int (i : Int)))) H')
    (hd : ∀ σ' H', Pv n σ' H' → t2 D σ' H') {te : TE} (he : Val te σ H (.int (n : Int))) : tSeq (tFor (iRng1 (tCons te tNil)) (gName j) t1) t2 D σ H := by
  refine he _ ⟨(n : Int), rfl, by omega, by omega, ?_⟩
  have e0 : ((n : Int)).toNat = n := by omega
  rw [e0]
  refine for_range (D := { D with nx := t2 D }) (lo := 0) (n := n) Pv h0 (fun i σ' H' hi p => ?_) hd
  have e1 : (0 : Int) + (i : Int) = (i : Int) := Int.zero_add _
  rw [e1]
  exact hs i σ' H' hi p
theorem sq_setR {te : TE} {i : Nat} (R : V → Hp → Prop) (h : ∀ Q : VK, (∀ v H', R v H' → Q v H') → te σ H Q) (k : ∀ v H', R v H' → t2 D (σ.set i (some v)) H') : tSeq (tAsg te (gName i)) t2 D σ H := h _ fun v H' r => k v H' r
theorem st_setR {te : TE} {i : Nat} (R : V → Hp → Prop) (h : ∀ Q : VK, (∀ v H', R v H' → Q v H') → te σ H Q) (k : ∀ v H', R v H' → D.nx (σ.set i (some v)) H') : tAsg te (gName i) D σ H := h _ fun v H' r => k v H' r
theorem sq_forRr {te : TE} (R : Int → Hp → Prop) (h : ∀ Q : VK, (∀ m H', R m H' → Q (.int m) H') → te σ H Q)
    (k : ∀ m H', R m H' → ∃ (n : Nat) (Pv : Nat → L2.St → Hp → Prop), m = (n : Int) ∧ n ≤ 1000 ∧ Pv 0 σ H' ∧ (∀ (i : Nat) (σ' : L2.St) (H' : Hp), i < n → Pv i σ' H' → t1 { D with nx := Pv (i + 1), ct := Pv (i + 1), bk := t2 D } (σ'.set j (some (.int (i : Int)))) H') ∧ (∀ σ' H', Pv n σ' H' → t2 D σ' H')) :
    tSeq (tFor (iRng1 (tCons te tNil)) (gName j) t1) t2 D σ H := h _ fun m H' r => by
  obtain ⟨n, Pv, rfl, hn, h0, hs, hd⟩ := k m H' r
  refine ⟨(n : Int), rfl, by omega, by omega, ?_⟩
  have e0 : ((n : Int)).toNat = n := by omega
  rw [e0]
  refine for_range (D := { D with nx := t2 D }) (lo := 0) (n := n) Pv h0 (fun i σ' H' hi p => ?_) hd
  have e1 : (0 : Int) + (i : Int) = (i : Int) := Int.zero_add _
  rw [e1]
  exact hs i σ' H' hi p
end
section
variable {P : Program} {w : World} {K : PySem.W.Frag} {mg : Str → Option Value} {base : Heap}
/-- what is known of the drawing def -/
structure Dr (P : Program) (w : World) (K : PySem.W.Frag) (mg : Str → Option Value) (base : Heap) (sp : Sp) (x : Str) (ps : List Str) (k : Nat) : Prop where
  ex : ∃ (f : Addr) (fd : FuncData), FnOk P w K mg base CX0 k f fd ps sp ∧ Binds K fd ps [] ∧ mg x = some (.ref f) ∧ PySem.W.keepIn K (.ref f) = true
theorem pe_dr {X : Cx} {sp : Sp} {x : Str} {ps : List Str} {k j : Nat} {e : Expr} {es : List Expr} {t : TA} {p pos : Pos} (Z : Dr X.prog X.w X.K X.mg X.base sp x ps k) (hk : k ≤ j) (hr : Room j X.A) (hg : Gl X x) (ha : PA X (e :: es) t) (hdb : (x == ("__debug__" : Str)) = false := by decide)
    (he : starEach (e :: es) X.env = (false, eval e X.env) :: starEach es X.env := by rfl) (hpl : (backTo pos (starEach es X.env)).any (·.1) = false := by rfl) : PE X (.Call (.Name x p) (e :: es) [] pos) (tCallG sp t) := by
  obtain ⟨f, fd, F, b, m, kp⟩ := Z.ex
  have z := pe_call (pos := pos) (p := p) F (hr.mono hk) hg m kp b .nil pass0 ha hdb he hpl
  refine ⟨fun pins s σ H Q I h => z.run pins s σ H Q I ?_⟩
  unfold tCall
  simp only [List.append_nil]
  exact h
def spPick : Sp := fun vs H Q _ => ∃ (p l : Addr) (xs : List V), vs = [.ref p, .ref l] ∧ l ≠ p ∧ H l = some (.lst xs) ∧ 0 < xs.length ∧ xs.length < 1000000 ∧ Well H p ∧ ∀ (v : V) H', v ∈ xs → Well H' p → But p H H' → Q v H'
def spGreat : Sp := fun vs H Q _ => ∃ (p : Addr), vs = [.ref p] ∧ Well H p ∧ ∀ (r : Int) H', 0 ≤ r → r < 1000000000000000000000000000 → Well H' p → But p H H' → Q (.int r) H'
theorem scPick : FnScope ["_law_well_here", "_law_choices"] ["_law_well_here", "_law_choices"] (defScope sPick) := ⟨rfl, rfl, rfl, by decide +kernel, rfl, by decide +kernel, by decide +kernel⟩
theorem scGreat : FnScope ["_law_well_here", "_law_found", "_law_turn"] ["_law_well_here"] (defScope sGreat) := ⟨rfl, rfl, rfl, by decide +kernel, rfl, by decide +kernel, by decide +kernel⟩
theorem ok_pick {f : Addr} {fd : FuncData} (F : Fun K "_law_pick" "_law_pick" sPick f fd) (C : Dr P w K mg base spDraw "_law_draw" ["_law_well_here", "_law_many"] 1) (ml : mg "len" = none) :
    FnOk P w K mg base CX0 2 f fd ["_law_well_here", "_law_choices"] spPick := by
  refine F.ok scPick (fun vs H Q E h => ?_) (fun cdv A outer s H vs Q E hr h => ?_)
  · obtain ⟨p, l, xs, rfl, _⟩ := h
    rfl
  · obtain ⟨p, l, xs, rfl, hne, hl, h0, h1, hp, q⟩ := h
    refine ⟨_, pss_one (ps_ret (pe_ix ix_list (pv 1) (pe_dr C (Nat.le_refl _) hr rfl (pa_cons (pv 0) (pa_cons (pe_callB call_len_seq (by rfl) ml PySem.boot_len (pa_cons (pv 1) pa_nil)) pa_nil))) (fun _ _ => rfl))), ?_⟩
    refine ⟨_, rfl, _, rfl, _, rfl, l, xs, rfl, .inl (SqL.of hl), p, (xs.length : Int), rfl, by omega, by omega, hp, fun r H' r0 r1 hp' bt => ?_⟩
    obtain ⟨j, ej⟩ : ∃ j : Nat, r = (j : Int) := ⟨r.toNat, by omega⟩
    have hj : j < xs.length := by omega
    have hl' : H' l = some (.lst xs) := bt l _ hne hl
    exact ⟨l, xs, r, xs[j], rfl, rfl, SqL.of hl', L2.at_of ej (List.getElem?_eq_getElem hj), q _ _ (List.getElem_mem hj) hp' bt⟩
theorem ok_great {f : Addr} {fd : FuncData} (F : Fun K "_law_great" "_law_great" sGreat f fd) (C : Dr P w K mg base spDraw "_law_draw" ["_law_well_here", "_law_many"] 1) (mr : mg "range" = none) :
    FnOk P w K mg base CX0 2 f fd ["_law_well_here"] spGreat := by
  refine F.ok scGreat (fun vs H Q E h => ?_) (fun cdv A outer s H vs Q E hr h => ?_)
  · obtain ⟨p, rfl, _⟩ := h
    rfl
  · obtain ⟨p, rfl, hp, q⟩ := h
    refine ⟨_, pss_cons (ps_set (i := 1) scGreat.nd rfl (.inl rfl) pe_int) (pss_cons (ps_for PassesOwn.never rfl (pi_range1 rfl mr (pa_cons (pe_op op_add pe_int (pe_dr C (Nat.le_refl _) hr rfl (pa_cons (pv 0) (pa_cons pe_int pa_nil)))) pa_nil)) (pg_name (i := 2) scGreat.nd rfl (.inl rfl))
        (pss_one (ps_set (i := 1) scGreat.nd rfl (.inl rfl) (pe_op op_add (pe_op op_mul pe_int (pv 1)) (pe_dr C (Nat.le_refl _) hr rfl (pa_cons (pv 0) (pa_cons pe_int pa_nil)))))))
      (pss_one (ps_ret (pv 1)))), ?_⟩
    refine sq_set (v := .int 0) val_c ?_
    refine sq_forRr (fun m H' => 1 ≤ m ∧ m ≤ 9 ∧ Well H' p ∧ But p H H') (fun Q k => ?_) ?_
    · refine ⟨_, rfl, p, 9, rfl, by decide, by decide, hp, fun r H1 r0 r1 hp1 bt1 => ⟨_, _, rfl, rfl, k _ _ ⟨by omega, by omega, hp1, bt1⟩⟩⟩
    · rintro m H1 ⟨m0, m1, hp1, bt1⟩
      refine ⟨m.toNat, fun i σ' H' => ∃ (z : Int) (b : Option V), σ' = [some (.ref p), some (.int z), b] ∧ 0 ≤ z ∧ z < 1000 ^ i ∧ Well H' p ∧ But p H H', by omega, by omega, ⟨0, none, rfl, by decide, by decide, hp1, bt1⟩, ?_, ?_⟩
      · rintro i σ' H0 hi ⟨z, b, rfl, z0, z1, hp0, bt0⟩
        refine ⟨_, rfl, 1000, z, rfl, rfl, mulL ⟨by decide, by decide⟩, _, rfl, p, 1000, rfl, by decide, by decide, hp0, fun r H2 r0 r1 hp2 bt2 => ⟨_, _, rfl, rfl, ?_⟩⟩
        exact ⟨1000 * z + r, _, rfl, by omega, by rw [Int.pow_succ]; omega, hp2, bt0.trans bt2⟩
      · rintro σ' H0 ⟨z, b, rfl, z0, z1, hp0, bt0⟩
        refine st_ret (v := .int z) (val_var rfl) ?_
        refine q _ _ z0 ?_ hp0 bt0
        have hn : m.toNat ≤ 9 := by omega
        revert z1 hn
        generalize m.toNat = n
        intro z1 hn
        have hb : ∀ n : Fin 10, (1000 : Int) ^ n.val ≤ 1000000000000000000000000000 := by decide
        exact Int.lt_of_lt_of_le z1 (hb ⟨n, by omega⟩)
end
end Lamp
set_option Elab.async false
set_option linter.all false
set_option maxRecDepth 100000
set_option maxHeartbeats 1000000
namespace Lamp
open PySem PySem.Spec PyProof.Rows L2
/-! a chart: places with levels -/
def enc (ps : List (Int × Int)) : List (Key × V) := ps.map fun q => (Sum.inl q.1, V.int q.2)
def putI (ps : List (Int × Int)) (k v : Int) : List (Int × Int) := if ps.any (fun q => decide (q.1 = k)) then ps.map (fun q => if q.1 = k then (q.1, v) else q) else ps ++ [(k, v)]
theorem enc_put (ps : List (Int × Int)) (k v : Int) : putK (enc ps) (Sum.inl k) (V.int v) = enc (putI ps k v) := by
  have e1 : ((enc ps).any fun kv => decide (kv.1 = Sum.inl k)) = ps.any (fun q => decide (q.1 = k)) := by
    unfold enc
    rw [List.any_map]
    congr 1
    funext q
    show decide ((Sum.inl q.1 : Key) = Sum.inl k) = decide (q.1 = k)
    rw [key_ll]
    by_cases h : q.1 = k <;> simp [h]
  unfold putK putI
  rw [e1]
  split
  · unfold enc
    rw [List.map_map, List.map_map]
    congr 1
    funext q
    show (if (Sum.inl q.1 : Key) = Sum.inl k then _ else _) = _
    by_cases h : q.1 = k
    · rw [if_pos (by rw [h])]
      show _ = (Sum.inl (if q.1 = k then (q.1, v) else q).1, V.int (if q.1 = k then (q.1, v) else q).2)
      rw [if_pos h]
    · rw [if_neg (fun z => h (Sum.inl.inj z))]
      show _ = (Sum.inl (if q.1 = k then (q.1, v) else q).1, V.int (if q.1 = k then (q.1, v) else q).2)
      rw [if_neg h]
  · unfold enc
    rw [List.map_append]
    rfl
theorem enc_get : ∀ {ps : List (Int × Int)} {k : Int}, k ∈ ps.map (·.1) → ∃ v, valV (enc ps) (Sum.inl k) = some (V.int v) ∧ (k, v) ∈ ps
  | [], k, h => by simp at h
  | q :: ps, k, h => by
    by_cases e : q.1 = k
    · refine ⟨q.2, ?_, by rw [← e]; exact List.mem_cons_self ..⟩
      exact valV_pos (p := (Sum.inl q.1, V.int q.2)) (by show (Sum.inl q.1 : Key) = Sum.inl k; rw [e])
    · have h' : k ∈ ps.map (·.1) := by
        rcases List.mem_cons.mp h with z | z
        · exact absurd z.symm e
        · exact z
      obtain ⟨v, h1, h2⟩ := enc_get h'
      refine ⟨v, ?_, List.mem_cons_of_mem _ h2⟩
      rw [← h1]
      exact valV_neg (p := (Sum.inl q.1, V.int q.2)) (fun z => e (Sum.inl.inj z))
/-- a picture of p levels: ascending places, levels from 1 to p - 1, few -/
structure IsPic (p : Int) (ls : List (Int × Int)) : Prop where
  asc : (ls.map (·.1)).Pairwise (· < ·)
  lv : ∀ q ∈ ls, 1 ≤ q.2 ∧ q.2 < p
  pl : ∀ q ∈ ls, -big ≤ q.1 ∧ q.1 ≤ big
  few : ls.length ≤ 5
/-- .. of whatever places, with as many lamps as are let -/
structure IsPicW (p : Int) (ls : List (Int × Int)) : Prop where
  asc : (ls.map (·.1)).Pairwise (· < ·)
  lv : ∀ q ∈ ls, 1 ≤ q.2 ∧ q.2 < p
  few : ls.length ≤ 400
theorem IsPic.w {p : Int} {ls : List (Int × Int)} (h : IsPic p ls) : IsPicW p ls := ⟨h.asc, h.lv, Nat.le_trans h.few (by decide)⟩
theorem lt_of_le_nodup : ∀ {xs : List Int}, xs.Pairwise (· ≤ ·) → xs.Nodup → xs.Pairwise (· < ·)
  | [], _, _ => .nil
  | x :: xs, h, n => by
    cases h with
    | cons h1 h2 =>
      cases n with
      | cons n1 n2 => exact .cons (fun y hy => by have a := h1 y hy; have b := n1 y hy; omega) (lt_of_le_nodup h2 n2)
/-- at t: a picture's tuple of pairs -/
def PicAt (K : PySem.W.Frag) (H : Hp) (t : Addr) (ls : List (Int × Int)) : Prop := ∃ as : List Addr, Rd H t (.tup (as.map V.ref)) ∧ Paired (fun a (q : Int × Int) => H a = some (.tup [.int q.1, .int q.2])) as ls
/-- .. the tuple having no dict of its own -/
def PicB (K : PySem.W.Frag) (H : Hp) (t : Addr) (ls : List (Int × Int)) : Prop := ∃ as : List Addr, Bare H t (as.map V.ref) ∧ Paired (fun a (q : Int × Int) => H a = some (.tup [.int q.1, .int q.2])) as ls
theorem PicB.at {K : PySem.W.Frag} {H : Hp} {t : Addr} {ls : List (Int × Int)} (h : PicB K H t ls) : PicAt K H t ls := by
  obtain ⟨as, h1, h2⟩ := h
  exact ⟨as, h1.rd, h2⟩
theorem PicB.same {K : PySem.W.Frag} {H H' : Hp} {t : Addr} {ls : List (Int × Int)} (h : PicB K H t ls) (e : Same H H') : PicB K H' t ls := by
  obtain ⟨as, h1, h2⟩ := h
  exact ⟨as, h1.same e, L2.Paired.mapP h2 fun a q z => e _ _ z⟩
theorem PicAt.same {K : PySem.W.Frag} {H H' : Hp} {t : Addr} {ls : List (Int × Int)} (h : PicAt K H t ls) (e : Same H H') : PicAt K H' t ls := by
  obtain ⟨as, h1, h2⟩ := h
  exact ⟨as, rd_same h1 e, L2.Paired.mapP h2 fun a q z => e _ _ z⟩
section
variable {P : Program} {w : World} {K : PySem.W.Frag} {mg : Str → Option Value} {base : Heap}
end
end Lamp
set_option Elab.async false
set_option linter.all false
set_option maxRecDepth 100000
set_option maxHeartbeats 1000000
namespace Lamp
open PySem PySem.Spec PyProof.Rows L2
/-! enumerate of a tuple -/
theorem enum_new {v : Value} {o : Obj} {Hh : Heap → Prop} (B : Begins v o Hh) : Meets (Builtin.«enumerate.__new__» ⟨[.type "enumerate", v], []⟩) (fun _ R s => Hh s.heap ∧
    R (.ok (.ret (.ref (s.heap.push o).objs.size))) { s with heap := (s.heap.push o).push { cls := .type "enumerate", data := .fields #[.none, .bool false, .ref s.heap.objs.size, rawInt 0, .none, .none] } }) :=
  .of_wp fun P w A R s told => by
    obtain ⟨hp, gs, dp, tk, ou⟩ := s
    obtain ⟨there, goal⟩ := told
    have under := sub_enumerate
    have starts : ∀ {A1 : Around} {E : Value → Shared → Prop} {Q : Value → Shared → Prop}, Q (.ref hp.objs.size) ⟨hp.push o, gs, dp, tk, ou⟩ → wpAny (model P w) A1 (pyIter v) Q E ⟨hp, gs, dp, tk, ou⟩ :=
      fun q => B.iter P w _ _ ⟨hp, gs, dp, tk, ou⟩ _ there q
    wp_walk using starts
    refine wpAny_stack_any fun st => wpAny_pure ?_
    split
    · rename_i c _ _ _ _ _
      cases hc : (c == Value.type "enumerate") <;> (wp_walk using starts; exact ⟨_, rfl, goal⟩)
    · wp_walk using starts
      exact ⟨_, rfl, goal⟩
theorem enum_call {P : Program} {w : World} {A : Around} {E : Value → Shared → Prop} {s : Shared} {v : Value} {o : Obj} {Hh : Heap → Prop} {Q : Value → Shared → Prop} (B : Begins v o Hh) (there : Hh s.heap)
    (goal : ∀ h', IsEnum h' (s.heap.objs.size + 1) s.heap.objs.size 0 .none → h'.get? s.heap.objs.size = some o → (∀ b u, s.heap.get? b = some u → h'.get? b = some u) → Q (.ref (s.heap.objs.size + 1)) { s with heap := h' }) :
    wpAny (model P w) A (call (.type "enumerate") [v]) Q E s := by
  have two : (s.heap.push o).objs.size = s.heap.objs.size + 1 := Heap.size_push ..
  have isE : IsEnum ((s.heap.push o).push { cls := .type "enumerate", data := .fields #[.none, .bool false, .ref s.heap.objs.size, rawInt 0, .none, .none] }) (s.heap.objs.size + 1) s.heap.objs.size 0 .none := by
    rw [← two]
    exact Heap.get?_push_size (s.heap.push o) rfl
  refine callType_new F.called_enumerate (by decide) (F.typeCall_enumerate_1 _) (F.newCall_enumerate_1 _) (fun z => F.args_object_init_2 z _) F.entry_enumerate_new (enum_new B) ⟨there, ?_⟩
  show _ ∧ _
  rw [two]
  exact ⟨⟨_, isE, rfl⟩, goal _ isE (Heap.get?_push_of_some _ (Heap.get?_push_size _ B.free)) fun b u z => Heap.get?_push_of_some _ (Heap.get?_push_of_some _ z)⟩
/-- the pairs of index and item of the tuple at a -/
def Itn (K : PySem.W.Frag) (a : Addr) : It where
  go i H := ∃ (xs : List V) (x : V), SqT K H a xs ∧ xs[i]? = some x
  yld i H v H' := ∃ T x, v = .ref T ∧ H T = none ∧ H' = upd H T (.tup [.int (i : Nat), x]) ∧ ∀ xs, SqT K H a xs → xs[i]? = some x
  stop i H := ∃ xs : List V, SqT K H a xs ∧ xs.length ≤ i
theorem turn_enumT {P : Program} {w : World} {K : PySem.W.Frag} {parts : List Expr} {n : Nat} {at_ : Pos} (a e it : Addr) :
    Turn P w K (.Tuple parts n at_) (Itn K a) [e, it] e (fun i h => (∃ old, IsEnum h e it ((i : Nat) : Int) old) ∧ h.IsTupleIter it a i ∧ e ≠ it) where
  mem := List.mem_cons_self ..
  obj := fun i h st b hb => by
    obtain ⟨⟨old, he⟩, ⟨o, ho, hc, hd⟩, _⟩ := st
    rcases (by simpa using hb : b = e ∨ b = it) with z | z
    · rw [z]; exact ⟨_, he, fun v q => nomatch q⟩
    · rw [z]; exact ⟨o, ho, fun v q => by rw [hd] at q; cases q⟩
  keep := fun i h h' st k => ⟨let ⟨old, he⟩ := st.1; ⟨old, k e (by simp) _ he⟩, st.2.1.at fun o q => k it (by simp) o q, st.2.2⟩
  item := by
    intro X hP hw hK hc i pins s σ H E I hf st hg
    subst hP hw hK
    obtain ⟨⟨old, he⟩, hit, hne⟩ := st
    obtain ⟨xs, x, hq, hx⟩ := hg
    obtain ⟨its, rv, p, hz⟩ := I.tuple hq
    obtain ⟨u, hu, ru⟩ := rv.get hx
    have hlen := rv.length
    have hi : i < its.length := (List.getElem?_eq_some_iff.mp hu).1
    have tup : s.heap.IsTuple a its.toArray := p
    have ae : a ≠ e := fun z => by
      obtain ⟨o, ho, hco, _⟩ := tup
      rw [z, he] at ho
      cases ho
      exact absurd (show Value.type "enumerate" = .type "tuple" from hco) (by decide)
    have ait : a ≠ it := fun z => by
      obtain ⟨o, ho, hco, _⟩ := tup
      obtain ⟨o2, ho2, hc2, _⟩ := hit
      rw [z, ho2] at ho
      cases ho
      rw [hc2] at hco
      exact absurd hco (by decide)
    have le : e < s.heap.objs.size := Heap.lt_size he
    have li : it < s.heap.objs.size := by obtain ⟨_, q, _⟩ := hit; exact Heap.lt_size q
    have D := Draws.tuple (prog := X.prog) (w := X.w) (A := X.A.in1) (I.ok.hd hc) it a ait its.toArray
    refine wpAny_pyNext_enum_itemD D he ⟨hit, tup⟩ (by simpa using hi) hne (by simp; exact ⟨hne, fun z => ae z.symm⟩) fun y h' tk hy ho st' hT hsz hk => ?_
    have ey : y = u := by
      have : its[i]? = some y := by simpa using hy
      rw [hu] at this
      exact (Option.some.inj this).symm
    subst ey
    obtain ⟨hit', tup'⟩ := st'
    refine ⟨_, rfl, wpAny_letOwnedTupleGo_enum (s := { s with heap := h', toks := tk + 1 }) ho fun h2 he2 sb => ?_⟩
    have hT2 : h2.get? s.heap.objs.size = some { cls := .type "tuple", data := .seq #[.int i tk, y] } := (sb.2 _ (Nat.ne_of_gt le)).trans hT
    have made : ObjOk X.prog X.w (upd H s.heap.objs.size (.tup [.int (i : Nat), x])) h2 s.heap.objs.size (.tup [.int (i : Nat), x]) :=
      ⟨by show 2 ≤ sizeLine; decide, [.int i tk, y], .cons ⟨_, rfl⟩ (.cons ru .nil), ⟨_, hT2, rfl, _, rfl⟩⟩
    have I1 : Inv X pins σ (upd H s.heap.objs.size (.tup [.int (i : Nat), x])) { s with heap := h2, toks := tk + 1 } :=
      I.turnedNew (ch := [e, it]) (fun b ob hb q => (sb.2 b (fun z => hb (by simp [z]))).trans (hk b ob (fun z => hb (by simp [z])) (fun z => hb (by simp [z])) q)) hf (Nat.le_refl _) made
    refine ⟨.ref s.heap.objs.size, _, I1, rfl, ⟨_, x, rfl, I.hok.fresh (Nat.le_refl _), rfl, fun ys hy => by rw [I.tuple_inj hy hq]; exact hx⟩, ⟨⟨y, ?_⟩, hit'.at fun o q => (sb.2 it (Ne.symm hne)).trans q, hne⟩, fun b hb => ?_⟩
    · rw [show ((i + 1 : Nat) : Int) = (i : Int) + 1 by omega]
      exact he2
    · have lb : b < s.heap.objs.size := by
        rcases (by simpa using hb : b = e ∨ b = it) with z | z
        · rw [z]; exact le
        · rw [z]; exact li
      rw [upd_ne (Nat.ne_of_lt lb)]
      exact (hf b hb).1
  done := by
    intro X hP hw hK hc i pins s σ H E I hf st hg
    subst hP hw hK
    obtain ⟨⟨old, he⟩, hit, hne⟩ := st
    obtain ⟨xs, hq, hx⟩ := hg
    obtain ⟨its, rv, p, hz⟩ := I.tuple hq
    obtain ⟨f0, f1, f2, f3, f4, f5⟩ := hf it (by simp)
    have hl := rv.length
    have tup : s.heap.IsTuple a its.toArray := p
    unfold pyNext
    refine wpAny_bind (wpAny_attempt (wpAny_callSpecial?_slot (name := Str.ofString "__next__") ⟨_, he, rfl⟩ F.slot_enumerate_next
      (wpAny_call_entry F.slot_enumerate_next ⟨_, he, rfl⟩ F.entry_enumerate_next ?_ (F.args_enumerate_next_1 _))))
    show wpAny _ _ (field (.ref e) 2 >>= _) _ _ _
    refine wpAny_bind (wpAny_field he rfl (x := .ref it) rfl ?_)
    refine wpAny_bind (wpAny_nextOf_tuple_end (I.ok.hd hc) hit tup (by simp; omega) fun h' ex eb so => ?_)
    obtain ⟨o, ho, hcs⟩ := so
    refine wpAny_bind (wpAny_isInstance (T := "StopIteration") (b := true) ⟨o, ho, hcs⟩ isSubtype_stop ?_)
    exact wpAny_pure ⟨rfl, I.turned (t' := s.toks) (fun b o hb q => eb b o hb q) f0 f1 f3 f4 f5⟩
  self := fun A i s Q E st h => let ⟨⟨_, he⟩, _⟩ := st; wpAny_pyIter_enum he h
def iEnumT (K : PySem.W.Frag) (ta : TA) : TI := fun σ H R => ta σ H fun vs H1 => ∃ a xs, vs = [.ref a] ∧ SqT K H1 a xs ∧ R (Itn K a) H1
theorem pi_enumT {X : Cx} {e : Expr} {ta : TA} {p pos at_ : Pos} {parts : List Expr} {n : Nat} (hg : Gl X "enumerate") (hm : X.mg "enumerate" = none) (ha : PA X [e] ta) (hs : starEach [e] X.env = [(false, eval e X.env)] := by rfl) :
    PI X (.Tuple parts n at_) (.Call (.Name "enumerate" p) [e] [] pos) (iEnumT X.K ta) := by
  refine ⟨fun pins s σ H R I h => ?_⟩
  refine Call_ (ld_blt I hg hm boot_enumerate (PyProof.Rows.callWith_type1 (thn (ha.run pos pins s σ H _ I h) fun us s1 ⟨vs, H1, I1, r1, a, xs, ex, hq, q⟩ => ?_) hs rfl))
  subst ex
  cases r1 with
  | cons r rr =>
    cases rr
    cases r
    obtain ⟨its, rv, p', hz⟩ := I1.tuple hq
    have tup : s1.heap.IsTuple a its.toArray := p'
    refine enum_call (begins_tuple a its.toArray) tup fun h' he hi hk => wpAny_pyIter_enum he ?_
    have I2 : Inv X pins σ H1 { s1 with heap := h' } := I1.kept (t' := s1.toks) hk
    refine ⟨s1.heap.objs.size + 1, [s1.heap.objs.size + 1, s1.heap.objs.size], _, _, H1, rfl, I2, turn_enumT a (s1.heap.objs.size + 1) s1.heap.objs.size, ⟨⟨.none, he⟩, ⟨_, hi, rfl, rfl⟩, Nat.succ_ne_self _⟩, fun b hb => ?_, q⟩
    have lb : s1.heap.objs.size ≤ b := by
      rcases (by simpa using hb : b = s1.heap.objs.size + 1 ∨ b = s1.heap.objs.size) with z | z
      · rw [z]; exact Nat.le_add_right _ _
      · rw [z]; exact Nat.le_refl _
    exact I1.fpOk lb (I1.hok.fresh lb)
/-- for i, x in enumerate(t): body told by what holds ahead of each turn -/
theorem for_enumT {K : PySem.W.Frag} {a : Addr} {xs : List V} {g : TG} {tb : TS} {D : Ends} {σ : L2.St} {H : Hp} (Pv : Nat → L2.St → Hp → Prop) (h0 : Pv 0 σ H) (hl : ∀ i σ H, i ≤ xs.length → Pv i σ H → SqT K H a xs)
    (hs : ∀ i x σ H T, xs[i]? = some x → Pv i σ H → H T = none → g (.ref T) σ (upd H T (.tup [.int (i : Nat), x])) fun σ2 H2 => tb { D with nx := Pv (i + 1), ct := Pv (i + 1), bk := D.nx } σ2 H2) (hd : ∀ σ H, Pv xs.length σ H → D.nx σ H) :
    ∃ W : Nat → Nat → L2.St → Hp → Prop, (∃ m, W 0 m σ H) ∧ ∀ i m σ H, W i m σ H →
      ((Itn K a).stop i H ∧ D.nx σ H) ∨ ((Itn K a).go i H ∧ ∃ N : L2.St → Hp → Prop, (∀ σ' H', N σ' H' → ∃ m', m' < m ∧ W (i + 1) m' σ' H') ∧ ∀ x H', (Itn K a).yld i H x H' → g x σ H' fun σ2 H2 => tb { D with nx := N, ct := N, bk := D.nx } σ2 H2) := by
  refine ⟨fun i m σ H => m + i = xs.length ∧ Pv i σ H, ⟨xs.length, rfl, h0⟩, fun i m σ H z => ?_⟩
  obtain ⟨hm, p⟩ := z
  have q := hl i σ H (by omega) p
  cases m with
  | zero =>
    have e : i = xs.length := by omega
    subst e
    exact .inl ⟨⟨xs, q, Nat.le_refl _⟩, hd _ _ p⟩
  | succ m =>
    have lt : i < xs.length := by omega
    refine .inr ⟨⟨xs, xs[i], q, by simp [lt]⟩, Pv (i + 1), fun σ' H' p' => ⟨m, Nat.lt_succ_self _, by omega, p'⟩, fun v H' y => ?_⟩
    obtain ⟨T, x, rfl, hT, rfl, hx⟩ := y
    exact hs i x σ H T (hx xs q) p hT
end Lamp
set_option Elab.async false
set_option linter.all false
set_option maxRecDepth 100000
set_option maxHeartbeats 1000000
namespace Lamp
open PySem PySem.Spec PyProof.Rows L2
abbrev sIsInt : Stmt := top 18
abbrev sIsLevels : Stmt := top 19
abbrev sIsLamp : Stmt := top 20
abbrev sWrong : Stmt := top 21
def spIsInt : Sp := fun vs H Q _ => ∃ i : Int, vs = [.int i] ∧ Q (.bl true) H
def goodLv (lv : Int) : Prop := lv = 2 ∨ lv = 3 ∨ lv = 5 ∨ lv = 7
def spIsLevels : Sp := fun vs H Q _ => ∃ lv : Int, vs = [.int lv] ∧ goodLv lv ∧ Q (.bl true) H
def spIsLamp : Sp := fun vs H Q _ => ∃ (lv x y : Int) (a : Addr), vs = [.int lv, .ref a] ∧ H a = some (.tup [.int x, .int y]) ∧ 0 < y ∧ y < lv ∧ Q (.bl true) H
def spWrong (K : PySem.W.Frag) : Sp := fun vs H Q _ => ∃ (lv : Int) (t : Addr) (ls : List (Int × Int)), vs = [.int lv, .ref t] ∧ PicAt K H t ls ∧ IsPicW lv ls ∧ ∀ H', Same H H' → Q .non H'
section
variable {P : Program} {w : World} {K : PySem.W.Frag} {mg : Str → Option Value} {base : Heap}
theorem scIsInt : FnScope ["value"] ["value"] (defScope sIsInt) := ⟨rfl, rfl, rfl, by decide +kernel, rfl, by decide +kernel, by decide +kernel⟩
theorem scIsLevels : FnScope ["value"] ["value"] (defScope sIsLevels) := ⟨rfl, rfl, rfl, by decide +kernel, rfl, by decide +kernel, by decide +kernel⟩
theorem scIsLamp : FnScope ["levels", "value", "place", "level"] ["levels", "value"] (defScope sIsLamp) := ⟨rfl, rfl, rfl, by decide +kernel, rfl, by decide +kernel, by decide +kernel⟩
theorem scWrong : FnScope ["levels", "lamps", "index", "lamp"] ["levels", "lamps"] (defScope sWrong) := ⟨rfl, rfl, rfl, by decide +kernel, rfl, by decide +kernel, by decide +kernel⟩
theorem isi_ii (H : Hp) (i : Int) {Q : VK} (q : Q (.bl true) H) : rIsi K [.int i, .ty "int"] H Q := ⟨_, _, .type "int", .type "int", true, rfl, .ty "int", .base (.int i), kit_ty (by decide +kernel), q⟩
theorem isi_ib (H : Hp) (i : Int) {Q : VK} (q : Q (.bl false) H) : rIsi K [.int i, .ty "bool"] H Q := ⟨_, _, .type "int", .type "bool", false, rfl, .ty "bool", .base (.int i), kit_ty (by decide +kernel), q⟩
theorem isi_tt {H : Hp} {a : Addr} {xs : List V} (h : H a = some (.tup xs)) {Q : VK} (q : Q (.bl true) H) : rIsi K [.ref a, .ty "tuple"] H Q := ⟨_, _, .type "tuple", .type "tuple", true, rfl, .ty "tuple", .base (.tup h), kit_ty (by decide +kernel), q⟩
theorem isi_tR {H : Hp} {a : Addr} {xs : List V} (h : Rd H a (.tup xs)) {Q : VK} (q : Q (.bl true) H) : rIsi K [.ref a, .ty "tuple"] H Q := by
  rcases h with h | ⟨o, h⟩
  · exact isi_tt h q
  · exact ⟨_, _, .type "tuple", .type "tuple", true, rfl, .ty "tuple", .fTuple h, kit_ty (by decide +kernel), q⟩
theorem isi_ss {H : Hp} {x : Str} {Q : VK} (q : Q (.bl true) H) : rIsi K [.str x, .ty "str"] H Q := ⟨_, _, .type "str", .type "str", true, rfl, .ty "str", .base (.str x), kit_ty (by decide +kernel), q⟩
theorem v_isii {te : TE} {σ : L2.St} {H : Hp} {i : Int} (h : Val te σ H (.int i)) : Val (tCB (rIsi K) (tCons te (tCons (tC (.ty "int")) tNil))) σ H (.bl true) := fun Q q => h _ (isi_ii H i q)
theorem v_isib {te : TE} {σ : L2.St} {H : Hp} {i : Int} (h : Val te σ H (.int i)) : Val (tCB (rIsi K) (tCons te (tCons (tC (.ty "bool")) tNil))) σ H (.bl false) := fun Q q => h _ (isi_ib H i q)
theorem ok_isInt {f : Addr} {fd : FuncData} (F : Fun K "is_integer" "is_integer" sIsInt f fd) (mis : mg "isinstance" = none) (mi : mg "int" = none) (mb : mg "bool" = none) : FnOk P w K mg base CX0 1 f fd ["value"] spIsInt := by
  refine F.ok scIsInt (fun vs H Q E h => ?_) (fun cdv A outer s H vs Q E hr h => ?_)
  · obtain ⟨i, rfl, _⟩ := h
    rfl
  · obtain ⟨i, rfl, q⟩ := h
    refine ⟨_, pss_one (ps_ret (pe_and (pe_callB call_isi (by rfl) mis (by decide +kernel) (pa_cons (pv 0) (pa_cons (pe_bltn (v := .ty "int") (by rfl) mi (by decide +kernel) rfl) pa_nil)))
      (pe_one (pe_not (pe_callB call_isi (by rfl) mis (by decide +kernel) (pa_cons (pv 0) (pa_cons (pe_bltn (v := .ty "bool") (by rfl) mb (by decide +kernel) rfl) pa_nil))))))), ?_⟩
    refine v_isii (val_var rfl) _ ⟨true, rfl, iteT ?_⟩
    exact v_isib (val_var rfl) _ ⟨false, rfl, q⟩
theorem ok_isLevels {f aL : Addr} {fd : FuncData} (F : Fun K "is_levels" "is_levels" sIsLevels f fd) (I : Dr P w K mg base spIsInt "is_integer" ["value"] 1) (mL : mg "LEVELS" = some (.ref aL)) (four : ∀ H, SqT K H aL [.int 2, .int 3, .int 5, .int 7]) : FnOk P w K mg base CX0 2 f fd ["value"] spIsLevels := by
  refine F.ok scIsLevels (fun vs H Q E h => ?_) (fun cdv A outer s H vs Q E hr h => ?_)
  · obtain ⟨i, rfl, _⟩ := h
    rfl
  · obtain ⟨i, rfl, hg, q⟩ := h
    refine ⟨_, pss_one (ps_ret (pe_and (pe_dr I (Nat.le_refl _) hr rfl (pa_cons (pv 0) pa_nil)) (pe_one (pe_cmpR op_in_seq (pv 0) (pe_glob (v := .ref aL) rfl mL rfl) (by rfl))))), ?_⟩
    refine ⟨_, rfl, i, rfl, true, rfl, ?_⟩
    show _
    refine ⟨_, rfl, aL, _, rfl, .inr (four H), rfl, by decide, ?_⟩
    have e : inV (V.int i) [.int 2, .int 3, .int 5, .int 7] = true := by
      rcases hg with rfl | rfl | rfl | rfl <;> decide
    rw [e]
    exact q
theorem ok_isLamp {f : Addr} {fd : FuncData} (F : Fun K "is_lamp" "is_lamp" sIsLamp f fd) (I : Dr P w K mg base spIsInt "is_integer" ["value"] 1) (mis : mg "isinstance" = none) (mt : mg "tuple" = none) (ml : mg "len" = none) : FnOk P w K mg base CX0 2 f fd ["levels", "value"] spIsLamp := by
  refine F.ok scIsLamp (fun vs H Q E h => ?_) (fun cdv A outer s H vs Q E hr h => ?_)
  · obtain ⟨lv, x, y, a, rfl, _⟩ := h
    rfl
  · obtain ⟨lv, x, y, a, rfl, ha, h0, h1, q⟩ := h
    refine ⟨_, pss_cons (ps_if (PW.pt (pw_or (pt_not (pt_val (pe_callB call_isi (by rfl) mis (by decide +kernel) (pa_cons (pv 1) (pa_cons (pe_bltn (v := .ty "tuple") (by rfl) mt (by decide +kernel) rfl) pa_nil)))))
          (pw_or1 (pt_cmpR op_ne (pe_callB call_len_seq (by rfl) ml PySem.boot_len (pa_cons (pv 1) pa_nil)) pe_int (nomark _))))) pss_never pss_nil)
      (pss_cons (ps_asg (pv 1) (pg_tup rfl (pgs_cons (pg_name (i := 2) scIsLamp.nd rfl (.inl rfl)) (pgs_cons (pg_name (i := 3) scIsLamp.nd rfl (.inl rfl)) pgs_nil))))
      (pss_one (ps_ret (pe_and (pe_dr I (Nat.le_refl _) hr rfl (pa_cons (pv 2) pa_nil)) (pe_and (pe_dr I (Nat.le_refl _) hr rfl (pa_cons (pv 3) pa_nil)) (pe_one (pe_chain op_lt op_lt pe_int (pv 3) (pv 0)))))))), ?_⟩
    refine sq_no ?_ ?_
    · refine ans_or (ans_not (b := true) (ans_val fun Q q => ⟨_, rfl, isi_tt ha q⟩)) (ans_ne (x := .int 2) (y := .int 2) (fun Q q => ⟨_, rfl, a, _, rfl, .inr (SqT.of ha), q⟩) val_c rfl rfl)
    · refine ⟨_, rfl, a, _, rfl, SqT.of ha, rfl, _, _, rfl, _, _, rfl, rfl, ?_⟩
      refine ⟨_, rfl, x, rfl, true, rfl, ?_⟩
      show _
      refine ⟨_, rfl, y, rfl, true, rfl, ?_⟩
      show _
      refine ⟨_, rfl, 0, y, rfl, rfl, true, ?_, ?_⟩
      · show V.bl (decide (0 < y)) = _
        rw [decide_eq_true h0]
      · show _
        refine ⟨_, rfl, y, lv, rfl, rfl, ?_⟩
        show Q (.bl (decide (y < lv))) H
        rw [decide_eq_true h1]
        exact q
theorem pair_get {K : PySem.W.Frag} {H : Hp} {t : Addr} {ls : List (Int × Int)} (h : PicAt K H t ls) : ∃ as : List Addr, Rd H t (.tup (as.map V.ref)) ∧ as.length = ls.length ∧ ∀ (i : Nat) (a : Addr) (q : Int × Int), as[i]? = some a → ls[i]? = some q → H a = some (.tup [.int q.1, .int q.2]) := by
  obtain ⟨as, h1, h2⟩ := h
  refine ⟨as, h1, Paired.length h2, fun i a q ha hq => ?_⟩
  obtain ⟨q', hq', e⟩ := paired_get h2 ha
  rw [hq] at hq'
  cases hq'
  exact e
theorem asc_at {ls : List (Int × Int)} (h : (ls.map (·.1)).Pairwise (· < ·)) {i : Nat} {q r : Int × Int} (h1 : ls[i]? = some q) (h2 : ls[i + 1]? = some r) : q.1 < r.1 := by
  rw [List.pairwise_iff_getElem] at h
  obtain ⟨l1, e1⟩ := List.getElem?_eq_some_iff.mp h1
  obtain ⟨l2, e2⟩ := List.getElem?_eq_some_iff.mp h2
  have z := h i (i + 1) (by rw [List.length_map]; exact l1) (by rw [List.length_map]; exact l2) (Nat.lt_succ_self i)
  rw [List.getElem_map, List.getElem_map, e1, e2] at z
  exact z
theorem ok_wrong {f : Addr} {fd : FuncData} (F : Fun K "wrong_lamp" "wrong_lamp" sWrong f fd) (L : Dr P w K mg base spIsLamp "is_lamp" ["levels", "value"] 2) (me : mg "enumerate" = none) : FnOk P w K mg base CX0 3 f fd ["levels", "lamps"] (spWrong K) := by
  refine F.ok scWrong (fun vs H Q E h => ?_) (fun cdv A outer s H vs Q E hr h => ?_)
  · obtain ⟨lv, t, ls, rfl, _⟩ := h
    rfl
  · obtain ⟨lv, t, ls, rfl, hp, hi, q⟩ := h
    obtain ⟨as, ht, hlen, hat⟩ := pair_get hp
    refine ⟨_, pss_cons (ps_for PassesOwn.never rfl (pi_enumT rfl me (pa_cons (pv 1) pa_nil)) (pg_tup rfl (pgs_cons (pg_name (i := 2) scWrong.nd rfl (.inl rfl)) (pgs_cons (pg_name (i := 3) scWrong.nd rfl (.inl rfl)) pgs_nil)))
        (pss_cons (ps_if (pt_not (pt_val (pe_dr L (Nat.le_refl _) hr rfl (pa_cons (pv 0) (pa_cons (pv 3) pa_nil))))) pss_never pss_nil)
        (pss_one (ps_if (PW.pt (pw_and (pt_cmpR op_gt (pv 2) pe_int (nomark _)) (pw_and1 (pt_cmpR op_le (pe_ix ix_tup (pv 3) pe_int (fun _ _ => rfl)) (pe_ix ix_tup (pe_ix ix_tup (pv 1) (pe_op op_sub (pv 2) pe_int) (fun _ _ => rfl)) pe_int (fun _ _ => rfl)) (nomark _))))) pss_never pss_nil))))
      (pss_one (ps_ret pe_non)), ?_⟩
    refine ⟨_, rfl, t, _, rfl, .inl ht, for_enumT (xs := as.map V.ref) (fun i σ H' => ∃ x y, σ = [some (.int lv), some (.ref t), x, y] ∧ Same H H') ⟨_, _, rfl, Same.refl H⟩ (fun i σ H' _ z => ?_) (fun i x σ H' T hx z hT => ?_) (fun σ H' z => ?_)⟩
    · obtain ⟨_, _, _, s⟩ := z
      exact .inl (rd_same ht s)
    · obtain ⟨x0, y0, rfl, s⟩ := z
      have s1 := s.trans (same_of (o := .tup [V.int (i : Nat), x]) hT)
      rw [List.getElem?_map] at hx
      cases ea : as[i]? with
      | none => rw [ea] at hx; cases hx
      | some a =>
        rw [ea] at hx
        have ex : x = V.ref a := (Option.some.inj hx).symm
        subst ex
        have li : i < ls.length := by
          rw [← hlen]
          exact (List.getElem?_eq_some_iff.mp ea).1
        have eq := List.getElem?_eq_getElem li
        have lev := hi.lv _ (List.getElem_mem li)
        have h1 := s1 _ _ (hat i a _ ea eq)
        refine ⟨T, _, rfl, SqT.of upd_same, rfl, _, _, rfl, _, _, rfl, rfl, ?_⟩
        refine sq_no ?_ ?_
        · exact ans_not (b := true) (ans_val fun Q q => ⟨_, rfl, _, rfl, lv, _, _, a, rfl, h1, by omega, lev.2, q⟩)
        · refine st_no ?_ ?_
          · cases i with
            | zero => exact ans_and0 (an_gt (val_var rfl) val_c (decide_eq_false (by decide)))
            | succ j =>
              have lj : j < ls.length := by omega
              have ej := List.getElem?_eq_getElem lj
              have lja : j < as.length := by omega
              have eja := List.getElem?_eq_getElem lja
              have h2 := s1 _ _ (hat j _ _ eja ej)
              have lt := asc_at hi.asc ej eq
              refine ans_and (an_gt (val_var rfl) val_c (decide_eq_true (by omega))) (ans_cmp (x := .int ls[j+1].1) (y := .int ls[j].1) (val_op (val_var rfl) val_c fun Q q => ⟨a, _, 0, _, rfl, rfl, SqT.of h1, rfl, q⟩) ?_ fun Q q => ⟨_, _, rfl, rfl, ?_⟩)
              · refine val_op (x := .ref as[j]) (val_op (val_var rfl) (val_op (z := .int (j : Int)) (val_var rfl) val_c fun Q q => ⟨_, _, rfl, rfl, ?_⟩) fun Q q => ⟨t, _, (j : Int), _, rfl, rfl, .inl (rd_same ht s1), L2.at_of (j := j) rfl (by rw [List.getElem?_map, eja]; rfl), q⟩) val_c fun Q q => ⟨_, _, 0, _, rfl, rfl, SqT.of h2, rfl, q⟩
                have e : ((j + 1 : Nat) : Int) - 1 = (j : Int) := by omega
                show Q (.int (((j + 1 : Nat) : Int) - 1)) _
                rw [e]
                exact q
              · show Q (.bl (decide (ls[j+1].1 ≤ ls[j].1))) _
                rw [decide_eq_false (by omega)]
                exact q
          · exact ⟨_, _, rfl, s1⟩
    · obtain ⟨_, _, rfl, s⟩ := z
      exact q _ s
end
end Lamp
set_option Elab.async false
set_option linter.all false
set_option maxRecDepth 100000
set_option maxHeartbeats 1000000
namespace Lamp
open PySem PySem.Spec PyProof.Rows L2
open TL (tl tl_append ext_tl numL tl_ofString len_tl)
/-! numbers and rounds as texts -/
/-- an integer's text -/
def nS (i : Int) : Str := Str.ofString (toString i)
def sg (i : Int) : List Nat := if i < 0 then [45] else []
theorem tl_nS (i : Int) : tl (nS i) = sg i ++ numL i.natAbs := by
  cases i with
  | ofNat n =>
    have e : ¬ Int.ofNat n < 0 := by simp
    unfold sg
    rw [if_neg e]
    exact TL.tl_num n
  | negSucc n =>
    unfold sg
    rw [if_pos (Int.negSucc_lt_zero n)]
    show tl (Str.ofString ("-" ++ Nat.repr (n + 1))) = [45] ++ numL (n + 1)
    rw [tl_ofString, String.toList_append, List.map_append, Nat.toList_repr]
    rfl
theorem nS_sign {i : Int} {c : Nat} (h : c ∈ tl (nS i)) : c = 45 ∨ (48 ≤ c ∧ c ≤ 57) := by
  rw [tl_nS] at h
  rcases List.mem_append.mp h with h | h
  · unfold sg at h
    split at h
    · exact .inl (List.mem_singleton.mp h)
    · cases h
  · exact .inr (TL.numL_digits _ c h)
theorem nS_free {i : Int} {c : Nat} (h1 : c ≠ 45) (h2 : c < 48 ∨ 57 < c) : c ∉ tl (nS i) := fun z => by
  rcases nS_sign z with e | e
  · exact h1 e
  · omega
theorem nS_len {i : Int} (h : i.natAbs < 10 ^ 40) : (nS i).length ≤ 41 := by
  rw [len_tl, tl_nS, List.length_append]
  have h1 := TL.numL_len (by decide : 0 < 40) h
  have h2 : (sg i).length ≤ 1 := by
    unfold sg
    split <;> simp
  omega
theorem nS_read {i : Int} (h : i.natAbs < 10 ^ 40) : intText? (nS i) = some i := by
  have hl : (nS i).length ≤ 4300 := Nat.le_trans (nS_len h) (by decide)
  have e := tl_nS i
  unfold sg at e
  split at e
  · have z := PySem.intText_neg e (TL.numL_digits _) (TL.numL_ne _) hl
    have z2 : intText? (nS i) = some (-((NumText.digitsVal (numL i.natAbs) : Nat) : Int)) := z
    rw [TL.numL_val] at z2
    rw [z2]
    congr 1
    omega
  · rw [List.nil_append] at e
    have z := PySem.intText_digits (x := nS i) (by rw [show (nS i).cps.toList = _ from e]; exact TL.numL_digits _) (by rw [show (nS i).cps.toList = _ from e]; exact TL.numL_ne _) hl
    rw [show (nS i).cps.toList = _ from e, TL.numL_val] at z
    rw [z]
    congr 1
    omega
theorem nS_inj {i j : Int} (h1 : i.natAbs < 10 ^ 40) (h2 : j.natAbs < 10 ^ 40) (h : nS i = nS j) : i = j := by
  have e := nS_read h1
  rw [h, nS_read h2] at e
  exact (Option.some.inj e).symm
/-- without its sign -/
theorem tl_bare (i : Int) : tl (Txt.removeprefix (nS i) "-") = numL i.natAbs := by
  have hs : Builtin.Str.subAt (nS i) "-" 0 = decide (i < 0) := by
    unfold Builtin.Str.subAt
    have e : ((nS i).cps.extract 0 (0 + ("-" : Str).length)).toList = (tl (nS i)).take 1 := by
      rw [Array.toList_extract]
      rfl
    have e2 : (("-" : Str).cps).toList = [45] := rfl
    have e3 : ((nS i).cps.extract 0 (0 + ("-" : Str).length) == ("-" : Str).cps) = ((tl (nS i)).take 1 == [45]) := by
      rw [Bool.eq_iff_iff, beq_iff_eq, beq_iff_eq, ← e, ← e2]
      exact ⟨fun z => by rw [z], fun z => Array.toList_inj.mp z⟩
    rw [e3, tl_nS]
    unfold sg
    by_cases h : i < 0
    · rw [if_pos h, decide_eq_true h]
      rfl
    · rw [if_neg h, decide_eq_false h, List.nil_append]
      cases hn : numL i.natAbs with
      | nil => exact absurd hn (TL.numL_ne _)
      | cons c r =>
        have hd := TL.numL_digits i.natAbs c (by rw [hn]; exact List.mem_cons_self ..)
        show ([c] == [45]) = false
        rw [beq_eq_false_iff_ne]
        intro z
        have := (List.cons.inj z).1
        omega
  unfold Txt.removeprefix
  rw [hs]
  have e := tl_nS i
  unfold sg at e
  by_cases h : i < 0
  · rw [decide_eq_true h, if_pos rfl]
    rw [if_pos h] at e
    show tl (if ((nS i).length - ("-" : Str).length == (nS i).length) = true then nS i else Builtin.Str.strSub (nS i) ("-" : Str).length (nS i).length) = _
    have hl : (nS i).length ≠ 0 := by
      rw [len_tl, e]
      simp
    rw [if_neg (by rw [beq_iff_eq]; show ¬ (nS i).length - 1 = (nS i).length; omega), TL.tl_strSub_end, e]
    rfl
  · rw [decide_eq_false h, if_neg Bool.false_ne_true]
    rw [if_neg h] at e
    exact e
theorem dig_uni : ∀ c, c < 128 → 48 ≤ c → c ≤ 57 → Unicode.isDigit c = true := by decide +kernel
theorem all_tl (x : Str) (p : Nat → Bool) : x.cps.all p = (tl x).all p := by
  show x.cps.all p = x.cps.toList.all p
  simp
theorem bare_ascii (i : Int) : Txt.isascii (Txt.removeprefix (nS i) "-") = true := by
  unfold Txt.isascii
  rw [all_tl, tl_bare, List.all_eq_true]
  intro c hc
  have := TL.numL_digits _ c hc
  exact decide_eq_true (by omega)
theorem bare_digit (i : Int) : Txt.isdigit (Txt.removeprefix (nS i) "-") = true := by
  unfold Txt.isdigit
  rw [all_tl, len_tl, tl_bare, Bool.and_eq_true, List.all_eq_true]
  refine ⟨decide_eq_true ?_, fun c hc => ?_⟩
  · cases hn : numL i.natAbs with
    | nil => exact absurd hn (TL.numL_ne _)
    | cons c r => exact Nat.succ_pos _
  · have := TL.numL_digits _ c hc
    exact dig_uni c (by omega) this.1 this.2
/-- a lamp's word -/
def lampS (q : Int × Int) : Str := nS q.1 ++ ":" ++ nS q.2
theorem tl_lampS (q : Int × Int) : tl (lampS q) = tl (nS q.1) ++ 58 :: tl (nS q.2) := by
  unfold lampS
  rw [tl_append, tl_append, List.append_assoc]
  rfl
theorem lampS_free (q : Int × Int) : 32 ∉ tl (lampS q) := by
  rw [tl_lampS]
  intro h
  rcases List.mem_append.mp h with h | h
  · exact nS_free (by decide) (.inl (by decide)) h
  · rcases List.mem_cons.mp h with h | h
    · cases h
    · exact nS_free (by decide) (.inl (by decide)) h
theorem lampS_len {q : Int × Int} (h1 : q.1.natAbs < 10 ^ 40) (h2 : q.2.natAbs < 10 ^ 40) : (lampS q).length ≤ 83 := by
  rw [len_tl, tl_lampS, List.length_append, List.length_cons]
  have e1 := nS_len h1
  have e2 := nS_len h2
  rw [len_tl] at e1 e2
  omega
/-- the words behind the end -/
def tailWs (ls : List (Int × Int)) : List Str := match ls with
  | [] => ["dark"]
  | l :: r => "lamps" :: (l :: r).map lampS
def wordsS (lv : Int) (ls : List (Int × Int)) (fin : Int) : List Str := [("levels" : Str), nS lv, ("end" : Str), nS fin] ++ tailWs ls
def sheetS (lv : Int) (ls : List (Int × Int)) (fin : Int) : Str := Txt.join " " (wordsS lv ls fin)
theorem wordsS_free (lv : Int) (ls : List (Int × Int)) (fin : Int) : ∀ p ∈ wordsS lv ls fin, 32 ∉ tl p := by
  intro p hp
  unfold wordsS at hp
  rcases List.mem_append.mp hp with h | h
  · simp only [List.mem_cons, List.not_mem_nil, or_false] at h
    rcases h with rfl | rfl | rfl | rfl
    · decide
    · exact nS_free (by decide) (.inl (by decide))
    · decide
    · exact nS_free (by decide) (.inl (by decide))
  · cases ls with
    | nil =>
      rw [show tailWs [] = [("dark" : Str)] from rfl] at h
      rw [List.mem_singleton.mp h]
      decide
    | cons l r =>
      rcases List.mem_cons.mp h with h | h
      · rw [h]; decide
      · obtain ⟨q, _, rfl⟩ := List.mem_map.mp h
        exact lampS_free q
theorem sheet_split (lv : Int) (ls : List (Int × Int)) (fin : Int) : Txt.split (sheetS lv ls fin) " " = wordsS lv ls fin :=
  TL.split_join (y := (" " : Str)) (s := 32) (S := []) rfl (by rw [all_tl]; decide) (by unfold wordsS; simp) (wordsS_free lv ls fin)
theorem lamp_part (q : Int × Int) : Txt.partition (lampS q) ":" = (nS q.1, (":" : Str), nS q.2) :=
  TL.partition_app (y := (":" : Str)) (s := 58) (S := []) rfl (nS_free (by decide) (.inr (by decide)))
end Lamp
set_option Elab.async false
set_option linter.all false
set_option maxRecDepth 100000
set_option maxHeartbeats 1000000
namespace Lamp
open PySem PySem.Spec PyProof.Rows L2
open TL (tl tl_append ext_tl numL tl_ofString len_tl)
abbrev sReadInt : Stmt := top 12
abbrev sRoundText : Stmt := top 13
abbrev sReadLamp : Stmt := top 14
/-! a round's text, put together as the program and as the law do -/
theorem fits {i : Int} (h1 : -big ≤ i) (h2 : i ≤ big) : i.natAbs < 10 ^ 40 := by
  have hb : big = 1000000000000000000000000000000000000000 := by decide
  rw [hb] at h1 h2
  omega
theorem fits_log {i : Int} (h : i.natAbs < 10 ^ 40) : i.natAbs.log2 < 1920 := Nat.lt_trans (PySem.Flt.log2_lt_of (k := 133) (by decide) (Nat.lt_of_lt_of_le h (by decide))) (by decide)
theorem tl_sheet (lv : Int) (ls : List (Int × Int)) (fin : Int) : tl (sheetS lv ls fin) = TL.joinL [32] ((wordsS lv ls fin).map tl) := by
  unfold sheetS
  rw [TL.join_eq, TL.tl_join]
  rfl
theorem tl_levels : tl ("levels " : Str) = tl ("levels" : Str) ++ [32] := rfl
theorem tl_end : tl (" end " : Str) = [32] ++ (tl ("end" : Str) ++ [32]) := rfl
theorem tl_darks : tl (" dark" : Str) = [32] ++ tl ("dark" : Str) := rfl
theorem tl_lampss : tl (" lamps " : Str) = [32] ++ (tl ("lamps" : Str) ++ [32]) := rfl
theorem tl_lamps : tl ("lamps " : Str) = tl ("lamps" : Str) ++ [32] := rfl
theorem tl_space : tl (" " : Str) = [32] := rfl
theorem tl_none : tl Str.empty = [] := rfl
theorem sheet_dark (lv fin : Int) : Str.empty ++ ("levels " : Str) ++ nS lv ++ (" end " : Str) ++ nS fin ++ (" dark" : Str) = sheetS lv [] fin := by
  refine ext_tl ?_
  rw [tl_sheet]
  simp only [tl_append, tl_levels, tl_end, tl_darks, tl_none, List.nil_append, List.append_assoc]
  rfl
theorem sheet_lamps (lv fin : Int) (l : Int × Int) (r : List (Int × Int)) : Str.empty ++ ("levels " : Str) ++ nS lv ++ (" end " : Str) ++ nS fin ++ (" lamps " : Str) ++ Txt.join (" " : Str) ((l :: r).map lampS) = sheetS lv (l :: r) fin := by
  refine ext_tl ?_
  rw [tl_sheet]
  simp only [tl_append, tl_levels, tl_end, tl_lampss, tl_none, List.nil_append, List.append_assoc, TL.join_eq, TL.tl_join, tl_space]
  rfl
theorem empty_app (x : Str) : Str.empty ++ x = x := ext_tl (by rw [tl_append]; rfl)
theorem len_app (x y : Str) : (x ++ y).length = x.length + y.length := by
  rw [len_tl, tl_append, List.length_append, ← len_tl, ← len_tl]
theorem lampsum : ∀ {ls : List (Int × Int)}, (∀ q ∈ ls, q.1.natAbs < 10 ^ 40 ∧ q.2.natAbs < 10 ^ 40) → ((ls.map lampS).map (·.length)).sum ≤ 83 * ls.length
  | [], _ => Nat.zero_le _
  | q :: r, h => by
    have h1 := h q (List.mem_cons_self ..)
    have h2 := lampS_len h1.1 h1.2
    have h3 := lampsum (ls := r) fun p hp => h p (List.mem_cons_of_mem _ hp)
    rw [List.map_cons, List.map_cons, List.sum_cons, List.length_cons]
    omega
theorem joinlen : ∀ (ps : List (List Nat)), (TL.joinL [32] ps).length ≤ (ps.map (·.length)).sum + ps.length
  | [] => Nat.le_refl _
  | [p] => by show p.length ≤ _; simp
  | p :: q :: r => by
    have h := joinlen (q :: r)
    show (p ++ ([32] ++ TL.joinL [32] (q :: r))).length ≤ _
    rw [List.length_append, List.length_append, List.map_cons, List.sum_cons, List.length_cons (a := p)]
    have e : ([32] : List Nat).length = 1 := rfl
    rw [e]
    omega
theorem joined_len {ls : List (Int × Int)} (h : ∀ q ∈ ls, q.1.natAbs < 10 ^ 40 ∧ q.2.natAbs < 10 ^ 40) : (Txt.join (" " : Str) (ls.map lampS)).length ≤ 84 * ls.length := by
  rw [len_tl, TL.join_eq, TL.tl_join, tl_space]
  have h1 := joinlen ((ls.map lampS).map tl)
  have h2 := lampsum h
  have h3 : (((ls.map lampS).map tl).map (·.length)).sum = ((ls.map lampS).map (·.length)).sum := by
    rw [List.map_map]
    congr 1
  rw [h3] at h1
  simp only [List.length_map] at h1
  omega
theorem sheet_len {lv : Int} {ls : List (Int × Int)} {fin : Int} (h0 : lv.natAbs < 10 ^ 40) (h1 : fin.natAbs < 10 ^ 40) (h : ∀ q ∈ ls, q.1.natAbs < 10 ^ 40 ∧ q.2.natAbs < 10 ^ 40) : (sheetS lv ls fin).length ≤ 110 + 84 * ls.length := by
  have e1 := nS_len h0
  have e2 := nS_len h1
  cases ls with
  | nil =>
    rw [← sheet_dark]
    simp only [len_app]
    have c1 : (Str.empty).length = 0 := rfl
    have c2 : ("levels " : Str).length = 7 := rfl
    have c3 : (" end " : Str).length = 5 := rfl
    have c4 : (" dark" : Str).length = 5 := rfl
    omega
  | cons l r =>
    rw [← sheet_lamps]
    have e3 := joined_len h
    simp only [len_app]
    have c1 : (Str.empty).length = 0 := rfl
    have c2 : ("levels " : Str).length = 7 := rfl
    have c3 : (" end " : Str).length = 5 := rfl
    have c4 : (" lamps " : Str).length = 7 := rfl
    omega
theorem le_line {n : Nat} (h : n ≤ 9000) : n ≤ sizeLine := Nat.le_trans h (by decide)
/-- parts whose text is short -/
structure Fit (lv : Int) (ls : List (Int × Int)) (fin : Int) : Prop where
  lv : lv.natAbs < 10 ^ 40
  fin : fin.natAbs < 10 ^ 40
  few : ls.length ≤ 20
  all : ∀ q ∈ ls, q.1.natAbs < 10 ^ 40 ∧ q.2.natAbs < 10 ^ 40
def spReadInt : Sp := fun vs H Q _ => ∃ i : Int, vs = [.str (nS i)] ∧ i.natAbs < 10 ^ 40 ∧ Q (.int i) H
def spRoundText (K : PySem.W.Frag) : Sp := fun vs H Q _ => ∃ (lv fin : Int) (t : Addr) (ls : List (Int × Int)), vs = [.int lv, .ref t, .int fin] ∧ Fit lv ls fin ∧ PicAt K H t ls ∧ ∀ H', Same H H' → Q (.str (sheetS lv ls fin)) H'
def spReadLamp : Sp := fun vs H Q _ => ∃ q : Int × Int, vs = [.str (lampS q)] ∧ q.1.natAbs < 10 ^ 40 ∧ q.2.natAbs < 10 ^ 40 ∧ ∀ a H', Same H H' → H' a = some (.tup [.int q.1, .int q.2]) → Q (.ref a) H'
section
variable {P : Program} {w : World} {K : PySem.W.Frag} {mg : Str → Option Value} {base : Heap}
theorem scReadInt : FnScope ["word", "digits", "number"] ["word"] (defScope sReadInt) := ⟨rfl, rfl, rfl, by decide +kernel, rfl, by decide +kernel, by decide +kernel⟩
theorem scRoundText : FnScope ["levels", "lamps", "end", "words", "place", "level"] ["levels", "lamps", "end"] (defScope sRoundText) := ⟨rfl, rfl, rfl, by decide +kernel, rfl, by decide +kernel, by decide +kernel⟩
theorem scReadLamp : FnScope ["word", "first", "_", "second", "place", "level"] ["word"] (defScope sReadLamp) := ⟨rfl, rfl, rfl, by decide +kernel, rfl, by decide +kernel, by decide +kernel⟩
theorem ok_readInt {f : Addr} {fd : FuncData} (F : Fun K "read_integer" "read_integer" sReadInt f fd) (mi : mg "int" = none) (ms : mg "str" = none) : FnOk P w K mg base CX0 1 f fd ["word"] spReadInt := by
  refine F.ok scReadInt (fun vs H Q E h => ?_) (fun cdv A outer s H vs Q E hr h => ?_)
  · obtain ⟨i, rfl, _⟩ := h
    rfl
  · obtain ⟨i, rfl, hi, q⟩ := h
    have hl : (nS i).length ≤ 41 := nS_len hi
    refine ⟨_, pss_cons (ps_set (i := 1) scReadInt.nd rfl (.inl rfl) (pe_m1 PySem.F.slot_str_removeprefix PySem.F.type_str_removeprefix mt_removeprefix (pv 0) pe_str))
      (pss_cons (ps_if (PW.pt (pw_or (pt_not (pt_val (pe_m0 PySem.F.slot_str_isascii PySem.F.type_str_isascii mt_isascii (pv 1)))) (pw_or1 (pt_not (pt_val (pe_m0 PySem.F.slot_str_isdigit PySem.F.type_str_isdigit mt_isdigit (pv 1))))))) pss_never pss_nil)
      (pss_cons (ps_set (i := 2) scReadInt.nd rfl (.inl rfl) (pe_callTy call_int_str (by rfl) mi (by decide +kernel) (pa_cons (pv 0) pa_nil)))
      (pss_cons (ps_if (pt_cmpR op_ne (pe_callTy call_str_int (by rfl) ms (by decide +kernel) (pa_cons (pv 2) pa_nil)) (pv 0) (nomark _)) pss_never pss_nil)
      (pss_one (ps_ret (pv 2)))))), ?_⟩
    refine sq_set (v := .str (Txt.removeprefix (nS i) "-")) (fun Q q => ⟨_, rfl, ⟨_, rfl⟩, _, _, rfl, rfl, le_line (by omega), q⟩) ?_
    refine sq_no (ans_or (ans_not (b := true) (ans_val fun Q q => ⟨_, rfl, ⟨_, rfl⟩, _, rfl, rfl, trivial, by rw [bare_ascii]; exact q⟩)) (ans_not (b := true) (ans_val fun Q q => ⟨_, rfl, ⟨_, rfl⟩, _, rfl, rfl, trivial, by rw [bare_digit]; exact q⟩))) ?_
    refine sq_set (v := .int i) (fun Q q => ⟨_, rfl, _, i, rfl, nS_read hi, by omega, q⟩) ?_
    refine sq_no (ans_ne (x := .str (nS i)) (y := .str (nS i)) (fun Q q => ⟨_, rfl, i, rfl, fits_log hi, q⟩) (val_var rfl) rfl (by rw [decide_eq_true rfl]; rfl)) ?_
    exact st_ret (val_var rfl) q
section
variable {σ : L2.St} {H : Hp} {te : TE} {ts : List TE} {acc y : Str} {i : Int} {Q : Str → Hp → Prop}
theorem js_c (hl : (acc ++ y).length ≤ sizeLine) (k : tJs ts (acc ++ y) σ H Q) : tJs (tC (.str y) :: ts) acc σ H Q := ⟨y, rfl, hl, k⟩
theorem js_i (h : Val te σ H (.int i)) (hi : i.natAbs < 10 ^ 40) (hl : (acc ++ nS i).length ≤ sizeLine) (k : tJs ts (acc ++ nS i) σ H Q) : tJs (tFmt te :: ts) acc σ H Q := h _ (.inr ⟨i, rfl, fits_log hi, _, rfl, hl, k⟩)
theorem js_s (h : Val te σ H (.str y)) (hy : y.length ≤ sizeLine) (hl : (acc ++ y).length ≤ sizeLine) (k : tJs ts (acc ++ y) σ H Q) : tJs (tFmt te :: ts) acc σ H Q := h _ (.inl ⟨y, rfl, hy, _, rfl, hl, k⟩)
end
/-- the texts one behind the other, as a value -/
def tJ (ts : List TE) : TE := fun σ H Q => tJs ts Str.empty σ H fun out H1 => Q (.str out) H1
theorem pe_js {X : Cx} {v1 v2 : Expr} {rest : List Expr} {ts : List TE} {pos : Pos} (h : PJ X (v1 :: v2 :: rest) ts) : PE X (.JoinedStr (v1 :: v2 :: rest) pos) (tJ ts) := pe_joined h
theorem ok_roundText {f : Addr} {fd : FuncData} (F : Fun K "round_text" "round_text" sRoundText f fd) : FnOk P w K mg base CX0 1 f fd ["levels", "lamps", "end"] (spRoundText K) := by
  refine F.ok scRoundText (fun vs H Q E h => ?_) (fun cdv A outer s H vs Q E hr h => ?_)
  · obtain ⟨lv, fin, t, ls, rfl, _⟩ := h
    rfl
  · obtain ⟨lv, fin, t, ls, rfl, hf, hp, q⟩ := h
    obtain ⟨as, ht, hlen, hat⟩ := pair_get hp
    have e1 := nS_len hf.lv
    have e2 := nS_len hf.fin
    have few := hf.few
    refine ⟨_, pss_cons (ps_if (pt_not (pt_truth (pv 1) (fun _ => rfl))) (pss_one (ps_ret (pe_js (.cons pe_str (.cons (pe_fmt (pv 0)) (.cons pe_str (.cons (pe_fmt (pv 2)) (.cons pe_str .nil)))))))) pss_nil)
      (pss_cons (ps_set (i := 3) scRoundText.nd rfl (.inl rfl) (pe_join pe_str (pe_lc (own := [("place", 4), ("level", 5)]) (g := gTup K 2 (gCons (gName 4) (gCons (gName 5) gNil))) (tt := tYes) rfl scRoundText.nd (pi_tup (pv 1))
          (blkOk_by (own := [("place", 4), ("level", 5)]) (N := ["levels", "lamps", "end", "words", "place", "level"]) (sc := defScope sRoundText) (by decide +kernel))
          (fun _ _ _ _ _ => pg_tup rfl (pgs_cons (pg_name (i := 4) scRoundText.nd rfl (Or.inl rfl)) (pgs_cons (pg_name (i := 5) scRoundText.nd rfl (Or.inl rfl)) pgs_nil))) (fun _ _ _ _ _ => pts_nil)
          (fun _ _ _ _ _ => pe_js (.cons (pe_fmt (pv 4)) (.cons pe_str (.cons (pe_fmt (pv 5)) .nil)))))))
      (pss_one (ps_ret (pe_js (.cons pe_str (.cons (pe_fmt (pv 0)) (.cons pe_str (.cons (pe_fmt (pv 2)) (.cons pe_str (.cons (pe_fmt (pv 3)) .nil)))))))))), ?_⟩
    have c0 : (Str.empty).length = 0 := rfl
    have c1 : ("levels " : Str).length = 7 := rfl
    have c2 : (" end " : Str).length = 5 := rfl
    have c3 : (" dark" : Str).length = 5 := rfl
    have c4 : (" lamps " : Str).length = 7 := rfl
    have c5 : (":" : Str).length = 1 := rfl
    cases ls with
    | nil =>
      have ea : as = [] := List.length_eq_zero_iff.mp hlen
      subst ea
      refine sq_yes (ans_not (b := false) (ans_tru (x := .ref t) (val_var rfl) (.inr (.inl ⟨_, .inl ht, rfl⟩)))) ?_
      refine js_c (by simp only [len_app]; exact le_line (by omega)) (js_i (val_var rfl) hf.lv (by simp only [len_app]; exact le_line (by omega)) (js_c (by simp only [len_app]; exact le_line (by omega))
        (js_i (val_var rfl) hf.fin (by simp only [len_app]; exact le_line (by omega)) (js_c (by simp only [len_app]; exact le_line (by omega)) ?_))))
      show Q (.str _) H
      rw [sheet_dark]
      exact q H (Same.refl H)
    | cons l r =>
      have el : (as.map V.ref).isEmpty = false := by
        cases as with
        | nil => cases hlen
        | cons _ _ => rfl
      refine sq_no (ans_not (b := true) (ans_tru (x := .ref t) (val_var rfl) (.inr (.inl ⟨_, .inl ht, by rw [el]; rfl⟩)))) ?_
      refine ⟨⟨_, rfl⟩, _, rfl, t, rfl, ⟨_, .inl ht⟩, fun D hD => ?_⟩
      refine lc_tup (K := K) (a := t) (xs := as.map V.ref) (fun i H' => Same H H' ∧ H' D = some (.lst ((((l :: r).take i).map lampS).map V.str))) ⟨same_of hD, upd_same⟩ (fun i H' _ z => .inl (rd_same ht z.1)) (fun i x H' hi z => ?_) (fun H' z => ?_)
      · obtain ⟨sb, hl⟩ := z
        rw [List.getElem?_map] at hi
        cases ea : as[i]? with
        | none => rw [ea] at hi; cases hi
        | some a =>
          rw [ea] at hi
          have ex : x = V.ref a := (Option.some.inj hi).symm
          subst ex
          have li : i < (l :: r).length := by
            rw [← hlen]
            exact (List.getElem?_eq_some_iff.mp ea).1
          have eq := List.getElem?_eq_getElem li
          have ha := sb _ _ (hat i a _ ea eq)
          have fq := hf.all _ (List.getElem_mem li)
          have f1 := nS_len fq.1
          have f2 := nS_len fq.2
          refine ⟨a, _, rfl, SqT.of ha, rfl, _, _, rfl, _, _, rfl, rfl, rfl, ?_⟩
          refine js_i (val_var rfl) fq.1 (by simp only [len_app]; exact le_line (by omega)) (js_c (by simp only [len_app]; exact le_line (by omega)) (js_i (val_var rfl) fq.2 (by simp only [len_app]; exact le_line (by omega)) ?_))
          refine ⟨_, hl, ?_, fun b o e => ?_, ?_⟩
          · rw [List.length_map, List.length_map, List.length_take]
            exact small1000 (by omega)
          · have nb : b ≠ D := fun z => by rw [z, hD] at e; cases e
            rw [upd_ne nb]
            exact sb _ _ e
          · rw [upd_same, List.take_add_one, eq, List.map_append, List.map_append, empty_app]
            rfl
      · obtain ⟨sb, hl⟩ := z
        rw [List.length_map, hlen, List.take_length] at hl
        have jl := joined_len hf.all
        refine ⟨_, D, (l :: r).map lampS, rfl, rfl, .inl (SqL.of hl), ?_, ?_⟩
        · have h1 := lampsum hf.all
          have h2 : (" " : Str).length = 1 := rfl
          rw [h2]
          simp only [List.length_map]
          omega
        · refine js_c (by simp only [len_app]; exact le_line (by omega)) (js_i (val_var rfl) hf.lv (by simp only [len_app]; exact le_line (by omega)) (js_c (by simp only [len_app]; exact le_line (by omega))
            (js_i (val_var rfl) hf.fin (by simp only [len_app]; exact le_line (by omega)) (js_c (by simp only [len_app]; exact le_line (by omega)) (js_s (y := Txt.join (" " : Str) ((l :: r).map lampS)) (val_var rfl) (le_line (by omega)) (by simp only [len_app]; exact le_line (by omega)) ?_)))))
          show Q (.str _) H'
          rw [sheet_lamps]
          exact q H' sb
theorem ok_readLamp {f : Addr} {fd : FuncData} (F : Fun K "read_lamp" "read_lamp" sReadLamp f fd) (R : Dr P w K mg base spReadInt "read_integer" ["word"] 1) : FnOk P w K mg base CX0 2 f fd ["word"] spReadLamp := by
  refine F.ok scReadLamp (fun vs H Q E h => ?_) (fun cdv A outer s H vs Q E hr h => ?_)
  · obtain ⟨q, rfl, _⟩ := h
    rfl
  · obtain ⟨⟨x, y⟩, rfl, hx, hy, q⟩ := h
    have hl := lampS_len (q := (x, y)) hx hy
    refine ⟨_, pss_cons (ps_asg (pe_partition (pv 0) pe_str) (pg_tup rfl (pgs_cons (pg_name (i := 1) scReadLamp.nd rfl (.inl rfl)) (pgs_cons (pg_name (i := 2) scReadLamp.nd rfl (.inl rfl)) (pgs_cons (pg_name (i := 3) scReadLamp.nd rfl (.inl rfl)) pgs_nil)))))
      (pss_cons (ps_set (i := 4) scReadLamp.nd rfl (.inl rfl) (pe_dr R (Nat.le_refl _) hr rfl (pa_cons (pv 1) pa_nil)))
      (pss_cons (ps_set (i := 5) scReadLamp.nd rfl (.inl rfl) (pe_dr R (Nat.le_refl _) hr rfl (pa_cons (pv 3) pa_nil)))
      (pss_cons (ps_if (PW.pt (pw_or (pt_cmpR op_isN1 (pv 4) pe_non (nomark _)) (pw_or1 (pt_cmpR op_isN1 (pv 5) pe_non (nomark _))))) pss_never pss_nil)
      (pss_one (ps_ret (pe_tup (pa_cons (pv 4) (pa_cons (pv 5) pa_nil)))))))), ?_⟩
    refine ⟨_, rfl, ⟨_, rfl⟩, _, (":" : Str), rfl, rfl, rfl, le_line (by omega), fun p np => ?_⟩
    rw [lamp_part]
    have s1 := same_of (o := .tup [V.str (nS x), V.str (":" : Str), V.str (nS y)]) np
    refine ⟨p, _, rfl, SqT.of upd_same, rfl, _, _, rfl, _, _, rfl, _, _, rfl, rfl, ?_⟩
    refine ⟨_, rfl, x, rfl, hx, ?_⟩
    refine ⟨_, rfl, y, rfl, hy, ?_⟩
    refine sq_no (ans_or (ans_isN (x := .int x) (val_var rfl) rfl) (ans_isN (x := .int y) (val_var rfl) rfl)) ?_
    refine ⟨_, rfl, _, rfl, le_line (by show 2 ≤ 9000; decide), fun a na => ?_⟩
    exact q a _ (s1.trans (same_of na)) upd_same
end
end Lamp
set_option Elab.async false
set_option linter.all false
set_option maxRecDepth 100000
set_option maxHeartbeats 1000000
namespace Lamp
open PySem PySem.Spec PyProof.Rows L2
open TL (tl tl_append ext_tl numL tl_ofString len_tl)
abbrev sReadLamps : Stmt := top 15
abbrev sReadParts : Stmt := top 16
/-! the texts' signs, the texts as data -/
def Asc (x : Str) : Prop := ∀ c ∈ tl x, c < 128
theorem asc_ok {x : Str} (h : Asc x) : PyData.strOk x = true := by
  unfold PyData.strOk
  rw [all_tl, List.all_eq_true]
  intro c hc
  have := h c hc
  exact decide_eq_true (by omega)
theorem asc_nS (i : Int) : Asc (nS i) := fun c hc => by
  rcases nS_sign hc with e | e <;> omega
theorem asc_app {x y : Str} (h1 : Asc x) (h2 : Asc y) : Asc (x ++ y) := fun c hc => by
  rw [tl_append] at hc
  rcases List.mem_append.mp hc with h | h
  · exact h1 c h
  · exact h2 c h
theorem asc_lampS (q : Int × Int) : Asc (lampS q) := asc_app (asc_app (asc_nS _) (by intro c hc; revert c; decide)) (asc_nS _)
theorem asc_tailWs {ls : List (Int × Int)} : ∀ x ∈ tailWs ls, Asc x := fun x hx => by
  cases ls with
  | nil =>
    rw [List.mem_singleton.mp (show x ∈ [("dark" : Str)] from hx)]
    intro c hc; revert c; decide
  | cons l r =>
    rcases List.mem_cons.mp hx with h | h
    · rw [h]
      intro c hc; revert c; decide
    · obtain ⟨q, _, rfl⟩ := List.mem_map.mp h
      exact asc_lampS q
theorem asc_joinL : ∀ {ps : List (List Nat)}, (∀ p ∈ ps, ∀ c ∈ p, c < 128) → ∀ c ∈ TL.joinL [32] ps, c < 128
  | [], _, c, hc => by cases hc
  | [p], h, c, hc => h p (List.mem_singleton.mpr rfl) c hc
  | p :: q :: r, h, c, hc => by
    rcases List.mem_append.mp (show c ∈ p ++ ([32] ++ TL.joinL [32] (q :: r)) from hc) with h1 | h1
    · exact h p (List.mem_cons_self ..) c h1
    · rcases List.mem_append.mp h1 with h2 | h2
      · rw [List.mem_singleton.mp h2]; decide
      · exact asc_joinL (fun z hz => h z (List.mem_cons_of_mem _ hz)) c h2
theorem asc_words {lv : Int} {ls : List (Int × Int)} {fin : Int} : ∀ x ∈ wordsS lv ls fin, Asc x := fun x hx => by
  unfold wordsS at hx
  rcases List.mem_append.mp hx with h | h
  · simp only [List.mem_cons, List.not_mem_nil, or_false] at h
    rcases h with rfl | rfl | rfl | rfl
    · intro c hc; revert c; decide
    · exact asc_nS _
    · intro c hc; revert c; decide
    · exact asc_nS _
  · exact asc_tailWs x h
theorem asc_sheet (lv : Int) (ls : List (Int × Int)) (fin : Int) : Asc (sheetS lv ls fin) := fun c hc => by
  rw [tl_sheet] at hc
  refine asc_joinL (fun p hp d hd => ?_) c hc
  obtain ⟨x, hx, rfl⟩ := List.mem_map.mp hp
  exact asc_words x hx d hd
def strsD (xs : List Str) : List PyData := xs.map PyData.str
def pairD (q : Int × Int) : PyData := .tuple [.int q.1, .int q.2]
theorem lay_strs : ∀ {xs : List Str}, (∀ x ∈ xs, Asc x) → PyData.canLayAll0 (strsD xs) = true ∧ PyData.depthAll (strsD xs) = 0
  | [], _ => ⟨rfl, rfl⟩
  | x :: xs, h => by
    obtain ⟨h1, h2⟩ := lay_strs (xs := xs) fun y hy => h y (List.mem_cons_of_mem _ hy)
    refine ⟨?_, ?_⟩
    · show (PyData.canLay0 (.str x) && PyData.canLayAll0 (strsD xs)) = true
      rw [h1, Bool.and_true]
      exact asc_ok (h x (List.mem_cons_self ..))
    · show max 0 (PyData.depthAll (strsD xs)) = 0
      rw [h2]
      rfl
theorem lay_pairs : ∀ (ls : List (Int × Int)), PyData.canLayAll0 (ls.map pairD) = true ∧ PyData.depthAll (ls.map pairD) ≤ 1
  | [] => ⟨rfl, Nat.zero_le _⟩
  | q :: r => by
    obtain ⟨h1, h2⟩ := lay_pairs r
    refine ⟨?_, ?_⟩
    · show (PyData.canLay0 (pairD q) && PyData.canLayAll0 (r.map pairD)) = true
      rw [h1, Bool.and_true]
      rfl
    · show max (PyData.depth (pairD q)) (PyData.depthAll (r.map pairD)) ≤ 1
      have e : PyData.depth (pairD q) = 1 := rfl
      rw [e]
      omega
theorem shaped_strs {xs : List Str} (h : ∀ x ∈ xs, Asc x) : SeqAt.shaped (.list (strsD xs)) = true := by
  obtain ⟨h1, h2⟩ := lay_strs h
  unfold SeqAt.shaped
  rw [Bool.and_eq_true]
  refine ⟨h1, decide_eq_true ?_⟩
  show PyData.depthAll (strsD xs) + 1 ≤ 64
  omega
theorem shaped_pairs (ls : List (Int × Int)) : SeqAt.shaped (.list (ls.map pairD)) = true ∧ SeqAt.shaped (.tuple (ls.map pairD)) = true := by
  obtain ⟨h1, h2⟩ := lay_pairs ls
  unfold SeqAt.shaped
  rw [Bool.and_eq_true, Bool.and_eq_true]
  refine ⟨⟨h1, decide_eq_true ?_⟩, ⟨h1, decide_eq_true ?_⟩⟩
  · show PyData.depthAll (ls.map pairD) + 1 ≤ 64
    omega
  · show PyData.depthAll (ls.map pairD) + 1 ≤ 64
    omega
theorem dp_strs {K : PySem.W.Frag} {H : Hp} : ∀ (xs : List Str), DpAll K H (xs.map V.str) (strsD xs)
  | [] => .nil
  | x :: xs => .cons (.str x) (dp_strs xs)
theorem dp_pairs {K : PySem.W.Frag} {H : Hp} : ∀ {as : List Addr} {ls : List (Int × Int)}, Paired (fun a (q : Int × Int) => H a = some (.tup [.int q.1, .int q.2])) as ls → DpAll K H (as.map V.ref) (ls.map pairD)
  | _, _, .nil => .nil
  | _, _, .cons h t => .cons (.tup (SqT.of h) (.cons (.int _) (.cons (.int _) .nil))) (dp_pairs t)
theorem dp_pic {K : PySem.W.Frag} {H : Hp} {t : Addr} {ls : List (Int × Int)} (h : PicAt K H t ls) : Dp K H (.ref t) (.tuple (ls.map pairD)) := by
  obtain ⟨as, h1, h2⟩ := h
  exact .tup (.inl h1) (dp_pairs h2)
theorem no_none (ls : List (Int × Int)) : ((ls.map pairD).any fun z => PyData.eqv z .none) = false := by
  rw [List.any_map]
  exact List.any_eq_false.mpr fun q _ => by simp [pairD, PyData.eqv]
theorem cut1 (x : V) (xs : List V) : cutV (x :: xs) (some 1) none = xs := by
  unfold cutV
  have e1 : HT.sIx (x :: xs).length 0 (some 1) = 1 := by
    rw [show (some (1 : Int)) = some ((1 : Nat) : Int) from rfl, HT.sIx_nat, List.length_cons]
    omega
  rw [e1, HT.sIx_none]
  show xs.take ((x :: xs).length - 1) = xs
  rw [List.length_cons]
  exact List.take_of_length_le (by omega)
def spReadLamps : Sp := fun vs H Q _ => ∃ (wl : Addr) (ls : List (Int × Int)), vs = [.ref wl] ∧ H wl = some (.lst ((tailWs ls).map V.str)) ∧ (∀ q ∈ ls, q.1.natAbs < 10 ^ 40 ∧ q.2.natAbs < 10 ^ 40) ∧ ls.length ≤ 20 ∧
  ∀ t H', Same H H' → (∃ as : List Addr, H' t = some (.tup (as.map V.ref)) ∧ Paired (fun a (q : Int × Int) => H' a = some (.tup [.int q.1, .int q.2])) as ls) → Q (.ref t) H'
def spReadParts : Sp := fun vs H Q _ => ∃ (lv fin : Int) (ls : List (Int × Int)), vs = [.str (sheetS lv ls fin)] ∧ Fit lv ls fin ∧
  ∀ l t H', Same H H' → H' l = some (.tup [.int lv, .ref t, .int fin]) → (∃ as : List Addr, H' t = some (.tup (as.map V.ref)) ∧ Paired (fun a (q : Int × Int) => H' a = some (.tup [.int q.1, .int q.2])) as ls) → Q (.ref l) H'
section
variable {P : Program} {w : World} {K : PySem.W.Frag} {mg : Str → Option Value} {base : Heap}
theorem scReadLamps : FnScope ["words", "lamps", "word"] ["words"] (defScope sReadLamps) := ⟨rfl, rfl, rfl, by decide +kernel, rfl, by decide +kernel, by decide +kernel⟩
theorem scReadParts : FnScope ["text", "words", "levels", "end", "lamps"] ["text"] (defScope sReadParts) := ⟨rfl, rfl, rfl, by decide +kernel, rfl, by decide +kernel, by decide +kernel⟩
theorem ok_readLamps {f : Addr} {fd : FuncData} (F : Fun K "read_lamps" "read_lamps" sReadLamps f fd) (R : Dr P w K mg base spReadLamp "read_lamp" ["word"] 2) (ml : mg "len" = none) (mt : mg "tuple" = none) : FnOk P w K mg base CX0 3 f fd ["words"] spReadLamps := by
  refine F.ok scReadLamps (fun vs H Q E h => ?_) (fun cdv A outer s H vs Q E hr h => ?_)
  · obtain ⟨q, ls, rfl, _⟩ := h
    rfl
  · obtain ⟨wl, ls, rfl, hw, hf, few, q⟩ := h
    have hu := hr.units
    have hu65 := hr.in1.units
    refine ⟨_, pss_cons (ps_if (pt_cmpR (op_eqD hu) (pv 0) (pe_lst (pa_cons pe_str pa_nil)) (nomark _)) (pss_one (ps_ret (pe_tup pa_nil))) pss_nil)
      (pss_cons (ps_if (PW.pt (pw_or (pt_cmpR op_ne (pe_ix ix_list (pv 0) pe_int (fun _ _ => rfl)) pe_str (nomark _)) (pw_or1 (pt_cmpR op_eq (pe_callB call_len_seq (by rfl) ml PySem.boot_len (pa_cons (pv 0) pa_nil)) pe_int (nomark _))))) pss_never pss_nil)
      (pss_cons (ps_setLc (i := 1) (own := [("word", 2)]) (g := gName 2) (tt := tYes) rfl scReadLamps.nd rfl rfl (sw_true rfl rfl rfl rfl) (pi_list (pe_slice (r := rSlL K) sl_list (pv 0) (po_some pe_int) po_none))
          (blkOk_by (own := [("word", 2)]) (N := ["words", "lamps", "word"]) (sc := defScope sReadLamps) (by decide +kernel)) (fun _ _ _ _ _ => pg_name (i := 2) scReadLamps.nd rfl (Or.inl rfl)) (fun _ _ _ _ _ => pts_nil)
          (fun _ _ _ _ _ => pe_dr R (Nat.le_refl _) hr rfl (pa_cons (pv 2) pa_nil)))
      (pss_cons (ps_if (pt_cmpR (op_inD (by exact hu65)) pe_non (pv 1) (by rfl)) pss_never pss_nil)
      (pss_one (ps_ret (pe_callTy call_tuple_of (by rfl) mt (by decide +kernel) (pa_cons (pv 1) pa_nil))))))), ?_⟩
    cases ls with
    | nil =>
      have hw' : H wl = some (.lst [V.str ("dark" : Str)]) := hw
      refine ⟨_, rfl, le_line (by show 1 ≤ 9000; decide), fun p np => ?_⟩
      have s1 := same_of (o := .lst [V.str ("dark" : Str)]) np
      refine ⟨.list [.str ("dark" : Str)], .list [.str ("dark" : Str)], .lst (SqL.of (s1 _ _ hw')) (.cons (.str _) .nil), .lst (SqL.of upd_same) (.cons (.str _) .nil), by decide +kernel, by decide +kernel, true, ?_, ?_⟩
      · show V.bl _ = V.bl true
        congr 1
      · refine iteT ?_
        refine ⟨le_line (by show 0 ≤ 9000; decide), fun t nt => ?_⟩
        exact q t _ (s1.trans (same_of nt)) ⟨[], upd_same, .nil⟩
    | cons l r =>
      have hw' : H wl = some (.lst (V.str ("lamps" : Str) :: ((l :: r).map lampS).map V.str)) := hw
      have hlw : (V.str ("lamps" : Str) :: ((l :: r).map lampS).map V.str).length = r.length + 2 := by simp
      have few' : r.length + 1 ≤ 20 := few
      refine ⟨_, rfl, le_line (by show 1 ≤ 9000; decide), fun p np => ?_⟩
      have s1 := same_of (o := .lst [V.str ("dark" : Str)]) np
      refine ⟨.list (.str ("lamps" : Str) :: strsD ((l :: r).map lampS)), .list [.str ("dark" : Str)], .lst (SqL.of (s1 _ _ hw')) (.cons (.str _) (dp_strs _)), .lst (SqL.of upd_same) (.cons (.str _) .nil),
        shaped_strs (xs := ("lamps" : Str) :: (l :: r).map lampS) (fun x hx => asc_tailWs (ls := l :: r) x hx), by decide +kernel, false, ?_, ?_⟩
      · show V.bl (PyData.eqv (.str ("lamps" : Str)) (.str ("dark" : Str)) && PyData.eqvAll (strsD ((l :: r).map lampS)) []) = V.bl false
        rw [show PyData.eqv (.str ("lamps" : Str)) (.str ("dark" : Str)) = false from by decide +kernel]
        rfl
      · refine iteF ?_
        have hw1 := s1 _ _ hw'
        refine sq_no (ans_or (ans_ne (x := .str ("lamps" : Str)) (y := .str ("lamps" : Str)) (val_op (val_var rfl) val_c (lv_ix hw1 (L2.at_of (j := 0) rfl rfl))) val_c rfl (by rw [decide_eq_true rfl]; rfl)) (ans_eq (x := .int (((V.str ("lamps" : Str) :: ((l :: r).map lampS).map V.str).length : Nat) : Int)) (y := .int 1) (lv_len (val_var rfl) (SqL.of hw1)) val_c rfl ?_)) ?_
        · rw [hlw]
          exact decide_eq_false fun z => by have := V.int.inj z; omega
        refine ⟨_, rfl, 1, rfl, wl, _, rfl, SqL.of hw1, fun c nc => ⟨c, rfl, ⟨_, SqL.of upd_same⟩, fun D hD => ?_⟩⟩
        rw [cut1] at *
        have s2 := s1.trans (same_of (o := .lst (((l :: r).map lampS).map V.str)) nc)
        have hc : (upd (upd H p (.lst [V.str ("dark" : Str)])) c (.lst (((l :: r).map lampS).map V.str))) c = some (.lst (((l :: r).map lampS).map V.str)) := upd_same
        revert hD hc s2
        generalize (upd (upd H p (.lst [V.str ("dark" : Str)])) c (.lst (((l :: r).map lampS).map V.str))) = Hb
        intro hD s2 hc
        refine lc_list (K := K) (a := c) (xs := ((l :: r).map lampS).map V.str) (fun i H' => Same Hb H' ∧ ∃ as : List Addr, H' D = some (.lst (as.map V.ref)) ∧ Paired (fun a (qq : Int × Int) => H' a = some (.tup [.int qq.1, .int qq.2]) ∧ a ≠ D) as ((l :: r).take i))
          ⟨same_of hD, [], upd_same, by rw [List.take_zero]; exact .nil⟩ (fun i H' _ z => SqL.of (z.1 _ _ hc)) (fun i x H' hi z => ?_) (fun H' z => ?_)
        · obtain ⟨sb, as, hlD, hpa⟩ := z
          rw [List.getElem?_map, List.getElem?_map] at hi
          cases eq : (l :: r)[i]? with
          | none => rw [eq] at hi; cases hi
          | some qq =>
            rw [eq] at hi
            have ex : x = V.str (lampS qq) := (Option.some.inj hi).symm
            subst ex
            have hq := hf qq (List.mem_of_getElem? eq)
            refine ⟨rfl, ?_⟩
            refine ⟨_, rfl, qq, rfl, hq.1, hq.2, fun a H2 s3 ha => ?_⟩
            have aD : a ≠ D := fun e => by rw [e, s3 _ _ hlD] at ha; cases ha
            refine ⟨as.map V.ref, s3 _ _ hlD, ?_, fun b' o e => ?_, as ++ [a], ?_, ?_⟩
            · have hl1 := Paired.length hpa
              rw [List.length_take, List.length_cons] at hl1
              rw [List.length_map]
              exact small1000 (by omega)
            · have nb : b' ≠ D := fun z => by rw [z, hD] at e; cases e
              rw [upd_ne nb]
              exact s3 _ _ (sb _ _ e)
            · rw [upd_same, List.map_append]
              rfl
            · rw [List.take_add_one, eq]
              refine paired_app (L2.Paired.mapP hpa fun a' qq hz => ?_) (.cons ⟨?_, aD⟩ .nil)
              · exact ⟨by rw [upd_ne hz.2]; exact s3 _ _ hz.1, hz.2⟩
              · rw [upd_ne aD]
                exact ha
        · obtain ⟨sb, as, hlD, hpa⟩ := z
          rw [List.length_map, List.length_map, List.take_length] at hpa
          have hpb : Paired (fun a (q : Int × Int) => H' a = some (.tup [.int q.1, .int q.2])) as (l :: r) := L2.Paired.mapP hpa fun a qq hz => hz.1
          refine ⟨_, rfl, .none, (l :: r).map pairD, .non, .lst (SqL.of hlD) (dp_pairs hpb), by decide +kernel, (shaped_pairs (l :: r)).1, false, ?_, ?_⟩
          · show V.bl _ = V.bl false
            rw [no_none]
          · refine iteF ?_
            refine ⟨_, rfl, D, as.map V.ref, rfl, .inl ⟨SqL.of hlD, fun t nt => ?_⟩⟩
            have s4 := same_of (o := .tup (as.map V.ref)) nt
            exact q t _ ((s2.trans sb).trans s4) ⟨as, upd_same, L2.Paired.mapP hpb fun a qq hz => s4 _ _ hz⟩
theorem tailWs_ne (ls : List (Int × Int)) : ∃ x xs, tailWs ls = x :: xs := by
  cases ls with
  | nil => exact ⟨_, _, rfl⟩
  | cons l r => exact ⟨_, _, rfl⟩
theorem cut4 (a b c d : V) (xs : List V) : cutV (a :: b :: c :: d :: xs) (some 4) none = xs := by
  unfold cutV
  have e1 : HT.sIx (a :: b :: c :: d :: xs).length 0 (some 4) = 4 := by
    rw [show (some (4 : Int)) = some ((4 : Nat) : Int) from rfl, HT.sIx_nat]
    simp only [List.length_cons]
    omega
  rw [e1, HT.sIx_none]
  show xs.take ((a :: b :: c :: d :: xs).length - 4) = xs
  simp only [List.length_cons]
  exact List.take_of_length_le (by omega)
theorem ok_readParts {f : Addr} {fd : FuncData} (F : Fun K "read_parts" "read_parts" sReadParts f fd) (R : Dr P w K mg base spReadInt "read_integer" ["word"] 1) (Ls : Dr P w K mg base spReadLamps "read_lamps" ["words"] 3) (ml : mg "len" = none) : FnOk P w K mg base CX0 4 f fd ["text"] spReadParts := by
  refine F.ok scReadParts (fun vs H Q E h => ?_) (fun cdv A outer s H vs Q E hr h => ?_)
  · obtain ⟨lv, fin, ls, rfl, _⟩ := h
    rfl
  · obtain ⟨lv, fin, ls, rfl, hf, q⟩ := h
    have few := hf.few
    have hlen := sheet_len hf.lv hf.fin hf.all
    refine ⟨_, pss_cons (ps_set (i := 1) scReadParts.nd rfl (.inl rfl) (pe_split (pv 0) pe_str))
      (pss_cons (ps_if (PW.pt (pw_or (pt_cmpR op_lt (pe_callB call_len_seq (by rfl) ml PySem.boot_len (pa_cons (pv 1) pa_nil)) pe_int (nomark _)) (pw_or (pt_cmpR op_ne (pe_ix ix_list (pv 1) pe_int (fun _ _ => rfl)) pe_str (nomark _)) (pw_or1 (pt_cmpR op_ne (pe_ix ix_list (pv 1) pe_int (fun _ _ => rfl)) pe_str (nomark _)))))) pss_never pss_nil)
      (pss_cons (ps_set (i := 2) scReadParts.nd rfl (.inl rfl) (pe_dr R (by decide) hr rfl (pa_cons (pe_ix ix_list (pv 1) pe_int (fun _ _ => rfl)) pa_nil)))
      (pss_cons (ps_set (i := 3) scReadParts.nd rfl (.inl rfl) (pe_dr R (by decide) hr rfl (pa_cons (pe_ix ix_list (pv 1) pe_int (fun _ _ => rfl)) pa_nil)))
      (pss_cons (ps_set (i := 4) scReadParts.nd rfl (.inl rfl) (pe_dr Ls (Nat.le_refl _) hr rfl (pa_cons (pe_slice (r := rSlL K) sl_list (pv 1) (po_some pe_int) po_none) pa_nil)))
      (pss_cons (ps_if (PW.pt (pw_or (pt_cmpR op_isN1 (pv 2) pe_non (nomark _)) (pw_or (pt_cmpR op_isN1 (pv 3) pe_non (nomark _)) (pw_or1 (pt_cmpR op_isN1 (pv 4) pe_non (nomark _)))))) pss_never pss_nil)
      (pss_one (ps_ret (pe_tup (pa_cons (pv 2) (pa_cons (pv 4) (pa_cons (pv 3) pa_nil))))))))))), ?_⟩
    refine ⟨_, rfl, ⟨_, rfl⟩, _, (" " : Str), rfl, rfl, rfl, ?_, ?_⟩
    · have : (9000 : Nat) ≤ sizeLine := by decide
      omega
    rw [sheet_split]
    intro wl nwl
    obtain ⟨x0, xs0, etl⟩ := tailWs_ne ls
    have s1 := same_of (o := .lst ((wordsS lv ls fin).map V.str)) nwl
    have ew : (wordsS lv ls fin).map V.str = V.str ("levels" : Str) :: V.str (nS lv) :: V.str ("end" : Str) :: V.str (nS fin) :: (tailWs ls).map V.str := rfl
    have h1 : (upd H wl (.lst ((wordsS lv ls fin).map V.str))) wl = some (.lst (V.str ("levels" : Str) :: V.str (nS lv) :: V.str ("end" : Str) :: V.str (nS fin) :: (tailWs ls).map V.str)) := by
      rw [upd_same, ew]
    revert s1 h1
    generalize (upd H wl (.lst ((wordsS lv ls fin).map V.str))) = H1
    intro s1 h1
    have n0 : (V.str ("levels" : Str) :: V.str (nS lv) :: V.str ("end" : Str) :: V.str (nS fin) :: (tailWs ls).map V.str).length = xs0.length + 5 := by
      rw [etl]
      simp
    refine sq_no (ans_or (an_lt (lv_len (val_var rfl) (SqL.of h1)) val_c ?_) (ans_or (ans_ne (x := .str ("levels" : Str)) (y := .str ("levels" : Str)) (val_op (val_var rfl) val_c (lv_ix h1 (L2.at_of (j := 0) rfl rfl))) val_c rfl (by rw [decide_eq_true rfl]; rfl))
      (ans_ne (x := .str ("end" : Str)) (y := .str ("end" : Str)) (val_op (val_var rfl) val_c (lv_ix h1 (L2.at_of (j := 2) rfl rfl))) val_c rfl (by rw [decide_eq_true rfl]; rfl)))) ?_
    · rw [n0]
      exact decide_eq_false (by omega)
    refine ⟨_, rfl, wl, _, 1, .str (nS lv), rfl, rfl, SqL.of h1, L2.at_of (j := 1) rfl rfl, lv, rfl, hf.lv, ?_⟩
    refine ⟨_, rfl, wl, _, 3, .str (nS fin), rfl, rfl, SqL.of h1, L2.at_of (j := 3) rfl rfl, fin, rfl, hf.fin, ?_⟩
    refine ⟨_, rfl, 4, rfl, wl, _, rfl, SqL.of h1, fun c nc => ?_⟩
    rw [cut4]
    have s2 := s1.trans (same_of (o := .lst ((tailWs ls).map V.str)) nc)
    refine ⟨c, ls, rfl, upd_same, hf.all, few, fun t H2 s3 ht => ?_⟩
    refine sq_no (ans_or (ans_isN (x := .int lv) (val_var rfl) rfl) (ans_or (ans_isN (x := .int fin) (val_var rfl) rfl) (ans_isN (x := .ref t) (val_var rfl) rfl))) ?_
    refine ⟨_, rfl, _, rfl, _, rfl, le_line (by show 3 ≤ 9000; decide), fun l nl => ?_⟩
    have s4 := same_of (o := .tup [V.int lv, V.ref t, V.int fin]) nl
    obtain ⟨as, ht1, ht2⟩ := ht
    exact q l t _ ((s2.trans s3).trans s4) upd_same ⟨as, s4 _ _ ht1, L2.Paired.mapP ht2 fun a qq hz => s4 _ _ hz⟩
end
end Lamp
set_option Elab.async false
set_option linter.all false
set_option maxRecDepth 100000
set_option maxHeartbeats 1000000
namespace Lamp
open PySem PySem.Spec PyProof.Rows L2
/-! len, str, repr, bool of an instance by its own methods -/
/-- the class at C has m as a def at f that keeps sp -/
structure OwnM (P : Program) (w : World) (K : PySem.W.Frag) (mg : Str → Option Value) (base : Heap) (C : Addr) (m : Str) (sp : Sp) (k : Nat) : Prop where
  ex : ∃ (f : Addr) (fd : FuncData), PySem.W.findIn K (.ref C) m = some (some (.ref f)) ∧ PySem.W.isFn K (.ref f) = true ∧ FnOk P w K mg base CX0 k f fd ["self"] sp ∧ Binds K fd ["self"] []
section
variable {X : Cx} {pins : List (Addr × Obj)} {σ : L2.St} {H : Hp} {s : Shared} {Q : VK} {a f : Addr} {k : Nat} {sp : Sp} {fd : FuncData} {A' : Around}
theorem run_self (F : FnOk X.prog X.w X.K X.mg X.base CX0 k f fd ["self"] sp) (hr : Room k A') (hf : A'.frames = X.A.frames) (hb : Binds X.K fd ["self"] []) (I : Inv X pins σ H s) (h : sp [.ref a] H Q E0) :
    wpAny (model X.prog X.w) A' (call (.ref f) [.ref a]) (EP X pins σ Q) X.xe s := by
  have e0 := I.env0
  have e1 : Env0 X.prog X.w X.K X.mg X.base A' X.stack s H := ⟨hf.trans e0.frames, e0.mod, e0.bs, e0.bsz, e0.funs, e0.frf, e0.hok, e0.bare⟩
  have bb := hb s [.ref a] I.kIn rfl
  refine wpAny_call (codeAny_mono (F.run A' X.stack s H ⟨[.ref a], []⟩ [.ref a] [.ref a] Q E0 hr e1 bb (.cons (show RelV (V.ref a) (Value.ref a) from rfl) .nil) h) fun res s' told => ?_)
  match res, told with
  | .error _, told => exact False.elim told
  | .ok (.ret u), told => exact I.after told
  | .ok .next, told => exact False.elim told
  | .ok .brk, told => exact False.elim told
  | .ok .cont, told => exact False.elim told
theorem ins_inst {C dx : Addr} {fs : List (Str × V)} (I : Inv X pins σ H s) (h : H a = some (.ins C dx fs)) : ∃ od, PySem.W.InstAt s.heap a (PySem.W.instObj C dx) C (some od) := by
  obtain ⟨mA, O, _⟩ := ins_get I.hok h
  obtain ⟨od, J, _⟩ := O.look
  exact ⟨od, J⟩
end
section
variable {X : Cx} {C : Addr} {sp : Sp} {k : Nat}
/-- the reading of such a call: what the method hands back, as ok says, is the answer -/
def rOwn (C : Addr) (sp : Sp) (ok : V → Prop) : List V → Hp → VK → Prop := fun xs H Q => ∃ (a dx : Addr) (fs : List (Str × V)), xs = [.ref a] ∧ H a = some (.ins C dx fs) ∧ sp [.ref a] H (fun v H' => ok v ∧ Q v H') E0
def okLen (v : V) : Prop := ∃ n : Int, v = .int n ∧ 0 ≤ n ∧ n < 2 ^ 63
def okStr (v : V) : Prop := ∃ x : Str, v = .str x
def okBool (v : V) : Prop := ∃ b : Bool, v = .bl b
theorem call_lenO (Z : OwnM X.prog X.w X.K X.mg X.base C "__len__" sp k) (hr : Room (k + 1) X.A) : CallR X (.builtin "len") (rOwn C sp okLen) := by
  intro pins s σ H xs us Q I r h
  obtain ⟨a, dx, fs, rfl, ha, hs⟩ := h
  obtain ⟨f, fd, h1, h2, F, b⟩ := Z.ex
  have e := Vals.ref1 r
  subst e
  obtain ⟨od, J⟩ := ins_inst I ha
  obtain ⟨m, fr⟩ := I.fr
  refine PySem.W.len_K fr I.ok.mod.kin J h1 h2 (wpAny_mono (run_self F hr.in1 rfl b I hs) (fun u s' told => ?_) fun _ _ z => z)
  obtain ⟨v, H1, I1, rv, ⟨n, ev, n0, n1⟩, q⟩ := told
  subst ev
  obtain ⟨t, eu⟩ := rv
  subst eu
  exact ⟨⟨n0, n1⟩, ⟨.int n, H1, I1.tok _, ⟨_, rfl⟩, q⟩⟩
theorem call_reprO (Z : OwnM X.prog X.w X.K X.mg X.base C "__repr__" sp k) (hr : Room (k + 1) X.A) : CallR X (.builtin "repr") (rOwn C sp okStr) := by
  intro pins s σ H xs us Q I r h
  obtain ⟨a, dx, fs, rfl, ha, hs⟩ := h
  obtain ⟨f, fd, h1, h2, F, b⟩ := Z.ex
  have e := Vals.ref1 r
  subst e
  obtain ⟨od, J⟩ := ins_inst I ha
  obtain ⟨m, fr⟩ := I.fr
  refine PySem.W.repr_K hr.in1.units0 fr I.ok.mod.kin J h1 h2 (wpAny_mono (run_self F hr.in1 rfl b I hs) (fun u s' told => ?_) fun _ _ z => z)
  obtain ⟨v, H1, I1, rv, ⟨x, ev⟩, q⟩ := told
  subst ev
  obtain ⟨t, eu⟩ := rv
  subst eu
  exact ⟨.str x, H1, I1, ⟨_, rfl⟩, q⟩
theorem call_strO (Z : OwnM X.prog X.w X.K X.mg X.base C "__str__" sp k) (hr : Room (k + 2) X.A) : CallR X (.type "str") (rOwn C sp okStr) := by
  intro pins s σ H xs us Q I r h
  obtain ⟨a, dx, fs, rfl, ha, hs⟩ := h
  obtain ⟨f, fd, h1, h2, F, b⟩ := Z.ex
  have e := Vals.ref1 r
  subst e
  obtain ⟨od, J⟩ := ins_inst I ha
  refine PySem.W.kso_call hr.in1.in1.units0 I.kIn J h1 h2 (wpAny_mono (run_self F hr.in1.in1 rfl b I hs) (fun u s' told => ?_) fun _ _ z => z)
  obtain ⟨v, H1, I1, rv, ⟨x, ev⟩, q⟩ := told
  subst ev
  obtain ⟨t, eu⟩ := rv
  subst eu
  exact ⟨.str x, H1, I1, ⟨_, rfl⟩, q⟩
theorem call_boolO (Z : OwnM X.prog X.w X.K X.mg X.base C "__bool__" sp k) (hr : Room (k + 2) X.A) : CallR X (.type "bool") (rOwn C sp okBool) := by
  intro pins s σ H xs us Q I r h
  obtain ⟨a, dx, fs, rfl, ha, hs⟩ := h
  obtain ⟨f, fd, h1, h2, F, b⟩ := Z.ex
  have e := Vals.ref1 r
  subst e
  obtain ⟨od, J⟩ := ins_inst I ha
  obtain ⟨m, fr⟩ := I.fr
  refine callType_codes (T := "bool") (Bi := Builtin.«object.__init__») (Q₁ := fun r s₁ => ∃ y, r = .bool y ∧ EP X pins σ Q r s₁) PySem.F.called_bool (PySem.F.typeCall_bool_1 _) PySem.F.entry_object_init ?_ ?_
  · refine codeAny_of_tree ?_
    show wpAny _ X.A.in1.in1 (do checkBuiltinCall "bool.__new__" ⟨[.type "bool", .ref a], []⟩; again (.builtin "bool.__new__" ⟨[.type "bool", .ref a], []⟩)) _ _ s
    refine PySem.wpAny_bind (wpAny_of_eq (PySem.F.newCall_bool_1 _) (PySem.wpAny_pure ⟨plainId_quiet (by decide +kernel) _, codeAny_builtin PySem.F.entry_bool_new ?_⟩))
    rw [Around.under_plainId (by decide +kernel) _]
    refine PySem.wpAny_bind (PySem.wpAny_pure ?_)
    refine PySem.wpAny_bind (wpAny_of_eq PySem.F.conv_sub_bool ?_)
    refine PySem.wpAny_bind (PySem.wpAny_pure ?_)
    refine PySem.wpAny_bind (PySem.W.truthy_K fr I.ok.mod.kin J h1 h2 (wpAny_mono (run_self F hr.in1.in1 rfl b I hs) (fun u s' told => ?_) fun _ _ z => z))
    obtain ⟨v, H1, I1, rv, ⟨x, ev⟩, q⟩ := told
    subst ev
    have eu : u = Value.bool x := rv
    subst eu
    exact PySem.wpAny_pure ⟨x, rfl, .bl x, H1, I1, rfl, q⟩
  · rintro obj s₁ ⟨y, rfl, hq⟩
    exact ⟨rfl, PySem.F.args_object_init_2 _ _, object_init_meets PySem.F.called_bool.init.lookup PySem.F.called_bool.made (by decide) X.prog X.w X.A.in1 _ s₁ ⟨rfl, rfl, hq⟩⟩
end
end Lamp
set_option Elab.async false
set_option linter.all false
set_option maxRecDepth 100000
set_option maxHeartbeats 1000000
namespace Lamp
open PySem PySem.Spec PyProof.Rows L2
abbrev sRound : Stmt := top 23
abbrev sInit : Stmt := inClass sRound 0
abbrev sRead : Stmt := inClass sRound 1
/-! rounds as objects -/
def fldR (lv : Int) (t : Addr) (fin : Int) : List (Str × V) := [("_levels", .int lv), ("_lamps", .ref t), ("_end", .int fin)]
/-- at a: the round with these parts, its picture at t -/
def RoundAt (C : Addr) (H : Hp) (a : Addr) (lv : Int) (t : Addr) (fin : Int) : Prop := ∃ dx, H a = some (.ins C dx (fldR lv t fin))
theorem RoundAt.same {C : Addr} {H H' : Hp} {a t : Addr} {lv fin : Int} (h : RoundAt C H a lv t fin) (e : Same H H') : RoundAt C H' a lv t fin := by
  obtain ⟨dx, h⟩ := h
  exact ⟨dx, e _ _ h⟩
/-- what of the text the class must have -/
structure RCls (K : PySem.W.Frag) (C : Addr) : Prop where
  cl : Cls K C
  n1 : NoAttr K C "_levels"
  n2 : NoAttr K C "_lamps"
  n3 : NoAttr K C "_end"
def spInitR (K : PySem.W.Frag) (C : Addr) : Sp := fun vs H Q _ => ∃ (a t : Addr) (lv fin : Int) (dx : Addr) (ls : List (Int × Int)), vs = [.ref a, .int lv, .ref t, .int fin] ∧ H a = some (.ins C dx []) ∧ goodLv lv ∧ PicAt K H t ls ∧ IsPicW lv ls ∧
  ∀ H', But a H H' → H' a = some (.ins C dx (fldR lv t fin)) → Q .non H'
section
variable {P : Program} {w : World} {K : PySem.W.Frag} {mg : Str → Option Value} {base : Heap} {C : Addr}
theorem scInit : FnScope ["self", "levels", "lamps", "end", "index"] ["self", "levels", "lamps", "end"] (defScope sInit) := ⟨rfl, rfl, rfl, by decide +kernel, rfl, by decide +kernel, by decide +kernel⟩
theorem ok_initR {f : Addr} {fd : FuncData} {t1 : Tok} (F : Fun K "__init__" "Round.__init__" sInit f fd) (R : RCls K C) (Ii : Dr P w K mg base spIsInt "is_integer" ["value"] 1) (Il : Dr P w K mg base spIsLevels "is_levels" ["value"] 2)
    (Wr : Dr P w K mg base (spWrong K) "wrong_lamp" ["levels", "lamps"] 3) (mML : mg "MOST_LAMPS" = some (.int 400 t1)) (mis : mg "isinstance" = none) (mt : mg "tuple" = none) (ml : mg "len" = none) :
    FnOk P w K mg base CX0 4 f fd ["self", "levels", "lamps", "end"] (spInitR K C) := by
  refine F.ok scInit (fun vs H Q E h => ?_) (fun cdv A outer s H vs Q E hr h => ?_)
  · obtain ⟨a, t, lv, fin, dx, ls, rfl, _⟩ := h
    rfl
  · obtain ⟨a, t, lv, fin, dx, ls, rfl, ha, hg, hp, hi, q⟩ := h
    obtain ⟨as, ht, hlen, hat⟩ := pair_get hp
    have few := hi.few
    refine ⟨_, pss_cons (ps_if (pt_not (pt_val (pe_dr Il (by decide) hr rfl (pa_cons (pv 1) pa_nil)))) pss_never pss_nil)
      (pss_cons (ps_if (pt_not (pt_val (pe_callB call_isi (by rfl) mis (by decide +kernel) (pa_cons (pv 2) (pa_cons (pe_bltn (v := .ty "tuple") (by rfl) mt (by decide +kernel) rfl) pa_nil))))) pss_never pss_nil)
      (pss_cons (ps_set (i := 4) scInit.nd rfl (.inl rfl) (pe_dr Wr (Nat.le_refl _) hr rfl (pa_cons (pv 1) (pa_cons (pe_slice (r := rSlA K) sl_tupA (pv 2) po_none (po_some (pe_glob (v := .int 400) rfl mML ⟨_, rfl⟩))) pa_nil))))
      (pss_cons (ps_if (pt_cmpR op_notN1 (pv 4) pe_non (nomark _)) pss_never pss_nil)
      (pss_cons (ps_if (pt_cmpR op_gt (pe_callB call_len_seq (by rfl) ml PySem.boot_len (pa_cons (pv 2) pa_nil)) (pe_glob (v := .int 400) rfl mML ⟨_, rfl⟩) (nomark _)) pss_never pss_nil)
      (pss_cons (ps_if (pt_not (pt_val (pe_dr Ii (by decide) hr rfl (pa_cons (pv 3) pa_nil)))) pss_never pss_nil)
      (pss_cons (ps_fld (pv 0) (pv 1) (by rfl)) (pss_cons (ps_fld (pv 0) (pv 2) (by rfl)) (pss_one (ps_fld (pv 0) (pv 3) (by rfl)))))))))), ?_⟩
    refine sq_no (ans_not (b := true) (ans_val fun Q q => ⟨_, rfl, lv, rfl, hg, q⟩)) ?_
    refine sq_no (ans_not (b := true) (ans_val fun Q q => ⟨_, rfl, isi_tR ht q⟩)) ?_
    refine ⟨_, rfl, _, rfl, 400, rfl, t, _, rfl, .inl ht, fun _ => ?_, fun hn => absurd ⟨rfl, ?_⟩ hn⟩
    · refine ⟨lv, t, ls, rfl, hp, hi, fun H1 s1 => ?_⟩
      refine sq_no (ans_notN (x := .non) (val_var rfl) (by rw [decide_eq_true rfl]; rfl)) ?_
      refine sq_no (an_gt (x := ((as.map V.ref).length : Nat)) (fun Q q => ⟨_, rfl, t, _, rfl, .inr (.inl (rd_same ht s1)), q⟩) val_c ?_) ?_
      · rw [List.length_map]
        exact decide_eq_false (by omega)
      refine sq_no (ans_not (b := true) (ans_val fun Q q => ⟨_, rfl, fin, rfl, q⟩)) ?_
      refine st_seq (st_fld (y := .int lv) (val_var rfl) (val_var rfl) (s1 _ _ ha) R.cl R.n1 (by show 0 < 1000; decide) ?_)
      refine st_seq (st_fld (y := .ref t) (val_var rfl) (val_var rfl) upd_same R.cl R.n2 (by show 1 < 1000; decide) ?_)
      refine st_fld (y := .int fin) (val_var rfl) (val_var rfl) upd_same R.cl R.n3 (by show 2 < 1000; decide) ?_
      exact q _ (((But.of s1).trans But.at).trans (But.at.trans But.at)) upd_same
    · rw [List.length_map, show (some (400 : Int)) = some ((400 : Nat) : Int) from rfl, HT.sIx_nat]
      omega
end
end Lamp
set_option Elab.async false
set_option linter.all false
set_option maxRecDepth 100000
set_option maxHeartbeats 1000000
namespace Lamp
open PySem PySem.Spec PyProof.Rows L2
open TL (tl tl_append ext_tl numL tl_ofString len_tl)
/-! making rounds -/
/-- the class made with three values: what is told of it -/
structure MkR (P : Program) (w : World) (K : PySem.W.Frag) (mg : Str → Option Value) (base : Heap) (C : Addr) : Prop where
  ex : ∃ (f : Addr) (fd : FuncData), Mk K C f ∧ FnOk P w K mg base CX0 4 f fd ["self", "levels", "lamps", "end"] (spInitR K C) ∧ Binds K fd ["self", "levels", "lamps", "end"] [] ∧
    ∀ (s : Shared) (x u1 u2 u3 : Value), BindsTo s fd ⟨[x], [("end", u1), ("levels", u2), ("lamps", u3)]⟩ [("self", x), ("levels", u2), ("lamps", u3), ("end", u1)]
def rMkR (K : PySem.W.Frag) (C : Addr) (lv : Int) (t : Addr) (fin : Int) (H : Hp) (Q : VK) : Prop := ∃ ls : List (Int × Int), goodLv lv ∧ PicAt K H t ls ∧ IsPicW lv ls ∧ ∀ a H', Same H H' → H a = none → RoundAt C H' a lv t fin → Q (.ref a) H'
theorem mk_init {K : PySem.W.Frag} {C : Addr} {lv fin : Int} {t : Addr} {H : Hp} {Q : VK} (h : rMkR K C lv t fin H Q) {x dx : Addr} (hx : H x = none) (hd : H dx = none) (hne : dx ≠ x) :
    spInitR K C [.ref x, .int lv, .ref t, .int fin] (upd (upd H dx (.own x)) x (.ins C dx [])) (fun v H2 => v = .non ∧ Q (.ref x) H2) E0 := by
  obtain ⟨ls, hg, hp, hi, q⟩ := h
  have s1 : Same H (upd (upd H dx (.own x)) x (.ins C dx [])) := fun b o e => by rw [upd_ne (ne_of_none e hx), upd_ne (ne_of_none e hd)]; exact e
  refine ⟨x, t, lv, fin, dx, ls, rfl, upd_same, hg, hp.same s1, hi, fun H' bt hr => ⟨rfl, q x H' (fun b o e => ?_) hx ⟨dx, hr⟩⟩⟩
  exact bt b o (ne_of_none e hx) (s1 b o e)
/-- Round(a, b, c) -/
def tMkR (K : PySem.W.Frag) (C : Addr) (ta : TA) : TE := fun σ H Q => ta σ H fun vs H1 => ∃ (lv : Int) (t : Addr) (fin : Int), vs = [.int lv, .ref t, .int fin] ∧ rMkR K C lv t fin H1 Q
section
variable {X : Cx} {C : Addr} {x : Str} {e : Expr} {es : List Expr} {ta tk : TA} {p pos : Pos} {kws : List Keyword} {i : Nat}
theorem pe_mkR (Z : MkR X.prog X.w X.K X.mg X.base C) (hr : Room 5 X.A) (hg : Gl X x) (hm : X.mg x = some (.ref C)) (ha : PA X (e :: es) ta) (hdb : (x == ("__debug__" : Str)) = false := by decide)
    (he : starEach (e :: es) X.env = (false, eval e X.env) :: starEach es X.env := by rfl) (hpl : (backTo pos (starEach es X.env)).any (·.1) = false := by rfl) : PE X (.Call (.Name x p) (e :: es) [] pos) (tMkR X.K C ta) := by
  obtain ⟨f, fd, M, F, b, _⟩ := Z.ex
  refine ⟨fun pins s σ H Q I h => ?_⟩
  refine wpAny_Call_Name_kw (ld_glob I hg hm ?_ hdb)
  refine PySem.W.callWith_K (h₀ := X.base) I.ok.mod.kin M.kp (thn (ha.run pos pins s σ H _ I h) fun us s1 ⟨vs, H1, I1, r, lv, t, fin, ev, q⟩ => ⟨I1.kIn, ?_⟩) he hpl
  subst ev
  exact run_make M F hr b .nil pass0 I1 r fun y dx hy hd hne => mk_init q hy hd hne
/-- cls(a, b, c), the i-th name holding the class -/
def tMkL (K : PySem.W.Frag) (C : Addr) (i : Nat) (ta : TA) : TE := fun σ H Q => σ[i]? = some (some (.ref C)) ∧ tMkR K C ta σ H Q
theorem pe_mkL (Z : MkR X.prog X.w X.K X.mg X.base C) (hr : Room 5 X.A) (hN : X.N[i]? = some x) (hv : Vis X.env.scope x) (ha : PA X (e :: es) ta) (hdb : (x == ("__debug__" : Str)) = false := by decide) (hcd : (x == ("__classdict__" : Str)) = false := by decide)
    (he : starEach (e :: es) X.env = (false, eval e X.env) :: starEach es X.env := by rfl) (hpl : (backTo pos (starEach es X.env)).any (·.1) = false := by rfl) : PE X (.Call (.Name x p) (e :: es) [] pos) (tMkL X.K C i ta) := by
  obtain ⟨f, fd, M, F, b, _⟩ := Z.ex
  refine ⟨fun pins s σ H Q I h => ?_⟩
  obtain ⟨hs, h⟩ := h
  refine wpAny_Call_Name_kw (thn ((pe_var (pos := p) hN hv hdb hcd).run pins s σ H (fun v H1 => v = .ref C ∧ H1 = H) I ⟨.ref C, hs, rfl, rfl⟩) fun u s0 ⟨v, H0, I0, r0, q0⟩ => ?_)
  obtain ⟨rfl, rfl⟩ := q0
  cases r0
  refine PySem.W.callWith_K (h₀ := X.base) I.ok.mod.kin M.kp (thn (ha.run pos pins s0 σ _ _ I0 h) fun us s1 ⟨vs, H1, I1, r, lv, t, fin, ev, q⟩ => ⟨I1.kIn, ?_⟩) he hpl
  subst ev
  exact run_make M F hr b .nil pass0 I1 r fun y dx hy hd hne => mk_init q hy hd hne
/-- Round(end=c, levels=a, lamps=b) -/
def tMkRK (K : PySem.W.Frag) (C : Addr) (tk : TA) : TE := fun σ H Q => tk σ H fun zs H1 => ∃ (lv : Int) (t : Addr) (fin : Int), zs = [.int fin, .int lv, .ref t] ∧ rMkR K C lv t fin H1 Q
def gK {α : Type} : List α → List α → List α
  | [x], [u1, u2, u3] => [x, u2, u3, u1]
  | _, _ => []
theorem three {α : Type} : ∀ {l : List α}, l.length = 3 → ∃ a b c, l = [a, b, c]
  | [a, b, c], _ => ⟨a, b, c, rfl⟩
theorem gK_rel : ∀ {vs : List V} {us : List Value} {zs : List V} {ws : List Value}, Vals vs us → Vals zs ws → Vals (gK vs zs) (gK us ws)
  | _, _, _, _, .cons r .nil, .cons r1 (.cons r2 (.cons r3 .nil)) => .cons r (.cons r2 (.cons r3 (.cons r1 .nil)))
  | _, _, _, _, .nil, _ => .nil
  | _, _, _, _, .cons _ (.cons _ _), _ => .nil
  | _, _, _, _, .cons _ .nil, .nil => .nil
  | _, _, _, _, .cons _ .nil, .cons _ .nil => .nil
  | _, _, _, _, .cons _ .nil, .cons _ (.cons _ .nil) => .nil
  | _, _, _, _, .cons _ .nil, .cons _ (.cons _ (.cons _ (.cons _ _))) => .nil
theorem pe_mkRK (Z : MkR X.prog X.w X.K X.mg X.base C) (hr : Room 5 X.A) (hg : Gl X x) (hm : X.mg x = some (.ref C)) (hkw : PK X kws tk)
    (hall : (backToKw pos (keywordEach kws X.env)).all (·.1.isSome) = true := by rfl) (hks : (backToKw pos (keywordEach kws X.env)).filterMap (·.1) = (["end", "levels", "lamps"] : List Str) := by rfl) (hdb : (x == ("__debug__" : Str)) = false := by decide)
    (hpl : ((backTo pos (starEach [] X.env)).any (·.1) || (backToKw pos (keywordEach kws X.env)).any (·.1.isNone)) = false := by rfl) : PE X (.Call (.Name x p) [] kws pos) (tMkRK X.K C tk) := by
  obtain ⟨f, fd, M, F, _, b⟩ := Z.ex
  have kb : KBn X.K fd ["self", "levels", "lamps", "end"] 1 ["end", "levels", "lamps"] gK gK := ⟨fun s us ws _ l1 l2 => by
    obtain ⟨x, rfl⟩ := List.length_eq_one_iff.mp l1
    obtain ⟨u1, u2, u3, rfl⟩ := three l2
    exact b s x u1 u2 u3, gK_rel⟩
  refine ⟨fun pins s σ H Q I h => ?_⟩
  refine wpAny_Call_Name_kw (ld_glob I hg hm ?_ hdb)
  refine PySem.W.callWith_KW0 (h₀ := X.base) I.ok.mod.kin M.kp hall ?_ hpl
  refine thn (hkw.run pos pins s σ H _ I h) fun ws s2 ⟨zs, H2, I2, rz, lv, t, fin, ev, q2⟩ => ⟨I2.kIn, ?_⟩
  subst ev
  rw [hks]
  exact run_makeK (us := []) (vs := []) M F hr kb pass0 I2 .nil rz rfl rfl fun y dx hy hd hne => mk_init q2 hy hd hne
end
def spRead (K : PySem.W.Frag) (C : Addr) : Sp := fun vs H Q _ => ∃ (lv fin : Int) (ls : List (Int × Int)), vs = [.ref C, .str (sheetS lv ls fin)] ∧ Fit lv ls fin ∧ goodLv lv ∧ IsPicW lv ls ∧
  ∀ a t H', Same H H' → H a = none → RoundAt C H' a lv t fin → PicAt K H' t ls → Q (.ref a) H'
def spLevels (C : Addr) : Sp := fun vs H Q _ => ∃ (a t : Addr) (lv fin : Int), vs = [.ref a] ∧ RoundAt C H a lv t fin ∧ Q (.int lv) H
def spLamps (C : Addr) : Sp := fun vs H Q _ => ∃ (a t : Addr) (lv fin : Int), vs = [.ref a] ∧ RoundAt C H a lv t fin ∧ Q (.ref t) H
def spEnd (C : Addr) : Sp := fun vs H Q _ => ∃ (a t : Addr) (lv fin : Int), vs = [.ref a] ∧ RoundAt C H a lv t fin ∧ Q (.int fin) H
def spBool : Sp := fun vs H Q _ => ∃ (a : Addr), vs = [.ref a] ∧ Q (.bl true) H
def spLen (K : PySem.W.Frag) (C : Addr) : Sp := fun vs H Q _ => ∃ (a t : Addr) (lv fin : Int) (ls : List (Int × Int)), vs = [.ref a] ∧ RoundAt C H a lv t fin ∧ PicAt K H t ls ∧ Q (.int (ls.length : Int)) H
def spText (K : PySem.W.Frag) (C : Addr) : Sp := fun vs H Q _ => ∃ (a t : Addr) (lv fin : Int) (ls : List (Int × Int)), vs = [.ref a] ∧ RoundAt C H a lv t fin ∧ PicAt K H t ls ∧ Fit lv ls fin ∧ ∀ H', Same H H' → Q (.str (sheetS lv ls fin)) H'
def reprS (n : Nat) : Str := ("Round of " : Str) ++ nS (n : Int) ++ (" lamps" : Str)
def spRepr (K : PySem.W.Frag) (C : Addr) : Sp := fun vs H Q _ => ∃ (a t : Addr) (lv fin : Int) (ls : List (Int × Int)), vs = [.ref a] ∧ RoundAt C H a lv t fin ∧ PicAt K H t ls ∧ ls.length ≤ 10 ∧ Q (.str (reprS ls.length)) H
abbrev sLevels : Stmt := inClass sRound 2
abbrev sLampsP : Stmt := inClass sRound 3
abbrev sEnd : Stmt := inClass sRound 4
abbrev sText : Stmt := inClass sRound 5
abbrev sBool : Stmt := inClass sRound 7
abbrev sLen : Stmt := inClass sRound 8
abbrev sStr : Stmt := inClass sRound 9
abbrev sRepr : Stmt := inClass sRound 10
section
variable {P : Program} {w : World} {K : PySem.W.Frag} {mg : Str → Option Value} {base : Heap} {C : Addr}
theorem scRead : FnScope ["cls", "text", "parts", "levels", "lamps", "end"] ["cls", "text"] (defScope sRead) := ⟨rfl, rfl, rfl, by decide +kernel, rfl, by decide +kernel, by decide +kernel⟩
theorem scLevels : FnScope ["self"] ["self"] (defScope sLevels) := ⟨rfl, rfl, rfl, by decide +kernel, rfl, by decide +kernel, by decide +kernel⟩
theorem scLampsP : FnScope ["self"] ["self"] (defScope sLampsP) := ⟨rfl, rfl, rfl, by decide +kernel, rfl, by decide +kernel, by decide +kernel⟩
theorem scEnd : FnScope ["self"] ["self"] (defScope sEnd) := ⟨rfl, rfl, rfl, by decide +kernel, rfl, by decide +kernel, by decide +kernel⟩
theorem scText : FnScope ["self"] ["self"] (defScope sText) := ⟨rfl, rfl, rfl, by decide +kernel, rfl, by decide +kernel, by decide +kernel⟩
theorem scBool : FnScope ["self"] ["self"] (defScope sBool) := ⟨rfl, rfl, rfl, by decide +kernel, rfl, by decide +kernel, by decide +kernel⟩
theorem scLen : FnScope ["self"] ["self"] (defScope sLen) := ⟨rfl, rfl, rfl, by decide +kernel, rfl, by decide +kernel, by decide +kernel⟩
theorem scStr : FnScope ["self"] ["self"] (defScope sStr) := ⟨rfl, rfl, rfl, by decide +kernel, rfl, by decide +kernel, by decide +kernel⟩
theorem scRepr : FnScope ["self"] ["self"] (defScope sRepr) := ⟨rfl, rfl, rfl, by decide +kernel, rfl, by decide +kernel, by decide +kernel⟩
theorem v_lv {σ : L2.St} {H : Hp} {a t : Addr} {lv fin : Int} {ta : TE} (R : RCls K C) (h : Val ta σ H (.ref a)) (hr : RoundAt C H a lv t fin) : Val (tFld K ta "_levels") σ H (.int lv) := by
  obtain ⟨dx, hr⟩ := hr
  exact val_fld h hr R.cl R.n1 rfl
theorem v_la {σ : L2.St} {H : Hp} {a t : Addr} {lv fin : Int} {ta : TE} (R : RCls K C) (h : Val ta σ H (.ref a)) (hr : RoundAt C H a lv t fin) : Val (tFld K ta "_lamps") σ H (.ref t) := by
  obtain ⟨dx, hr⟩ := hr
  exact val_fld h hr R.cl R.n2 rfl
theorem v_en {σ : L2.St} {H : Hp} {a t : Addr} {lv fin : Int} {ta : TE} (R : RCls K C) (h : Val ta σ H (.ref a)) (hr : RoundAt C H a lv t fin) : Val (tFld K ta "_end") σ H (.int fin) := by
  obtain ⟨dx, hr⟩ := hr
  exact val_fld h hr R.cl R.n3 rfl
theorem ok_levels {f : Addr} {fd : FuncData} (F : Fun K "levels" "Round.levels" sLevels f fd) (R : RCls K C) : FnOk P w K mg base CX0 1 f fd ["self"] (spLevels C) := by
  refine F.ok scLevels (fun vs H Q E h => ?_) (fun cdv A outer s H vs Q E hr h => ?_)
  · obtain ⟨a, t, lv, fin, rfl, _⟩ := h
    rfl
  · obtain ⟨a, t, lv, fin, rfl, h, q⟩ := h
    exact ⟨_, pss_one (ps_ret (pe_fld (pv 0) rfl)), st_ret (v_lv R (val_var rfl) h) q⟩
theorem ok_lamps {f : Addr} {fd : FuncData} (F : Fun K "lamps" "Round.lamps" sLampsP f fd) (R : RCls K C) : FnOk P w K mg base CX0 1 f fd ["self"] (spLamps C) := by
  refine F.ok scLampsP (fun vs H Q E h => ?_) (fun cdv A outer s H vs Q E hr h => ?_)
  · obtain ⟨a, t, lv, fin, rfl, _⟩ := h
    rfl
  · obtain ⟨a, t, lv, fin, rfl, h, q⟩ := h
    exact ⟨_, pss_one (ps_ret (pe_fld (pv 0) rfl)), st_ret (v_la R (val_var rfl) h) q⟩
theorem ok_end {f : Addr} {fd : FuncData} (F : Fun K "end" "Round.end" sEnd f fd) (R : RCls K C) : FnOk P w K mg base CX0 1 f fd ["self"] (spEnd C) := by
  refine F.ok scEnd (fun vs H Q E h => ?_) (fun cdv A outer s H vs Q E hr h => ?_)
  · obtain ⟨a, t, lv, fin, rfl, _⟩ := h
    rfl
  · obtain ⟨a, t, lv, fin, rfl, h, q⟩ := h
    exact ⟨_, pss_one (ps_ret (pe_fld (pv 0) rfl)), st_ret (v_en R (val_var rfl) h) q⟩
theorem ok_bool {f : Addr} {fd : FuncData} (F : Fun K "__bool__" "Round.__bool__" sBool f fd) : FnOk P w K mg base CX0 1 f fd ["self"] spBool := by
  refine F.ok scBool (fun vs H Q E h => ?_) (fun cdv A outer s H vs Q E hr h => ?_)
  · obtain ⟨a, rfl, _⟩ := h
    rfl
  · obtain ⟨a, rfl, q⟩ := h
    exact ⟨_, pss_one (ps_ret pe_bl), st_ret val_c q⟩
theorem len_t {σ : L2.St} {H : Hp} {t : Addr} {ls : List (Int × Int)} {ta : TE} (h : Val ta σ H (.ref t)) (hp : PicAt K H t ls) : Val (tCB (fun xs H Q => ∃ p ys, xs = [.ref p] ∧ (SqL K H p ys ∨ SqT K H p ys) ∧ Q (.int ys.length) H) (tCons ta tNil)) σ H (.int (ls.length : Int)) := by
  obtain ⟨as, h1, hlen, _⟩ := pair_get hp
  intro Q q
  refine h _ ⟨t, _, rfl, .inr (.inl h1), ?_⟩
  rw [List.length_map, hlen]
  exact q
theorem ok_len {f : Addr} {fd : FuncData} (F : Fun K "__len__" "Round.__len__" sLen f fd) (R : RCls K C) (ml : mg "len" = none) : FnOk P w K mg base CX0 1 f fd ["self"] (spLen K C) := by
  refine F.ok scLen (fun vs H Q E h => ?_) (fun cdv A outer s H vs Q E hr h => ?_)
  · obtain ⟨a, t, lv, fin, ls, rfl, _⟩ := h
    rfl
  · obtain ⟨a, t, lv, fin, ls, rfl, h, hp, q⟩ := h
    exact ⟨_, pss_one (ps_ret (pe_callB call_len_seq (by rfl) ml PySem.boot_len (pa_cons (pe_fld (pv 0) rfl) pa_nil))), st_ret (len_t (v_la R (val_var rfl) h) hp) q⟩
theorem rt_callG {sp : Sp} {ta : TA} {D : Ends} {σ : L2.St} {H : Hp} {vs : List V} (h : VA ta σ H vs) (q : sp vs H D.rt E0) : tRet (tCallG sp ta) D σ H := h _ q
theorem ok_text {f : Addr} {fd : FuncData} (F : Fun K "text" "Round.text" sText f fd) (R : RCls K C) (T : Dr P w K mg base (spRoundText K) "round_text" ["levels", "lamps", "end"] 1) : FnOk P w K mg base CX0 2 f fd ["self"] (spText K C) := by
  refine F.ok scText (fun vs H Q E h => ?_) (fun cdv A outer s H vs Q E hr h => ?_)
  · obtain ⟨a, t, lv, fin, ls, rfl, _⟩ := h
    rfl
  · obtain ⟨a, t, lv, fin, ls, rfl, h, hp, hf, q⟩ := h
    refine ⟨_, pss_one (ps_ret (pe_dr T (Nat.le_refl _) hr rfl (pa_cons (pe_fld (pv 0) rfl) (pa_cons (pe_fld (pv 0) rfl) (pa_cons (pe_fld (pv 0) rfl) pa_nil))))), ?_⟩
    exact rt_callG (va_cons (v_lv R (val_var rfl) h) (va_cons (v_la R (val_var rfl) h) (va_cons (v_en R (val_var rfl) h) va_nil))) ⟨lv, fin, t, ls, rfl, hf, hp, q⟩
theorem ok_repr {f : Addr} {fd : FuncData} (F : Fun K "__repr__" "Round.__repr__" sRepr f fd) (R : RCls K C) (ml : mg "len" = none) : FnOk P w K mg base CX0 1 f fd ["self"] (spRepr K C) := by
  refine F.ok scRepr (fun vs H Q E h => ?_) (fun cdv A outer s H vs Q E hr h => ?_)
  · obtain ⟨a, t, lv, fin, ls, rfl, _⟩ := h
    rfl
  · obtain ⟨a, t, lv, fin, ls, rfl, h, hp, few, q⟩ := h
    have hn : ((ls.length : Int)).natAbs < 10 ^ 40 := by omega
    have e1 := nS_len hn
    have c0 : (Str.empty).length = 0 := rfl
    have c1 : ("Round of " : Str).length = 9 := rfl
    have c2 : (" lamps" : Str).length = 6 := rfl
    refine ⟨_, pss_one (ps_ret (pe_js (.cons pe_str (.cons (pe_fmt (pe_callB call_len_seq (by rfl) ml PySem.boot_len (pa_cons (pe_fld (pv 0) rfl) pa_nil))) (.cons pe_str .nil))))), ?_⟩
    refine js_c (by simp only [len_app]; exact le_line (by omega)) (js_i (len_t (v_la R (val_var rfl) h) hp) hn (by simp only [len_app]; exact le_line (by omega)) (js_c (by simp only [len_app]; exact le_line (by omega)) ?_))
    show Q (.str _) H
    rw [empty_app]
    exact q
/-- a property of rounds -/
structure PrR (P : Program) (w : World) (K : PySem.W.Frag) (mg : Str → Option Value) (base : Heap) (C : Addr) (x : Str) (sp : Sp) (k : Nat) : Prop where
  ex : ∃ (p g : Addr) (fd : FuncData), PropOf K C x p g ∧ FnOk P w K mg base CX0 k g fd ["self"] sp ∧ Binds K fd ["self"] []
theorem pe_prR {X : Cx} {k j : Nat} {x : Str} {sp : Sp} {e : Expr} {ta : TE} {pos : Pos} (Z : PrR X.prog X.w X.K X.mg X.base C x sp k) (R : RCls X.K C) (hk : k + 1 ≤ j) (hr : Room j X.A) (he : PE X e ta) (hab : attributeBase e x X.env (eval e X.env) = eval e X.env := by rfl) :
    PE X (.Attribute e x pos) (tProp C sp [] E0 ta) := by
  obtain ⟨p, g, fd, hp, F, b⟩ := Z.ex
  exact pe_prop he R.cl hp F (hr.mono hk) b .nil pass0 hab
theorem ok_str {f : Addr} {fd : FuncData} (F : Fun K "__str__" "Round.__str__" sStr f fd) (R : RCls K C) (T : PrR P w K mg base C "text" (spText K C) 2) (ms : mg "str" = none) : FnOk P w K mg base CX0 4 f fd ["self"] (spText K C) := by
  refine F.ok scStr (fun vs H Q E h => ?_) (fun cdv A outer s H vs Q E hr h => ?_)
  · obtain ⟨a, t, lv, fin, ls, rfl, _⟩ := h
    rfl
  · obtain ⟨a, t, lv, fin, ls, rfl, h, hp, hf, q⟩ := h
    refine ⟨_, pss_one (ps_ret (pe_callTy SkE.call_str_str (by rfl) ms (by decide +kernel) (pa_cons (pe_prR T R (Nat.le_refl _) hr (pv 0)) pa_nil))), ?_⟩
    have h' := h
    obtain ⟨dx, ha⟩ := h
    exact ⟨_, rfl, a, dx, _, rfl, ha, a, t, lv, fin, ls, rfl, h', hp, hf, fun H' s => ⟨_, rfl, q H' s⟩⟩
theorem ok_read {f : Addr} {fd : FuncData} (F : Fun K "read" "Round.read" sRead f fd) (M : MkR P w K mg base C) (Rp : Dr P w K mg base spReadParts "read_parts" ["text"] 4) (mis : mg "isinstance" = none) (ms : mg "str" = none) : FnOk P w K mg base CX0 6 f fd ["cls", "text"] (spRead K C) := by
  refine F.ok scRead (fun vs H Q E h => ?_) (fun cdv A outer s H vs Q E hr h => ?_)
  · obtain ⟨lv, fin, ls, rfl, _⟩ := h
    rfl
  · obtain ⟨lv, fin, ls, rfl, hf, hg, hi, q⟩ := h
    refine ⟨_, pss_cons (ps_if (pt_not (pt_val (pe_callB call_isi (by rfl) mis (by decide +kernel) (pa_cons (pv 1) (pa_cons (pe_bltn (v := .ty "str") (by rfl) ms (by decide +kernel) rfl) pa_nil))))) pss_never pss_nil)
      (pss_cons (ps_set (i := 2) scRead.nd rfl (.inl rfl) (pe_dr Rp (by decide) hr rfl (pa_cons (pv 1) pa_nil)))
      (pss_cons (ps_if (pt_cmpR op_isN1 (pv 2) pe_non (nomark _)) pss_never pss_nil)
      (pss_cons (ps_asg (pv 2) (pg_tup rfl (pgs_cons (pg_name (i := 3) scRead.nd rfl (.inl rfl)) (pgs_cons (pg_name (i := 4) scRead.nd rfl (.inl rfl)) (pgs_cons (pg_name (i := 5) scRead.nd rfl (.inl rfl)) pgs_nil)))))
      (pss_one (ps_try_thru0 (pss_one (ps_ret (pe_mkL M hr (i := 0) rfl (.inl rfl) (pa_cons (pv 3) (pa_cons (pv 4) (pa_cons (pv 5) pa_nil))))))))))), ?_⟩
    refine sq_no (ans_not (b := true) (ans_val fun Q q => ⟨_, rfl, isi_ss q⟩)) ?_
    refine ⟨_, rfl, lv, fin, ls, rfl, hf, fun l t H1 s1 hl ht => ?_⟩
    refine sq_no (ans_isN (x := .ref l) (val_var rfl) rfl) ?_
    refine ⟨_, rfl, l, _, rfl, SqT.of hl, rfl, _, _, rfl, _, _, rfl, _, _, rfl, rfl, ?_⟩
    obtain ⟨as, h1, h2⟩ := ht
    refine ⟨rfl, _, rfl, _, rfl, _, rfl, lv, t, fin, rfl, ls, hg, ⟨as, .inl h1, h2⟩, hi, fun a H2 s2 na hr2 => ?_⟩
    refine q a t H2 (s1.trans s2) (s1.free na) hr2 ?_
    exact PicAt.same (H := H1) ⟨as, .inl h1, h2⟩ s2
end
end Lamp
set_option Elab.async false
set_option linter.all false
set_option maxRecDepth 100000
set_option maxHeartbeats 1000000
namespace Lamp
open PySem PySem.Spec PyProof.Rows L2
/-! comprehensions whose list tells what `out` makes of each thing -/
def TupStay (H H' : Hp) : Prop := ∀ b xs, H b = some (.tup xs) → H' b = some (.tup xs)
theorem stay_same {H H' : Hp} (s : Same H H') : TupStay H H' := fun b xs h => s b _ h
theorem stay_lst {H : Hp} {D : Addr} {ys zs : List V} (h : H D = some (.lst ys)) : TupStay H (upd H D (.lst zs)) := fun b xs e => by
  rw [upd_ne (fun z => by rw [z, h] at e; cases e)]
  exact e
theorem few_line {n : Nat} (h : n < 10000) : n < sizeLine := Nat.lt_trans h (by decide)
section
variable {α β : Type} {K : PySem.W.Frag} {a : Addr} {us : List α} {enc : α → V} {g : TG} {tt : TT} {te : TE} {vs : List Nat} {σ : L2.St} {H1 : Hp} {D : Addr} {Qd : Hp → Prop}
/-- a turn of such a comprehension -/
def Turn (H1 : Hp) (out : α → Option β) (Rel : β → V → Hp → Prop) (enc : α → V) (us : List α) (g : TG) (tt : TT) (te : TE) (vs : List Nat) (σ : L2.St) : Prop :=
  ∀ (i : Nat) (u : α) (H : Hp), us[i]? = some u → Same H1 H → ∀ (R : VK) (Z : Hp → Prop), (∀ v H' b, out u = some b → Same H H' → Rel b v H' → R v H') → (∀ H', out u = none → Same H H' → Z H') →
    g (enc u) (wipe σ vs) H fun σ2 H2 => wipe σ2 vs = wipe σ vs ∧ tt σ2 H2 fun b H3 => if b = true then te σ2 H3 R else Z H3
def Inv9 (H1 : Hp) (D : Addr) (out : α → Option β) (Rel : β → V → Hp → Prop) (us : List α) (i : Nat) (H' : Hp) : Prop :=
  Same H1 H' ∧ ∃ ys, H' D = some (.lst ys) ∧ ys.length ≤ i ∧ Paired (fun v b => Rel b v H') ys ((us.take i).filterMap out)
theorem inv9_0 {out : α → Option β} {Rel : β → V → Hp → Prop} (hD : H1 D = none) : Inv9 H1 D out Rel us 0 (upd H1 D (.lst [])) := ⟨same_of hD, [], upd_same, Nat.le_refl _, by rw [List.take_zero]; exact .nil⟩
theorem inv9_turn {out : α → Option β} {Rel : β → V → Hp → Prop} (st : ∀ b v H H', TupStay H H' → Rel b v H → Rel b v H') (hD : H1 D = none) (hz : us.length ≤ 9000) (hs : Turn H1 out Rel enc us g tt te vs σ) {i : Nat} {u : α} {H' : Hp} (eu : us[i]? = some u) (z : Inv9 H1 D out Rel us i H') :
    g (enc u) (wipe σ vs) H' fun σ2 H2 => wipe σ2 vs = wipe σ vs ∧ tt σ2 H2 fun b H3 => if b = true then te σ2 H3 fun y H4 => ∃ acc, H4 D = some (.lst acc) ∧ acc.length < sizeLine ∧ Inv9 H1 D out Rel us (i + 1) (upd H4 D (.lst (acc ++ [y]))) else Inv9 H1 D out Rel us (i + 1) H3 := by
  obtain ⟨sb, ys, hD', hl, hp⟩ := z
  have li := (List.getElem?_eq_some_iff.mp eu).1
  refine hs i u H' eu sb _ _ (fun v H2 b eb s2 r => ⟨ys, s2 _ _ hD', few_line (by omega), fun b' o e => ?_, ys ++ [v], upd_same, by rw [List.length_append]; show ys.length + 1 ≤ i + 1; omega, ?_⟩) (fun H2 eb s2 => ⟨sb.trans s2, ys, s2 _ _ hD', by omega, ?_⟩)
  · have nb : b' ≠ D := fun z => by rw [z, hD] at e; cases e
    rw [upd_ne nb]
    exact s2 _ _ (sb _ _ e)
  · have t1 : TupStay H2 (upd H2 D (.lst (ys ++ [v]))) := stay_lst (s2 _ _ hD')
    rw [List.take_add_one, eu, List.filterMap_append]
    have e1 : ([u] : List α).filterMap out = [b] := by simp [eb]
    show Paired _ _ (_ ++ ([u] : List α).filterMap out)
    rw [e1]
    exact paired_app (L2.Paired.mapP hp fun v' b' hz => st _ _ _ _ t1 (st _ _ _ _ (stay_same s2) hz)) (.cons (st _ _ _ _ t1 r) .nil)
  · rw [List.take_add_one, eu, List.filterMap_append]
    have e1 : ([u] : List α).filterMap out = [] := by simp [eb]
    show Paired _ _ (_ ++ ([u] : List α).filterMap out)
    rw [e1, List.append_nil]
    exact L2.Paired.mapP hp fun v' b' hz => st _ _ _ _ (stay_same s2) hz
theorem lc_genT {out : α → Option β} {Rel : β → V → Hp → Prop} (st : ∀ b v H H', TupStay H H' → Rel b v H → Rel b v H') (hD : H1 D = none) (hsq : SqT K H1 a (us.map enc)) (hz : us.length ≤ 9000) (hs : Turn H1 out Rel enc us g tt te vs σ)
    (hd : ∀ H' ys, Same H1 H' → H' D = some (.lst ys) → Paired (fun v b => Rel b v H') ys (us.filterMap out) → Qd H') :
    ∃ W : Nat → Nat → Hp → Prop, (∃ m, W 0 m (upd H1 D (.lst []))) ∧ ∀ i m H, W i m H →
      ((Itt K a).stop i H ∧ Qd H) ∨ ((Itt K a).go i H ∧ ∃ Nx : Hp → Prop, (∀ H', Nx H' → ∃ m', m' < m ∧ W (i + 1) m' H') ∧ ∀ x H', (Itt K a).yld i H x H' → g x (wipe σ vs) H' fun σ2 H2 => wipe σ2 vs = wipe σ vs ∧ tt σ2 H2 fun b H3 =>
        if b = true then te σ2 H3 fun y H4 => ∃ acc, H4 D = some (.lst acc) ∧ acc.length < sizeLine ∧ Nx (upd H4 D (.lst (acc ++ [y]))) else Nx H3) := by
  refine lc_tup (K := K) (a := a) (xs := us.map enc) (Inv9 H1 D out Rel us) (inv9_0 hD) (fun i H' _ z => same_seqT z.1 hsq) (fun i x H' hi z => ?_) (fun H' z => ?_)
  · rw [List.getElem?_map] at hi
    cases eu : us[i]? with
    | none => rw [eu] at hi; cases hi
    | some u =>
      rw [eu] at hi
      have ex : enc u = x := Option.some.inj hi
      rw [← ex]
      exact inv9_turn st hD hz hs eu z
  · obtain ⟨sb, ys, hD', _, hp⟩ := z
    rw [List.length_map, List.take_length] at hp
    exact hd H' ys sb hD' hp
theorem lc_genL {out : α → Option β} {Rel : β → V → Hp → Prop} (st : ∀ b v H H', TupStay H H' → Rel b v H → Rel b v H') (hD : H1 D = none) (hsq : SqL K H1 a (us.map enc)) (hz : us.length ≤ 9000) (hs : Turn H1 out Rel enc us g tt te vs σ)
    (hd : ∀ H' ys, Same H1 H' → H' D = some (.lst ys) → Paired (fun v b => Rel b v H') ys (us.filterMap out) → Qd H') :
    ∃ W : Nat → Nat → Hp → Prop, (∃ m, W 0 m (upd H1 D (.lst []))) ∧ ∀ i m H, W i m H →
      ((Itl K a).stop i H ∧ Qd H) ∨ ((Itl K a).go i H ∧ ∃ Nx : Hp → Prop, (∀ H', Nx H' → ∃ m', m' < m ∧ W (i + 1) m' H') ∧ ∀ x H', (Itl K a).yld i H x H' → g x (wipe σ vs) H' fun σ2 H2 => wipe σ2 vs = wipe σ vs ∧ tt σ2 H2 fun b H3 =>
        if b = true then te σ2 H3 fun y H4 => ∃ acc, H4 D = some (.lst acc) ∧ acc.length < sizeLine ∧ Nx (upd H4 D (.lst (acc ++ [y]))) else Nx H3) := by
  refine lc_list (K := K) (a := a) (xs := us.map enc) (Inv9 H1 D out Rel us) (inv9_0 hD) (fun i H' _ z => z.1.seq hsq) (fun i x H' hi z => ?_) (fun H' z => ?_)
  · rw [List.getElem?_map] at hi
    cases eu : us[i]? with
    | none => rw [eu] at hi; cases hi
    | some u =>
      rw [eu] at hi
      have ex : enc u = x := Option.some.inj hi
      rw [← ex]
      exact inv9_turn st hD hz hs eu z
  · obtain ⟨sb, ys, hD', _, hp⟩ := z
    rw [List.length_map, List.take_length] at hp
    exact hd H' ys sb hD' hp
end
/-- what is made is a value -/
def IsV (b v : V) (_ : Hp) : Prop := v = b
theorem isv_st : ∀ (b v : V) (H H' : Hp), TupStay H H' → IsV b v H → IsV b v H' := fun _ _ _ _ _ h => h
theorem isv_all : ∀ {ys zs : List V} {H : Hp}, Paired (fun v b => IsV b v H) ys zs → ys = zs
  | _, _, _, .nil => rfl
  | _, _, _, .cons (h : _ = _) t => by rw [h, isv_all t]
/-- what is made is a pair of ints -/
def IsP (b : Int × Int) (v : V) (H : Hp) : Prop := ∃ a, v = .ref a ∧ H a = some (.tup [.int b.1, .int b.2])
theorem isp_st : ∀ (b : Int × Int) (v : V) (H H' : Hp), TupStay H H' → IsP b v H → IsP b v H' := fun _ _ _ _ s ⟨a, e, h⟩ => ⟨a, e, s _ _ h⟩
theorem isp_all : ∀ {ys : List V} {qs : List (Int × Int)} {H : Hp}, Paired (fun v b => IsP b v H) ys qs → ∃ as : List Addr, ys = as.map V.ref ∧ Paired (fun a (q : Int × Int) => H a = some (.tup [.int q.1, .int q.2])) as qs
  | _, _, _, .nil => ⟨[], rfl, .nil⟩
  | _, _, _, .cons h t => by
    obtain ⟨as, e, p⟩ := isp_all t
    obtain ⟨a, ea, ha⟩ := h
    exact ⟨a :: as, by rw [List.map_cons, ea, e], .cons ha p⟩
/-- the places of a picture's pairs beside the pairs -/
theorem zip_fst : ∀ {as : List Addr} {ls : List (Int × Int)}, as.length = ls.length → (as.zip ls).map (fun p => V.ref p.1) = as.map V.ref
  | [], [], _ => rfl
  | [], _ :: _, h => by cases h
  | _ :: _, [], h => by cases h
  | a :: as, q :: ls, h => by
    rw [List.zip_cons_cons, List.map_cons, List.map_cons, zip_fst (Nat.succ.inj h)]
theorem zip_out {β : Type} (out : Int × Int → Option β) : ∀ {as : List Addr} {ls : List (Int × Int)}, as.length = ls.length → (as.zip ls).filterMap (fun p => out p.2) = ls.filterMap out
  | [], [], _ => rfl
  | [], _ :: _, h => by cases h
  | _ :: _, [], h => by cases h
  | a :: as, q :: ls, h => by
    rw [List.zip_cons_cons]
    simp only [List.filterMap_cons]
    rw [zip_out out (Nat.succ.inj h)]
theorem zip_at {as : List Addr} {ls : List (Int × Int)} {i : Nat} {p : Addr × (Int × Int)} (h : (as.zip ls)[i]? = some p) : as[i]? = some p.1 ∧ ls[i]? = some p.2 := by
  rw [List.getElem?_zip_eq_some] at h
  exact h
end Lamp
set_option Elab.async false
set_option linter.all false
set_option maxRecDepth 100000
set_option maxHeartbeats 1000000
namespace Lamp
/-! how often a lamp counts at a distance; sums of levels there -/
def doings (e n d : Int) : Int := if e = 0 then (if d = 0 then n else 0) else if d.fmod e = 0 then (if 0 ≤ d.fdiv e ∧ d.fdiv e < n then 1 else if n ≤ d.fdiv e ∧ d.fdiv e < 0 then -1 else 0) else 0
def after (lv : Int) (ls : List (Int × Int)) (e n p : Int) : Int := (ls.map fun q => q.2 * doings e n (p - q.1)).sum % lv
/-- a lamp's part as the law counts it, for no number below 0 -/
def counts (e n p : Int) (q : Int × Int) : Int := if e = 0 then n * q.2 * (if q.1 = p then 1 else 0) else if (p - q.1) % (if e < 0 then -e else e) = 0 ∧ 0 ≤ (p - q.1).fdiv e ∧ (p - q.1).fdiv e < n then q.2 else 0
def undo (lv e : Int) (ls : List (Int × Int)) : List (Int × Int) := ls.map fun q => (q.1 - e, lv - q.2)
theorem fmod_abs {d e : Int} (h : e ≠ 0) : d.fmod e = 0 ↔ d % (if e < 0 then -e else e) = 0 := by
  rw [← Int.dvd_iff_fmod_eq_zero, ← Int.dvd_iff_emod_eq_zero]
  split
  · rw [Int.neg_dvd]
  · exact Iff.rfl
theorem counts_eq {e n p : Int} (hn : 0 ≤ n) (q : Int × Int) : counts e n p q = q.2 * doings e n (p - q.1) := by
  unfold counts doings
  by_cases he : e = 0
  · rw [if_pos he, if_pos he]
    by_cases hp : q.1 = p
    · rw [if_pos hp, if_pos (by omega), Int.mul_one, Int.mul_comm]
    · rw [if_neg hp, if_neg (by omega), Int.mul_zero, Int.mul_zero]
  · rw [if_neg he, if_neg he]
    by_cases hm : (p - q.1).fmod e = 0
    · have hm' := (fmod_abs he).mp hm
      rw [if_pos hm]
      by_cases h1 : 0 ≤ (p - q.1).fdiv e ∧ (p - q.1).fdiv e < n
      · rw [if_pos ⟨hm', h1⟩, if_pos h1, Int.mul_one]
      · rw [if_neg (fun z => h1 z.2), if_neg h1, if_neg (fun z => by omega), Int.mul_zero]
    · rw [if_neg hm, if_neg (fun z => hm ((fmod_abs he).mpr z.1)), Int.mul_zero]
theorem undo_doings {e n d : Int} : doings (-e) (-n) (d + e) = - doings e n d := by
  unfold doings
  by_cases he : e = 0
  · subst he
    rw [if_pos (by decide), if_pos rfl]
    by_cases hd : d = 0
    · rw [if_pos (by omega), if_pos hd]
    · rw [if_neg (by omega), if_neg hd]
      rfl
  · rw [if_neg (by omega), if_neg he]
    by_cases hm : d.fmod e = 0
    · obtain ⟨k, hk⟩ := Int.dvd_of_fmod_eq_zero hm
      subst hk
      have e1 : e * k + e = (-e) * (-(k + 1)) := by rw [Int.neg_mul_neg, Int.mul_add, Int.mul_one]
      have q1 : (e * k).fdiv e = k := Int.mul_fdiv_cancel_left _ he
      have q2 : (e * k + e).fdiv (-e) = -(k + 1) := by rw [e1]; exact Int.mul_fdiv_cancel_left _ (by omega)
      have m2 : (e * k + e).fmod (-e) = 0 := by rw [e1]; exact Int.mul_fmod_right _ _
      rw [if_pos hm, if_pos m2, q1, q2]
      by_cases h1 : 0 ≤ k ∧ k < n
      · rw [if_pos h1, if_neg (by omega), if_pos (by omega)]
      · rw [if_neg h1]
        by_cases h2 : n ≤ k ∧ k < 0
        · rw [if_pos h2, if_pos (by omega)]
          rfl
        · rw [if_neg h2, if_neg (by omega), if_neg (by omega)]
          rfl
    · rw [if_neg hm, if_neg ?_]
      · rfl
      · intro z
        apply hm
        have h1 : -e ∣ d + e := Int.dvd_of_fmod_eq_zero z
        rw [Int.neg_dvd] at h1
        have h2 : e ∣ d := (Int.dvd_add_left (Int.dvd_refl e)).mp h1
        exact Int.fmod_eq_zero_of_dvd h2
theorem sum_mod {lv : Int} : ∀ {ls : List (Int × Int)} {f g : Int × Int → Int}, (∀ q ∈ ls, f q % lv = g q % lv) → (ls.map f).sum % lv = (ls.map g).sum % lv
  | [], _, _, _ => rfl
  | q :: ls, f, g, h => by
    rw [List.map_cons, List.map_cons, List.sum_cons, List.sum_cons, Int.add_emod, h q (List.mem_cons_self ..), sum_mod (ls := ls) (fun r hr => h r (List.mem_cons_of_mem _ hr)), ← Int.add_emod]
theorem after_counts {lv : Int} {ls : List (Int × Int)} {e n p : Int} (hn : 0 ≤ n) : (ls.map (counts e n p)).sum % lv = after lv ls e n p := sum_mod fun q _ => by rw [counts_eq hn]
theorem after_undo {lv : Int} {ls : List (Int × Int)} {e n p : Int} (hn : n < 0) : ((undo lv e ls).map (counts (0 - e) (0 - n) p)).sum % lv = after lv ls e n p := by
  rw [after_counts (by omega)]
  unfold after undo
  rw [List.map_map]
  refine sum_mod fun q _ => ?_
  show ((lv - q.2) * doings (0 - e) (0 - n) (p - (q.1 - e))) % lv = _
  rw [show (0 : Int) - e = -e by omega, show (0 : Int) - n = -n by omega, show p - (q.1 - e) = (p - q.1) + e by omega, undo_doings, Int.sub_mul, Int.mul_neg q.2, Int.sub_neg, Int.add_emod, Int.mul_emod_right, Int.zero_add, Int.emod_emod_of_dvd _ (Int.dvd_refl _)]
theorem doings_0 (e d : Int) : doings e 0 d = 0 := by
  unfold doings
  split
  · split <;> rfl
  · split
    · rw [if_neg (by omega), if_neg (by omega)]
    · rfl
theorem doings_1 (e d : Int) : doings e 1 d = if d = 0 then 1 else 0 := by
  unfold doings
  by_cases he : e = 0
  · rw [if_pos he]
  · rw [if_neg he]
    by_cases hd : d = 0
    · subst hd
      rw [if_pos rfl, if_pos (Int.zero_fmod e), Int.zero_fdiv, if_pos (by omega)]
    · rw [if_neg hd]
      by_cases hm : d.fmod e = 0
      · obtain ⟨k, rfl⟩ := Int.dvd_of_fmod_eq_zero hm
        rw [if_pos hm, Int.mul_fdiv_cancel_left _ he]
        have : k ≠ 0 := fun z => hd (by rw [z, Int.mul_zero])
        rw [if_neg (by omega), if_neg (by omega)]
      · rw [if_neg hm]
theorem after_0 {lv : Int} {ls : List (Int × Int)} {e p : Int} : after lv ls e 0 p = 0 := by
  unfold after
  rw [show (ls.map fun q => q.2 * doings e 0 (p - q.1)) = ls.map fun _ => (0 : Int) from List.map_congr_left fun q _ => by rw [doings_0, Int.mul_zero]]
  have : ∀ ls : List (Int × Int), (ls.map fun _ => (0 : Int)).sum = 0 := fun ls => by
    induction ls with
    | nil => rfl
    | cons q ls ih => rw [List.map_cons, List.sum_cons, ih]; rfl
  rw [this]
  exact Int.zero_emod lv
/-- the level that a picture tells of a place -/
def levelAt : List (Int × Int) → Int → Int
  | [], _ => 0
  | q :: ls, p => if q.1 = p then q.2 else levelAt ls p
theorem levelAt_cons (q : Int × Int) (ls : List (Int × Int)) (p : Int) : levelAt (q :: ls) p = if q.1 = p then q.2 else levelAt ls p := rfl
theorem level_out {p : Int} : ∀ {ls : List (Int × Int)}, p ∉ ls.map (·.1) → levelAt ls p = 0
  | [], _ => rfl
  | q :: ls, h => by
    rw [levelAt_cons, if_neg (fun z => h (by rw [List.map_cons, z]; exact List.mem_cons_self ..)), level_out fun z => h (by rw [List.map_cons]; exact List.mem_cons_of_mem _ z)]
theorem sum_level {e p : Int} : ∀ {ls : List (Int × Int)}, (ls.map (·.1)).Nodup → (ls.map fun q => q.2 * doings e 1 (p - q.1)).sum = levelAt ls p
  | [], _ => rfl
  | q :: ls, h => by
    rw [List.map_cons] at h
    cases h with
    | cons h1 h2 =>
      rw [List.map_cons, List.sum_cons, sum_level h2, doings_1]
      rw [levelAt_cons]
      by_cases hq : q.1 = p
      · rw [if_pos hq, if_pos (by omega), Int.mul_one]
        have : levelAt ls p = 0 := level_out fun z => h1 p z hq
        rw [this, Int.add_zero]
      · rw [if_neg hq, if_neg (by omega), Int.mul_zero, Int.zero_add]
theorem level_in {p : Int} : ∀ {ls : List (Int × Int)}, levelAt ls p = 0 ∨ (p, levelAt ls p) ∈ ls
  | [] => .inl rfl
  | q :: ls => by
    rw [levelAt_cons]
    by_cases hq : q.1 = p
    · rw [if_pos hq, ← hq]
      exact .inr (List.mem_cons_self ..)
    · rw [if_neg hq]
      rcases level_in (p := p) (ls := ls) with z | z
      · exact .inl z
      · exact .inr (List.mem_cons_of_mem _ z)
theorem after_1 {lv : Int} {ls : List (Int × Int)} {e p : Int} (nd : (ls.map (·.1)).Nodup) (h : ∀ q ∈ ls, 1 ≤ q.2 ∧ q.2 < lv) (h0 : 0 < lv) : after lv ls e 1 p = levelAt ls p := by
  unfold after
  rw [sum_level nd]
  rcases level_in (p := p) (ls := ls) with z | z
  · rw [z]; exact Int.zero_emod lv
  · have := h _ z
    exact Int.emod_eq_of_lt (by omega) this.2
theorem after_range {lv : Int} {ls : List (Int × Int)} {e n p : Int} (h0 : 0 < lv) : 0 ≤ after lv ls e n p ∧ after lv ls e n p < lv := ⟨Int.emod_nonneg _ (by omega), Int.emod_lt_of_pos _ h0⟩
end Lamp
set_option Elab.async false
set_option linter.all false
set_option maxRecDepth 100000
set_option maxHeartbeats 1000000
namespace Lamp
/-! pictures, told by the levels of all places -/
def sumAt (ls : List (Int × Int)) (p : Int) : Int := (ls.map fun q => if q.1 = p then q.2 else 0).sum
theorem sumAt_nil (p : Int) : sumAt [] p = 0 := rfl
theorem sumAt_cons (q : Int × Int) (ls : List (Int × Int)) (p : Int) : sumAt (q :: ls) p = (if q.1 = p then q.2 else 0) + sumAt ls p := by unfold sumAt; rw [List.map_cons, List.sum_cons]
theorem sumAt_app (ls ms : List (Int × Int)) (p : Int) : sumAt (ls ++ ms) p = sumAt ls p + sumAt ms p := by unfold sumAt; rw [List.map_append, List.sum_append]
theorem sum_out {p : Int} : ∀ {ls : List (Int × Int)}, p ∉ ls.map (·.1) → sumAt ls p = 0
  | [], _ => rfl
  | q :: ls, h => by
    rw [sumAt_cons, if_neg (fun z => h (by rw [List.map_cons, z]; exact List.mem_cons_self ..)), sum_out fun z => h (by rw [List.map_cons]; exact List.mem_cons_of_mem _ z)]
    rfl
theorem sum_levelAt {p : Int} : ∀ {ls : List (Int × Int)}, (ls.map (·.1)).Nodup → sumAt ls p = levelAt ls p
  | [], _ => rfl
  | q :: ls, h => by
    rw [List.map_cons] at h
    cases h with
    | cons h1 h2 =>
      rw [sumAt_cons, levelAt_cons]
      by_cases hq : q.1 = p
      · rw [if_pos hq, if_pos hq, sum_out fun z => h1 p z hq, Int.add_zero]
      · rw [if_neg hq, if_neg hq, Int.zero_add, sum_levelAt h2]
/-- a picture: places ascending, levels from 1 to lv - 1 -/
structure Rising (lv : Int) (ls : List (Int × Int)) : Prop where
  asc : (ls.map (·.1)).Pairwise (· < ·)
  lv : ∀ q ∈ ls, 1 ≤ q.2 ∧ q.2 < lv
theorem Rising.nd {lv : Int} {ls : List (Int × Int)} (h : Rising lv ls) : (ls.map (·.1)).Nodup := h.asc.imp fun z => Int.ne_of_lt z
theorem Rising.tail {lv : Int} {q : Int × Int} {ls : List (Int × Int)} (h : Rising lv (q :: ls)) : Rising lv ls := by
  have a := h.asc
  rw [List.map_cons] at a
  cases a with
  | cons _ a2 => exact ⟨a2, fun r hr => h.lv r (List.mem_cons_of_mem _ hr)⟩
theorem Rising.head {lv : Int} {q : Int × Int} {ls : List (Int × Int)} (h : Rising lv (q :: ls)) : ∀ r ∈ ls, q.1 < r.1 := by
  have a := h.asc
  rw [List.map_cons] at a
  cases a with
  | cons a1 _ => exact fun r hr => a1 _ (List.mem_map.mpr ⟨r, hr, rfl⟩)
theorem Rising.range {lv : Int} {ls : List (Int × Int)} (h : Rising lv ls) (h0 : 0 < lv) (p : Int) : 0 ≤ sumAt ls p ∧ sumAt ls p < lv := by
  rw [sum_levelAt h.nd]
  rcases level_in (p := p) (ls := ls) with z | z
  · rw [z]; omega
  · have := h.lv _ z
    exact ⟨by omega, this.2⟩
theorem Rising.before {lv : Int} {q : Int × Int} {ls : List (Int × Int)} (h : Rising lv (q :: ls)) {p : Int} (hp : p ≤ q.1) : sumAt ls p = 0 := sum_out fun z => by
  obtain ⟨r, hr, e⟩ := List.mem_map.mp z
  have := h.head r hr
  omega
theorem Rising.at0 {lv : Int} {q : Int × Int} {ls : List (Int × Int)} (h : Rising lv (q :: ls)) : sumAt (q :: ls) q.1 = q.2 := by
  rw [sumAt_cons, if_pos rfl, h.before (Int.le_refl _), Int.add_zero]
/-- the levels of all places tell the picture -/
theorem Rising.ext {lv : Int} : ∀ {ls ms : List (Int × Int)}, Rising lv ls → Rising lv ms → (∀ p, sumAt ls p = sumAt ms p) → ls = ms
  | [], [], _, _, _ => rfl
  | [], r :: ms, _, h2, e => by
    have z := e r.1
    rw [h2.at0, sumAt_nil] at z
    have := h2.lv r (List.mem_cons_self ..)
    omega
  | q :: ls, [], h1, _, e => by
    have z := e q.1
    rw [h1.at0, sumAt_nil] at z
    have := h1.lv q (List.mem_cons_self ..)
    omega
  | q :: ls, r :: ms, h1, h2, e => by
    have a1 := h1.lv q (List.mem_cons_self ..)
    have a2 := h2.lv r (List.mem_cons_self ..)
    have hpl : q.1 = r.1 := by
      by_cases lt : q.1 < r.1
      · have z := e q.1
        rw [h1.at0, sumAt_cons, if_neg (by omega), h2.before (by omega)] at z
        omega
      · by_cases gt : r.1 < q.1
        · have z := e r.1
          rw [h2.at0, sumAt_cons, if_neg (by omega), h1.before (by omega)] at z
          omega
        · omega
    have hlv : q.2 = r.2 := by
      have z := e q.1
      rw [h1.at0, hpl, h2.at0] at z
      exact z
    have hq : q = r := Prod.ext hpl hlv
    subst hq
    rw [Rising.ext h1.tail h2.tail fun p => by
      have z := e p
      rw [sumAt_cons, sumAt_cons] at z
      omega]
theorem Rising.mem {lv : Int} {ls : List (Int × Int)} (h : Rising lv ls) {q : Int × Int} (hq : q ∈ ls) : sumAt ls q.1 = q.2 := by
  rw [sum_levelAt h.nd]
  have nd := h.nd
  clear h
  induction ls with
  | nil => cases hq
  | cons r ls ih =>
    rw [List.map_cons] at nd
    cases nd with
    | cons n1 n2 =>
      rw [levelAt_cons]
      rcases List.mem_cons.mp hq with e | e
      · rw [e, if_pos rfl]
      · rw [if_neg (fun z => n1 _ (List.mem_map.mpr ⟨q, e, rfl⟩) z)]
        exact ih e n2
theorem sum_mem {ls : List (Int × Int)} {p : Int} (h : sumAt ls p ≠ 0) : ∃ q ∈ ls, q.1 = p := by
  by_cases z : p ∈ ls.map (·.1)
  · obtain ⟨q, hq, e⟩ := List.mem_map.mp z
    exact ⟨q, hq, e⟩
  · exact absurd (sum_out z) h
/-! a part of a sum: a picture, moved and multiplied -/
structure Part where
  ls : List (Int × Int)
  mv : Int
  tm : Int
def partAt (x : Part) (p : Int) : Int := x.tm * sumAt x.ls (p - x.mv)
def partsAt (xs : List Part) (p : Int) : Int := (xs.map fun x => partAt x p).sum
def partsLen (xs : List Part) : Nat := (xs.map fun x => x.ls.length).sum
theorem partsAt_app (xs ys : List Part) (p : Int) : partsAt (xs ++ ys) p = partsAt xs p + partsAt ys p := by unfold partsAt; rw [List.map_append, List.sum_append]
theorem partsAt_one (x : Part) (p : Int) : partsAt [x] p = partAt x p := by unfold partsAt; rw [List.map_cons, List.map_nil, List.sum_cons, List.sum_nil, Int.add_zero]
theorem partsLen_take {xs : List Part} {i : Nat} {x : Part} (h : xs[i]? = some x) : partsLen (xs.take i) + x.ls.length ≤ partsLen xs := by
  obtain ⟨li, e⟩ := List.getElem?_eq_some_iff.mp h
  have a : partsLen xs = partsLen (xs.take (i + 1)) + partsLen (xs.drop (i + 1)) := by
    unfold partsLen
    rw [← List.sum_append, ← List.map_append, List.take_append_drop]
  have b : partsLen (xs.take (i + 1)) = partsLen (xs.take i) + x.ls.length := by
    unfold partsLen
    rw [List.take_add_one, h, List.map_append, List.sum_append]
    show _ + ([x].map fun x => x.ls.length).sum = _
    rw [List.map_cons, List.map_nil, List.sum_cons, List.sum_nil, Nat.add_zero]
  omega
/-- what a chart tells: the levels other than 0, by ascending places -/
def tidy (lv : Int) (F : Int → Int) (ns : List Int) : List (Int × Int) := ns.filterMap fun n => if F n % lv = 0 then none else some (n, F n % lv)
theorem tidy_mem {lv : Int} {F : Int → Int} {ns : List Int} {q : Int × Int} (h : q ∈ tidy lv F ns) : q.1 ∈ ns ∧ q.2 = F q.1 % lv ∧ F q.1 % lv ≠ 0 := by
  unfold tidy at h
  obtain ⟨n, hn, e⟩ := List.mem_filterMap.mp h
  by_cases z : F n % lv = 0
  · rw [if_pos z] at e; cases e
  · rw [if_neg z] at e
    have e' := Option.some.inj e
    subst e'
    exact ⟨hn, rfl, z⟩
theorem tidy_asc {lv : Int} (h0 : 0 < lv) {F : Int → Int} : ∀ {ns : List Int}, ns.Pairwise (· < ·) → Rising lv (tidy lv F ns)
  | [], _ => ⟨.nil, fun q h => (nomatch h)⟩
  | n :: ns, h => by
    cases h with
    | cons h1 h2 =>
      have ih := tidy_asc h0 (F := F) h2
      unfold tidy
      rw [List.filterMap_cons]
      by_cases z : F n % lv = 0
      · rw [if_pos z]
        exact ih
      · rw [if_neg z]
        refine ⟨?_, fun q hq => ?_⟩
        · show ((n, F n % lv) :: tidy lv F ns).map (·.1) |>.Pairwise (· < ·)
          rw [List.map_cons]
          exact .cons (fun p hp => by
            obtain ⟨q, hq, e⟩ := List.mem_map.mp hp
            rw [← e]
            exact h1 _ (tidy_mem hq).1) ih.asc
        · rcases List.mem_cons.mp hq with e | e
          · subst e
            have a := Int.emod_nonneg (F n) (show lv ≠ 0 by omega)
            have b := Int.emod_lt_of_pos (F n) h0
            exact ⟨by show 1 ≤ F n % lv; omega, b⟩
          · exact ih.lv q e
theorem tidy_at {lv : Int} {F : Int → Int} (p : Int) : ∀ {ns : List Int}, ns.Nodup → sumAt (tidy lv F ns) p = if p ∈ ns then F p % lv else 0
  | [], _ => rfl
  | n :: ns, h => by
    cases h with
    | cons h1 h2 =>
      have ih := tidy_at (lv := lv) (F := F) p h2
      unfold tidy
      rw [List.filterMap_cons]
      by_cases z : F n % lv = 0
      · rw [if_pos z]
        show sumAt (tidy lv F ns) p = _
        rw [ih]
        by_cases e : p = n
        · subst e
          rw [if_neg (fun hp => h1 p hp rfl), if_pos (List.mem_cons_self ..), z]
        · by_cases hp : p ∈ ns
          · rw [if_pos hp, if_pos (List.mem_cons_of_mem _ hp)]
          · rw [if_neg hp, if_neg (fun k => (List.mem_cons.mp k).elim e hp)]
      · rw [if_neg z]
        show sumAt ((n, F n % lv) :: tidy lv F ns) p = _
        rw [sumAt_cons, ih]
        by_cases e : p = n
        · subst e
          rw [if_pos rfl, if_neg (fun hp => h1 p hp rfl), if_pos (List.mem_cons_self ..), Int.add_zero]
        · rw [if_neg (fun k => e k.symm), Int.zero_add]
          by_cases hp : p ∈ ns
          · rw [if_pos hp, if_pos (List.mem_cons_of_mem _ hp)]
          · rw [if_neg hp, if_neg (fun k => (List.mem_cons.mp k).elim e hp)]
theorem tidy_len {lv : Int} {F : Int → Int} (ns : List Int) : (tidy lv F ns).length ≤ ns.length := List.length_filterMap_le _ _
theorem level_key {cs : List (Int × Int)} {p : Int} (h : p ∉ cs.map (·.1)) : levelAt cs p = 0 := level_out h
end Lamp
set_option Elab.async false
set_option linter.all false
set_option maxRecDepth 100000
set_option maxHeartbeats 1000000
namespace Lamp
open PySem PySem.Spec PyProof.Rows L2
/-! == and != of two instances by an own __eq__ -/
structure EqO (P : Program) (w : World) (K : PySem.W.Frag) (mg : Str → Option Value) (base : Heap) (C : Addr) (sp : Sp) (k : Nat) : Prop where
  ex : ∃ (f : Addr) (fd : FuncData), PySem.W.findIn K (.ref C) "__eq__" = some (some (.ref f)) ∧ PySem.W.isFn K (.ref f) = true ∧ FnOk P w K mg base CX0 k f fd ["self", "other"] sp ∧ Binds K fd ["self", "other"] []
  ne : PySem.W.findIn K (.ref C) "__ne__" = some (some (.builtin "object.__ne__"))
  mro : PySem.W.mroIn K C (.type "object") = some true
def rOwn2 (C : Addr) (sp : Sp) (neg : Bool) : R2 := fun x y H Q => ∃ (a b dx dy : Addr) (fs gs : List (Str × V)), x = .ref a ∧ y = .ref b ∧ H a = some (.ins C dx fs) ∧ H b = some (.ins C dy gs) ∧ sp [.ref a, .ref b] H (fun v H' => ∃ k, v = .bl k ∧ Q (.bl (if neg then !k else k)) H') E0
section
variable {X : Cx} {pins : List (Addr × Obj)} {σ : L2.St} {H : Hp} {s : Shared} {Q : VK} {a b f C : Addr} {k : Nat} {sp : Sp} {fd : FuncData} {A' : Around}
theorem run_two (F : FnOk X.prog X.w X.K X.mg X.base CX0 k f fd ["self", "other"] sp) (hr : Room k A') (hf : A'.frames = X.A.frames) (hb : Binds X.K fd ["self", "other"] []) (I : Inv X pins σ H s) (h : sp [.ref a, .ref b] H Q E0) :
    wpAny (model X.prog X.w) A' (call (.ref f) [.ref a, .ref b]) (EP X pins σ Q) X.xe s := by
  have e0 := I.env0
  have e1 : Env0 X.prog X.w X.K X.mg X.base A' X.stack s H := ⟨hf.trans e0.frames, e0.mod, e0.bs, e0.bsz, e0.funs, e0.frf, e0.hok, e0.bare⟩
  have bb := hb s [.ref a, .ref b] I.kIn rfl
  refine wpAny_call (codeAny_mono (F.run A' X.stack s H ⟨[.ref a, .ref b], []⟩ [.ref a, .ref b] [.ref a, .ref b] Q E0 hr e1 bb (.cons (show RelV (V.ref a) (Value.ref a) from rfl) (.cons (show RelV (V.ref b) (Value.ref b) from rfl) .nil)) h) fun res s' told => ?_)
  match res, told with
  | .error _, told => exact False.elim told
  | .ok (.ret u), told => exact I.after told
  | .ok .next, told => exact False.elim told
  | .ok .brk, told => exact False.elim told
  | .ok .cont, told => exact False.elim told
end
section
variable {X : Cx} {C : Addr} {sp : Sp} {k : Nat}
theorem op_eqO (Z : EqO X.prog X.w X.K X.mg X.base C sp k) (hr : Room k X.A) : OpR X (compareOp .Eq) (rOwn2 C sp false) := by
  intro pins s σ H x y v u Q I rx ry h
  obtain ⟨a, b, dx, dy, fs, gs, rfl, rfl, ha, hb, hs⟩ := h
  obtain ⟨f, fd, h1, h2, F, bb⟩ := Z.ex
  cases rx
  cases ry
  obtain ⟨od, J⟩ := ins_inst I ha
  obtain ⟨od', J'⟩ := ins_inst I hb
  obtain ⟨m, fr⟩ := I.fr
  unfold compareOp
  refine PySem.W.cmp_K (op := .Eq) (tb := .ref C) hr.units0 fr I.ok.mod.kin J J'.type (by simp [PySem.W.notFirst]) h1 h2 (wpAny_mono (run_two F hr rfl bb I hs) (fun r s' told => ?_) fun _ _ z => z)
  obtain ⟨v, H1, I1, rv, ⟨n, ev, q⟩⟩ := told
  subst ev
  have eu : r = Value.bool n := rv
  subst eu
  exact ⟨.bl n, H1, I1, rfl, q⟩
end
section
variable {M : Model} {prog : Program} {w : World} {A : Around} {E : Value → Shared → Prop} {s : Shared} {K : PySem.W.Frag} {x y C f : Addr} {ox : Obj} {od : Option Obj}
theorem ne_bound {args : List Value} {Q : Option Value → Shared → Prop} (X : K.In s.heap) (I : PySem.W.InstAt s.heap x ox C od) (hs : PySem.W.findIn K (.ref C) "__ne__" = some (some (.builtin "object.__ne__")))
    (h : wpAny M A (call (.builtin "object.__ne__") (.ref x :: args)) (fun v => Q (some v)) E s) : wpAny M A (callSpecialIfBound? (.ref x) "__ne__" args) Q E s := by
  have done : wpAny M A (call (.builtin "object.__ne__") ([.ref x] ++ args) >>= fun v => pure (some v)) Q E s := wpAny_bind (wpAny_mono h (fun v s' h' => wpAny_pure h') fun _ _ h' => h')
  simp only [callSpecialIfBound?, bindSpecialIfBound?]
  refine wpAny_holding (wpAny_bind (wpAny_bind (wpAny_bind (I.type.here ((PySem.W.looks_findIn X hs).here ?_)))))
  refine wpAny_bind (wpAny_askSetting (wpAny_ite ?_))
  split
  · exact wpAny_bind (wpAny_of_eq (F.cmp_object.ne.bind _) (wpAny_pure (by exact done)))
  · exact wpAny_tryCatch (wpAny_bind (wpAny_of_eq (F.cmp_object.ne.bind _) (wpAny_pure (by exact done))))
theorem ne_entry {Q : Fin → Shared → Prop} (X : K.In s.heap) (I : PySem.W.InstAt s.heap x ox C od) (hu : A.units < cLine) (h1 : PySem.W.findIn K (.ref C) "__eq__" = some (some (.ref f))) (h2 : PySem.W.isFn K (.ref f) = true)
    (h : wpAny (model prog w) A (call (.ref f) [.ref x, .ref y]) (fun v s' => ∃ b, v = .bool b ∧ Q (.done (.ret (.bool (!b)))) s') E s) :
    wpAny (model prog w) A (Builtin.«object.__ne__» ⟨[.ref x, .ref y], []⟩) Q E s := by
  unfold Builtin.«object.__ne__»
  repeat (first
    | with_reducible refine wpAny_cRoomFor hu ?_
    | (refine wpAny_bind (m := callSpecialIfBound? (.ref x) (Str.ofString "__eq__") [.ref y])
        (PySem.W.ifBound_K X I h1 h2 (wpAny_mono h (fun r s' hr => by
          obtain ⟨b, rfl, hq⟩ := hr
          repeat (first | exact hq | exact wpAny_pure hq | exact wpAny_truthy_bool hq | (refine wpAny_bind (m := truthy (.bool _)) (wpAny_truthy_bool ?_)) | wp_step)) fun _ _ e => e)))
    | wp_step)
theorem ne_call {Q : Value → Shared → Prop} (X : K.In s.heap) (I : PySem.W.InstAt s.heap x ox C od) (hm : PySem.W.mroIn K C (.type "object") = some true) (hu : A.in1.units < cLine) (h1 : PySem.W.findIn K (.ref C) "__eq__" = some (some (.ref f))) (h2 : PySem.W.isFn K (.ref f) = true)
    (h : wpAny (model prog w) A.in1 (call (.ref f) [.ref x, .ref y]) (fun v s' => ∃ b, v = .bool b ∧ Q (.bool (!b)) s') E s) :
    wpAny (model prog w) A (call (.builtin "object.__ne__") [.ref x, .ref y]) Q E s := by
  refine wpAny_call (codeAny_call_builtin F.cmp_object.ne.plain F.cmpEntry_ne (PySem.W.check_slot F.cmpKind_ne F.cmpSplit_ne (I.type.andThen (PySem.W.looks_mroIn X hm)) (F.cmpArgs_ne _ _) (ne_entry (A := A.in1) X I hu h1 h2 (wpAny_mono h (fun v s' told => ?_) fun _ _ e => e))))
  obtain ⟨b, rfl, hq⟩ := told
  exact ⟨b, rfl, hq⟩
end
section
variable {X : Cx} {C : Addr} {sp : Sp} {k : Nat}
theorem op_neO (Z : EqO X.prog X.w X.K X.mg X.base C sp k) (hr : Room (k + 1) X.A) : OpR X (compareOp .NotEq) (rOwn2 C sp true) := by
  intro pins s σ H x y v u Q I rx ry h
  obtain ⟨a, b, dx, dy, fs, gs, rfl, rfl, ha, hb, hs⟩ := h
  obtain ⟨f, fd, h1, h2, F, bb⟩ := Z.ex
  cases rx
  cases ry
  obtain ⟨od, J⟩ := ins_inst I ha
  obtain ⟨od', J'⟩ := ins_inst I hb
  have main : wpAny (model X.prog X.w) X.A (tryCompare (.ref a) "__ne__" (.ref b)) (fun r s' => ∃ n, r = some (Value.bool n) ∧ EP X pins σ Q (.bool n) s') X.xe s := by
    unfold tryCompare
    refine wpAny_bind (ne_bound I.kIn J Z.ne (ne_call I.kIn J Z.mro hr.in1.units0 h1 h2 (wpAny_mono (run_two F hr.in1 rfl bb I hs) (fun r s' told => ?_) fun _ _ z => z)))
    obtain ⟨v, H1, I1, rv, ⟨n, ev, q⟩⟩ := told
    subst ev
    have eu : r = Value.bool n := rv
    subst eu
    exact ⟨n, rfl, wpAny_pure ⟨!n, rfl, .bl (!n), H1, I1, rfl, q⟩⟩
  unfold compareOp richCompare
  simp only [oneThing_ref]
  refine wpAny_holding (wpAny_bind (wpAny_cRoomFor hr.units0 ?_))
  rw [cmpInfo_NotEq]
  dsimp only
  refine wpAny_bind (J.type.here (wpAny_bind (J'.type.here ?_)))
  rw [show (Value.ref C != Value.ref C) = false from by simp]
  simp only [Bool.false_eq_true, if_false]
  refine wpAny_bind (wpAny_pure ?_)
  simp only [Bool.false_eq_true, if_false]
  refine wpAny_bind (wpAny_mono main (fun r s' told => ?_) fun _ _ z => z)
  obtain ⟨n, rfl, q⟩ := told
  exact wpAny_pure q
end
end Lamp
set_option Elab.async false
set_option linter.all false
set_option maxRecDepth 100000
set_option maxHeartbeats 1000000
namespace Lamp
open PySem PySem.Spec PyProof.Rows L2
abbrev sCkR : Stmt := top 25
abbrev sCkRs : Stmt := top 26
theorem eqv_pairs : ∀ (ls ms : List (Int × Int)), PyData.eqvAll (ls.map pairD) (ms.map pairD) = decide (ls = ms)
  | [], [] => rfl
  | [], _ :: _ => rfl
  | _ :: _, [] => rfl
  | q :: ls, r :: ms => by
    show (PyData.eqv (pairD q) (pairD r) && PyData.eqvAll (ls.map pairD) (ms.map pairD)) = _
    rw [eqv_pairs ls ms]
    show (((q.1 == r.1) && ((q.2 == r.2) && true)) && decide (ls = ms)) = decide (q :: ls = r :: ms)
    rw [Bool.eq_iff_iff]
    simp only [Bool.and_eq_true, beq_iff_eq, decide_eq_true_eq, List.cons.injEq, and_true]
    constructor
    · rintro ⟨⟨a, b⟩, c⟩
      exact ⟨Prod.ext a b, c⟩
    · rintro ⟨a, c⟩
      rw [a]
      exact ⟨⟨rfl, rfl⟩, c⟩
/-- isinstance(x, Round) of a round -/
structure IsR (K : PySem.W.Frag) (C : Addr) : Prop where
  cls : PySem.W.findIn K (.ref C) "__class__" = some (some (.builtin "object.__class__"))
  get : PySem.W.specialIn K (.builtin "object.__class__") "__get__" = some (some (.builtin "getset_descriptor.__get__"))
  tak : PySem.W.takesIn K (.builtin "object.__class__") = some true
  mro : PySem.W.mroIn K C (.type "object") = some true
  kit : PySem.W.kitOne K (.ref C) (.ref C) = some true
section
variable {P : Program} {w : World} {K : PySem.W.Frag} {mg : Str → Option Value} {base : Heap} {C : Addr}
theorem v_isR {σ : L2.St} {H : Hp} {b t : Addr} {lv fin : Int} {te : TE} (R : RCls K C) (S : IsR K C) (h : Val te σ H (.ref b)) (hr : RoundAt C H b lv t fin) : Val (tCB (rIsi K) (tCons te (tCons (tC (.ref C)) tNil))) σ H (.bl true) := by
  obtain ⟨dx, hr⟩ := hr
  exact fun Q q => h _ ⟨_, _, .ref C, .ref C, true, rfl, .own C, .base (.ins hr R.cl S.cls S.get S.tak S.mro), S.kit, q⟩
end
/-- what a round's properties tell -/
structure Ask3 (P : Program) (w : World) (K : PySem.W.Frag) (mg : Str → Option Value) (base : Heap) (C : Addr) : Prop where
  lv : PrR P w K mg base C "levels" (spLevels C) 1
  la : PrR P w K mg base C "lamps" (spLamps C) 1
  en : PrR P w K mg base C "end" (spEnd C) 1
def spCkR (C : Addr) : Sp := fun vs H Q _ => ∃ (a t : Addr) (lv fin : Int), vs = [.ref a] ∧ RoundAt C H a lv t fin ∧ Q .non H
def spCkRs (C : Addr) : Sp := fun vs H Q _ => ∃ (a b t u : Addr) (lv fin fin' : Int), vs = [.ref a, .ref b] ∧ RoundAt C H a lv t fin ∧ RoundAt C H b lv u fin' ∧ Q .non H
section
variable {P : Program} {w : World} {K : PySem.W.Frag} {mg : Str → Option Value} {base : Heap} {C : Addr}
theorem scCkR : FnScope ["value"] ["value"] (defScope sCkR) := ⟨rfl, rfl, rfl, by decide +kernel, rfl, by decide +kernel, by decide +kernel⟩
theorem scCkRs : FnScope ["trip", "second"] ["trip", "second"] (defScope sCkRs) := ⟨rfl, rfl, rfl, by decide +kernel, rfl, by decide +kernel, by decide +kernel⟩
theorem ok_ckR {f : Addr} {fd : FuncData} (F : Fun K "check_round" "check_round" sCkR f fd) (R : RCls K C) (S : IsR K C) (mR : mg "Round" = some (.ref C)) (mis : mg "isinstance" = none) : FnOk P w K mg base CX0 1 f fd ["value"] (spCkR C) := by
  refine F.ok scCkR (fun vs H Q E h => ?_) (fun cdv A outer s H vs Q E hr h => ?_)
  · obtain ⟨a, t, lv, fin, rfl, _⟩ := h
    rfl
  · obtain ⟨a, t, lv, fin, rfl, ha, q⟩ := h
    refine ⟨_, pss_one (ps_if (pt_not (pt_val (pe_callB call_isi (by rfl) mis (by decide +kernel) (pa_cons (pv 0) (pa_cons (pe_glob (v := .ref C) rfl mR rfl) pa_nil))))) pss_never pss_nil), ?_⟩
    exact st_no (ans_not (b := true) (ans_val (v_isR R S (val_var rfl) ha))) q
theorem ok_ckRs {f : Addr} {fd : FuncData} (F : Fun K "check_rounds" "check_rounds" sCkRs f fd) (R : RCls K C) (Z : Ask3 P w K mg base C) (Cr : Dr P w K mg base (spCkR C) "check_round" ["value"] 1) : FnOk P w K mg base CX0 3 f fd ["trip", "second"] (spCkRs C) := by
  refine F.ok scCkRs (fun vs H Q E h => ?_) (fun cdv A outer s H vs Q E hr h => ?_)
  · obtain ⟨a, b, t, u, lv, fin, fin', rfl, _⟩ := h
    rfl
  · obtain ⟨a, b, t, u, lv, fin, fin', rfl, ha, hb, q⟩ := h
    refine ⟨_, pss_cons (ps_expr (pe_dr Cr (by decide) hr rfl (pa_cons (pv 0) pa_nil)))
      (pss_cons (ps_expr (pe_dr Cr (by decide) hr rfl (pa_cons (pv 1) pa_nil)))
      (pss_one (ps_if (pt_cmpR op_ne (pe_prR Z.lv R (Nat.le_refl _) hr (pv 1)) (pe_prR Z.lv R (Nat.le_refl _) hr (pv 0)) (nomark _)) pss_never pss_nil))), ?_⟩
    obtain ⟨dx, hA⟩ := id ha
    obtain ⟨dy, hB⟩ := id hb
    refine ⟨_, rfl, a, t, lv, fin, rfl, ha, ?_⟩
    refine ⟨_, rfl, b, u, lv, fin', rfl, hb, ?_⟩
    refine ⟨_, rfl, b, dy, _, rfl, hB, b, u, lv, fin', rfl, hb, ?_⟩
    refine ⟨_, rfl, a, dx, _, rfl, hA, a, t, lv, fin, rfl, ha, rfl, false, ?_, iteF q⟩
    rw [decide_eq_true rfl]
    rfl
end
end Lamp
set_option Elab.async false
set_option linter.all false
set_option maxRecDepth 100000
set_option maxHeartbeats 1000000
namespace Lamp
open PySem PySem.Spec PyProof.Rows L2
abbrev sTotal : Stmt := top 28
/-! charts -/
theorem nodup_put {cs : List (Int × Int)} (h : (cs.map (·.1)).Nodup) (k v : Int) : ((putI cs k v).map (·.1)).Nodup ∧ (putI cs k v).length ≤ cs.length + 1 := by
  unfold putI
  split
  · refine ⟨?_, by rw [List.length_map]; omega⟩
    rw [List.map_map]
    have e : ((fun q : Int × Int => q.1) ∘ fun q => if q.1 = k then (q.1, v) else q) = fun q => q.1 := by
      funext q
      show (if q.1 = k then (q.1, v) else q).1 = q.1
      split <;> rfl
    rw [e]
    exact h
  · rename_i hn
    have hk : k ∉ cs.map (·.1) := fun z => by
      obtain ⟨q, hq, e⟩ := List.mem_map.mp z
      exact hn (List.any_eq_true.mpr ⟨q, hq, decide_eq_true e⟩)
    refine ⟨?_, by rw [List.length_append]; exact Nat.le_refl _⟩
    rw [List.map_append]
    exact List.nodup_append.mpr ⟨h, by simp, fun a ha b hb => by simp at hb; subst hb; exact fun e => hk (e ▸ ha)⟩
theorem level_app {k v p : Int} : ∀ {cs : List (Int × Int)}, k ∉ cs.map (·.1) → levelAt (cs ++ [(k, v)]) p = if p = k then v else levelAt cs p
  | [], _ => by
    show levelAt [(k, v)] p = _
    rw [levelAt_cons]
    by_cases h : p = k
    · rw [if_pos h, if_pos h.symm]
    · rw [if_neg h, if_neg fun z => h z.symm]
  | q :: cs, h => by
    show levelAt (q :: (cs ++ [(k, v)])) p = _
    rw [levelAt_cons, levelAt_cons, level_app fun z => h (by rw [List.map_cons]; exact List.mem_cons_of_mem _ z)]
    by_cases e : q.1 = p
    · rw [if_pos e, if_neg fun z => h (by rw [List.map_cons, ← z, e]; exact List.mem_cons_self ..), if_pos e]
    · rw [if_neg e, if_neg e]
theorem level_set {k v p : Int} : ∀ {cs : List (Int × Int)}, k ∈ cs.map (·.1) → levelAt (cs.map fun q => if q.1 = k then (q.1, v) else q) p = if p = k then v else levelAt cs p
  | q :: cs, h => by
    rw [List.map_cons, levelAt_cons, levelAt_cons]
    by_cases e : q.1 = k
    · rw [if_pos e]
      show (if q.1 = p then v else _) = _
      by_cases e2 : q.1 = p
      · rw [if_pos e2, if_pos (by rw [← e2, e])]
      · have np : p ≠ k := fun z => e2 (by rw [e, z])
        rw [if_neg e2, if_neg np, if_neg e2]
        by_cases hk : k ∈ cs.map (·.1)
        · rw [level_set hk, if_neg np]
        · have same : ∀ {ds : List (Int × Int)}, k ∉ ds.map (·.1) → (ds.map fun q => if q.1 = k then (q.1, v) else q) = ds := fun {ds} hd => by
            rw [List.map_congr_left (g := id) fun q hq => by
              rw [if_neg fun z => hd (List.mem_map.mpr ⟨q, hq, z⟩)]
              rfl, List.map_id]
          rw [same hk]
    · have hk : k ∈ cs.map (·.1) := by
        rcases List.mem_cons.mp (by rw [List.map_cons] at h; exact h) with z | z
        · exact absurd z.symm e
        · exact z
      rw [if_neg e]
      by_cases e2 : q.1 = p
      · rw [if_pos e2, if_neg (fun z => e (by rw [e2, z])), if_pos e2]
      · rw [if_neg e2, if_neg e2, level_set hk]
theorem level_put {cs : List (Int × Int)} (k v p : Int) : levelAt (putI cs k v) p = if p = k then v else levelAt cs p := by
  unfold putI
  split
  · rename_i h
    obtain ⟨q, hq, e⟩ := List.any_eq_true.mp h
    exact level_set (List.mem_map.mpr ⟨q, hq, of_decide_eq_true e⟩)
  · rename_i h
    exact level_app fun z => by
      obtain ⟨q, hq, e⟩ := List.mem_map.mp z
      exact h (List.any_eq_true.mpr ⟨q, hq, decide_eq_true e⟩)
theorem val_enc (p : Int) : ∀ ls : List (Int × Int), (valV (enc ls) (Sum.inl p)).getD (.int 0) = .int (levelAt ls p)
  | [] => rfl
  | q :: ls => by
    rw [levelAt_cons]
    by_cases h : q.1 = p
    · rw [if_pos h, show valV (enc (q :: ls)) (Sum.inl p) = some (V.int q.2) from valV_pos (p := (Sum.inl q.1, V.int q.2)) (by show (Sum.inl q.1 : Key) = Sum.inl p; rw [h])]
      rfl
    · rw [if_neg h, show valV (enc (q :: ls)) (Sum.inl p) = valV (enc ls) (Sum.inl p) from valV_neg (p := (Sum.inl q.1, V.int q.2)) (fun z => h (Sum.inl.inj z)), val_enc p ls]
theorem val_some {p : Int} {ls : List (Int × Int)} (h : p ∈ ls.map (·.1)) : valV (enc ls) (Sum.inl p) = some (.int (levelAt ls p)) := by
  obtain ⟨v, e, _⟩ := enc_get h
  have z := val_enc p ls
  rw [e] at z
  rw [e]
  exact congrArg some z
theorem enc_keys (ls : List (Int × Int)) : (enc ls).map (·.1) = (ls.map (·.1)).map Sum.inl := by
  unfold enc
  rw [List.map_map, List.map_map]
  rfl
theorem merge_enc : ∀ {ls acc : List (Int × Int)}, ((acc ++ ls).map (·.1)).Nodup → mergeK (enc acc) (enc ls) = enc (acc ++ ls)
  | [], acc, _ => by rw [List.append_nil]; rfl
  | q :: ls, acc, h => by
    show mergeK (putK (enc acc) (Sum.inl q.1) (V.int q.2)) (enc ls) = _
    have hk : q.1 ∉ acc.map (·.1) := fun z => by
      rw [List.map_append, List.nodup_append] at h
      exact h.2.2 _ z _ (by rw [List.map_cons]; exact List.mem_cons_self ..) rfl
    have e : putI acc q.1 q.2 = acc ++ [q] := by
      unfold putI
      rw [if_neg (fun z => by
        obtain ⟨r, hr, e⟩ := List.any_eq_true.mp z
        exact hk (List.mem_map.mpr ⟨r, hr, of_decide_eq_true e⟩))]
    rw [enc_put, e, merge_enc (by rw [List.append_assoc]; exact h), List.append_assoc]
    rfl
theorem pairs_keys {K : PySem.W.Frag} {H : Hp} : ∀ {as : List Addr} {ls : List (Int × Int)}, Paired (fun a (q : Int × Int) => H a = some (.tup [.int q.1, .int q.2])) as ls → Paired (fun p (kv : Key × V) => SqT K H p [kV kv.1, kv.2]) as (enc ls)
  | _, _, .nil => .nil
  | _, _, .cons h t => .cons (SqT.of h) (pairs_keys t)
/-- at r: a picture, how far it is moved, how often it counts -/
def PartAt (K : PySem.W.Frag) (H : Hp) (r : Addr) (x : Part) : Prop := ∃ t, H r = some (.tup [.ref t, .int x.mv, .int x.tm]) ∧ PicAt K H t x.ls
theorem PartAt.same {K : PySem.W.Frag} {H H' : Hp} {r : Addr} {x : Part} (h : PartAt K H r x) (s : Same H H') : PartAt K H' r x := by
  obtain ⟨t, h1, h2⟩ := h
  exact ⟨t, s _ _ h1, h2.same s⟩
def spTotal (K : PySem.W.Frag) : Sp := fun vs H Q _ => ∃ (lv : Int) (pt : Addr) (rs : List Addr) (xs : List Part), vs = [.int lv, .ref pt] ∧ H pt = some (.tup (rs.map V.ref)) ∧ Paired (PartAt K H) rs xs ∧ 0 < lv ∧
  (∀ x ∈ xs, ∀ q ∈ x.ls, -100 ≤ q.2 ∧ q.2 ≤ 100) ∧ partsLen xs < 64 ∧ ∀ (t : Addr) (ms : List (Int × Int)) H', Same H H' → PicB K H' t ms → Rising lv ms → (∀ p, sumAt ms p = partsAt xs p % lv) → ms.length ≤ partsLen xs → Q (.ref t) H'
theorem same_at {H H' : Hp} {c : Addr} {o : HO} (s : Same H H') (hc : H c = none) : Same H (upd H' c o) := fun b u e => by
  rw [upd_ne (ne_of_none e hc)]
  exact s b u e
section
variable {P : Program} {w : World} {K : PySem.W.Frag} {mg : Str → Option Value} {base : Heap} {C : Addr}
theorem scTotal : FnScope ["levels", "parts", "sums", "lamps", "by", "times", "place", "level"] ["levels", "parts"] (defScope sTotal) := ⟨rfl, rfl, rfl, by decide +kernel, rfl, by decide +kernel, by decide +kernel⟩
theorem ok_total {f : Addr} {fd : FuncData} (F : Fun K "total" "total" sTotal f fd) (mt : mg "tuple" = none) (ms : mg "sorted" = none) : FnOk P w K mg base CX0 1 f fd ["levels", "parts"] (spTotal K) := by
  refine F.ok scTotal (fun vs H Q E h => ?_) (fun cdv A outer s H vs Q E hr h => ?_)
  · obtain ⟨lv, pt, rs, xs, rfl, _⟩ := h
    rfl
  · obtain ⟨lv, pt, rs, xs, rfl, hpt, hpa, h0, hlev, h64, q⟩ := h
    have hu := hu_of hr
    have hlen := Paired.length hpa
    refine ⟨_, pss_cons (ps_set (i := 2) scTotal.nd rfl (.inr rfl) pe_dnewK)
      (pss_cons (ps_for PassesOwn.never rfl (pi_tup (pv 1)) (pg_tup rfl (pgs_cons (pg_name (i := 3) scTotal.nd rfl (.inl rfl)) (pgs_cons (pg_name (i := 4) scTotal.nd rfl (.inl rfl)) (pgs_cons (pg_name (i := 5) scTotal.nd rfl (.inl rfl)) pgs_nil))))
        (pss_one (ps_for PassesOwn.never rfl (pi_tup (pv 3)) (pg_tup rfl (pgs_cons (pg_name (i := 6) scTotal.nd rfl (.inl rfl)) (pgs_cons (pg_name (i := 7) scTotal.nd rfl (.inl rfl)) pgs_nil)))
          (pss_one (ps_dput hu (pv 2) (pe_op op_add (pv 6) (pv 4)) (pe_op op_add (pe_dget2 hu (pv 2) (pe_op op_add (pv 6) (pv 4)) pe_int ⟨rfl, rfl, rfl, rfl⟩) (pe_op op_mul (pv 5) (pv 7))) rfl)))))
      (pss_one (ps_ret (pe_callTy call_tupB (by rfl) mt (by decide +kernel) (pa_cons (pe_lc (own := [("place", 6)]) (g := gName 6) rfl scTotal.nd
          (pi_list (pe_callB (call_sortedDI rfl) (by rfl) ms (by decide +kernel) (pa_cons (pv 2) pa_nil)))
          (blkOk_by (own := [("place", 6)]) (N := ["levels", "parts", "sums", "lamps", "by", "times", "place", "level"]) (sc := defScope sTotal) (by decide +kernel)) (fun _ _ _ _ _ => pg_name (i := 6) scTotal.nd rfl (Or.inl rfl))
          (fun _ _ _ _ _ => pts_one (pt_cmpR op_ne (pe_op op_mod (pe_dget hu (pv 2) (pv 6) (fun _ _ => rfl)) (pv 0)) pe_int (nomark _)))
          (fun _ _ _ _ _ => pe_tup (pa_cons (pv 6) (pa_cons (pe_op op_mod (pe_dget hu (pv 2) (pv 6) (fun _ _ => rfl)) (pv 0)) pa_nil)))) pa_nil))))), ?_⟩
    refine sq_setR (fun v H' => ∃ c, v = .ref c ∧ H c = none ∧ H' = upd H c (.dK [])) (fun Q' q' c hc => q' _ _ ⟨c, rfl, hc, rfl⟩) ?_
    rintro v H0 ⟨c, rfl, hc, rfl⟩
    refine ⟨_, rfl, pt, rfl, ⟨_, SqT.of (same_of hc _ _ hpt)⟩, for_tup (xs := rs.map V.ref) (fun i σ' H' => Same H H' ∧ ∃ x3 x4 x5 x6 x7 cs, σ' = [some (.int lv), some (.ref pt), some (.ref c), x3, x4, x5, x6, x7] ∧ H' c = some (.dK (enc cs)) ∧ (cs.map (·.1)).Nodup ∧ (∀ p, levelAt cs p = partsAt (xs.take i) p) ∧ cs.length ≤ partsLen (xs.take i))
      ⟨same_of hc, _, _, _, _, _, [], rfl, upd_same, .nil, fun p => rfl, Nat.le_refl _⟩ (fun i σ' H' _ z => SqT.of (z.1 _ _ hpt)) (fun i v σ' H' hv z => ?_) (fun σ' H' z => ?_)⟩
    · obtain ⟨s1, x3, x4, x5, x6, x7, cs, rfl, hcs, nd, hF, hl⟩ := z
      rw [List.getElem?_map] at hv
      cases er : rs[i]? with
      | none => rw [er] at hv; cases hv
      | some r =>
        rw [er] at hv
        have ex : v = V.ref r := (Option.some.inj hv).symm
        subst ex
        obtain ⟨x, hx, t, hrt, hpic⟩ := paired_get hpa er
        obtain ⟨as, ht, hal, hat⟩ := pair_get hpic
        have hlx := partsLen_take hx
        have hxm := List.mem_of_getElem? hx
        refine ⟨r, _, rfl, SqT.of (s1 _ _ hrt), rfl, _, _, rfl, _, _, rfl, _, _, rfl, rfl, ?_⟩
        refine ⟨_, rfl, t, rfl, ⟨_, .inl (rd_same ht s1)⟩, for_tup (xs := as.map V.ref) (fun j σ' H' => Same H H' ∧ ∃ x6 x7 cs, σ' = [some (.int lv), some (.ref pt), some (.ref c), some (.ref t), some (.int x.mv), some (.int x.tm), x6, x7] ∧ H' c = some (.dK (enc cs)) ∧ (cs.map (·.1)).Nodup ∧ (∀ p, levelAt cs p = partsAt (xs.take i) p + x.tm * sumAt (x.ls.take j) (p - x.mv)) ∧ cs.length ≤ partsLen (xs.take i) + j)
          ⟨s1, _, _, cs, rfl, hcs, nd, fun p => by rw [List.take_zero, sumAt_nil, Int.mul_zero, Int.add_zero]; exact hF p, hl⟩ (fun j σ' H' _ z => .inl (rd_same ht z.1)) (fun j v σ' H' hv z => ?_) (fun σ' H' z => ?_)⟩
        · obtain ⟨s2, y6, y7, ds, rfl, hds, nd2, hG, hl2⟩ := z
          rw [List.getElem?_map] at hv
          cases ea : as[j]? with
          | none => rw [ea] at hv; cases hv
          | some a =>
            rw [ea] at hv
            have ex : v = V.ref a := (Option.some.inj hv).symm
            subst ex
            have lj : j < x.ls.length := by rw [← hal]; exact (List.getElem?_eq_some_iff.mp ea).1
            have eq := List.getElem?_eq_getElem lj
            have ha := s2 _ _ (hat j a _ ea eq)
            have lev := hlev x hxm _ (List.getElem_mem lj)
            refine ⟨a, _, rfl, SqT.of ha, rfl, _, _, rfl, _, _, rfl, rfl, ?_⟩
            refine ⟨_, rfl, c, rfl, .inl ⟨_, .inl hds⟩, _, rfl, _, rfl, _, _, rfl, rfl, _, DGet.k (k := Sum.inl (x.ls[j].1 + x.mv)) hds, ?_⟩
            rw [val_enc]
            refine ⟨_, rfl, _, rfl, _, _, rfl, rfl, mulR (by omega), _, _, rfl, rfl, ?_⟩
            refine ⟨_, rfl, _, rfl, _, rfl, _, _, rfl, rfl, c, _, rfl, DPut.k (k := Sum.inl (x.ls[j].1 + x.mv)) hds ?_, ?_⟩
            · unfold enc
              rw [List.length_map]
              exact small1000 (by omega)
            · obtain ⟨n1, n2⟩ := nodup_put nd2 (x.ls[j].1 + x.mv) (levelAt ds (x.ls[j].1 + x.mv) + x.tm * x.ls[j].2)
              refine ⟨same_at s2 hc, _, _, putI ds (x.ls[j].1 + x.mv) (levelAt ds (x.ls[j].1 + x.mv) + x.tm * x.ls[j].2), rfl, by rw [upd_same, enc_put], n1, fun p => ?_, by omega⟩
              rw [level_put, List.take_add_one, eq, sumAt_app]
              show _ = _ + x.tm * (_ + sumAt [x.ls[j]] (p - x.mv))
              rw [sumAt_cons, sumAt_nil, Int.add_zero]
              by_cases hp : p = x.ls[j].1 + x.mv
              · rw [if_pos hp, if_pos (by omega), hG, hp, Int.mul_add, Int.add_assoc]
              · rw [if_neg hp, if_neg (by omega), Int.add_zero]
                exact hG p
        · obtain ⟨s2, y6, y7, ds, rfl, hds, nd2, hG, hl2⟩ := z
          rw [List.length_map, hal] at hl2
          refine ⟨s2, _, _, _, _, _, ds, rfl, hds, nd2, fun p => ?_, ?_⟩
          · have z := hG p
            rw [List.length_map, hal, List.take_length] at z
            rw [z, List.take_add_one, hx, partsAt_app]
            show _ = _ + partsAt [x] p
            rw [partsAt_one]
            rfl
          · have e : partsLen (xs.take (i + 1)) = partsLen (xs.take i) + x.ls.length := by
              unfold partsLen
              rw [List.take_add_one, hx, List.map_append, List.sum_append]
              show _ + ([x].map fun x => x.ls.length).sum = _
              rw [List.map_cons, List.map_nil, List.sum_cons, List.sum_nil, Nat.add_zero]
            omega
    · obtain ⟨s1, x3, x4, x5, x6, x7, cs, rfl, hcs, nd, hF, hl⟩ := z
      rw [List.length_map, hlen, List.take_length] at hF hl
      refine ⟨_, rfl, c, enc cs, cs.map (·.1), rfl, .inl hcs, enc_keys cs, by rw [List.length_map]; omega, fun ns' sr perm asc nsr => ⟨sr, rfl, ⟨_, SqL.of upd_same⟩, fun D hD => ?_⟩⟩
      have s2 := same_of (o := .lst (ns'.map V.int)) nsr
      have ndn : ns'.Nodup := perm.nodup_iff.mpr nd
      have memo : ∀ n, n ∈ ns' ↔ n ∈ cs.map (·.1) := fun n => perm.mem_iff
      have hlen2 : ns'.length ≤ partsLen xs := by rw [perm.length_eq, List.length_map]; exact hl
      refine lc_genL (us := ns') (enc := V.int) (out := fun n => if levelAt cs n % lv = 0 then none else some (n, levelAt cs n % lv)) (Rel := IsP) isp_st hD (SqL.of upd_same) (by omega) ?_ ?_
      · intro i n H2 hn s3 R' Z' hR hZ
        have hc2 := s3 _ _ (s2 _ _ hcs)
        have hv := val_some ((memo n).mp (List.mem_of_getElem? hn))
        have get : DGet H2 c (.int n) (some (.int (levelAt cs n))) := .inl ⟨enc cs, Sum.inl n, .inl hc2, rfl, hv.symm⟩
        refine ⟨rfl, ?_⟩
        refine ⟨_, rfl, _, rfl, c, _, rfl, get, _, rfl, _, _, rfl, rfl, h0, rfl, decide (levelAt cs n % lv ≠ 0), ?_, ?_⟩
        · show V.bl (!decide (V.int (levelAt cs n % lv) = V.int 0)) = _
          by_cases z : levelAt cs n % lv = 0
          · rw [decide_eq_true (by rw [z]), decide_eq_false (by simpa using z)]
            rfl
          · rw [decide_eq_false (fun e => z (V.int.inj e)), decide_eq_true (by simpa using z)]
            rfl
        · by_cases z : levelAt cs n % lv = 0
          · rw [decide_eq_false (by simpa using z)]
            exact iteF (hZ _ (if_pos z) (Same.refl _))
          · rw [decide_eq_true (by simpa using z)]
            refine iteT ?_
            refine ⟨_, rfl, _, rfl, _, rfl, c, _, rfl, get, _, rfl, _, _, rfl, rfl, h0, (by show 2 ≤ sizeLine; decide), fun tp ntp => ?_⟩
            exact hR _ _ _ (if_neg z) (same_of ntp) ⟨tp, rfl, upd_same⟩
      · intro H2 ys s3 hD' hp'
        obtain ⟨bs, ey, hb⟩ := isp_all hp'
        subst ey
        refine ⟨D, _, rfl, SqL.of hD', fun t' o nt ho => ?_⟩
        have s4 := same_of (o := .frz o (.tup (bs.map V.ref))) nt
        have hb2 : Paired (fun a (q : Int × Int) => H2 a = some (.tup [.int q.1, .int q.2])) bs (tidy lv (levelAt cs) ns') := hb
        refine q t' (tidy lv (levelAt cs) ns') _ (s1.trans (s2.trans (s3.trans s4))) ⟨bs, ⟨o, upd_same, ho⟩, L2.Paired.mapP hb2 fun a r z => s4 _ _ z⟩ (tidy_asc h0 (lt_of_le_nodup asc ndn)) (fun p => ?_) (Nat.le_trans (tidy_len ns') hlen2)
        rw [tidy_at p ndn, hF]
        by_cases hp : p ∈ ns'
        · rw [if_pos hp]
        · rw [if_neg hp]
          have z := hF p
          rw [level_out (fun k => hp ((memo p).mpr k))] at z
          rw [← z]
          exact (Int.zero_emod lv).symm
end
end Lamp
set_option Elab.async false
set_option linter.all false
set_option maxRecDepth 100000
set_option maxHeartbeats 1000000
namespace Lamp
open PySem PySem.Spec PyProof.Rows L2
/-! sorted(..) of any number of pairs; a thing that is locked when it is handed back -/
def pairOf (H : Hp) (t : Addr) : Int × Int := match H t with
  | some (.tup [.int i, .int j]) => (i, j)
  | _ => (0, 0)
theorem pairOf_at {H : Hp} {t : Addr} {q : Int × Int} (h : H t = some (.tup [.int q.1, .int q.2])) : pairOf H t = q := by
  unfold pairOf
  rw [h]
def addrOf : Value → Addr
  | .ref a => a
  | _ => 0
theorem refs_out : ∀ {out : List Value}, (∀ v ∈ out, ∃ a, v = Value.ref a) → out = (out.map addrOf).map Value.ref
  | [], _ => rfl
  | v :: out, h => by
    obtain ⟨a, e⟩ := h v (List.mem_cons_self ..)
    rw [List.map_cons, List.map_cons, ← refs_out fun u hu => h u (List.mem_cons_of_mem _ hu), e]
    rfl
theorem pairs_map {H : Hp} : ∀ {as : List Addr} {qs : List (Int × Int)}, Paired (fun a (q : Int × Int) => H a = some (.tup [.int q.1, .int q.2])) as qs → qs = as.map (pairOf H)
  | _, _, .nil => rfl
  | _, _, .cons h t => by rw [List.map_cons, pairOf_at h, ← pairs_map t]
theorem pairs_self {H : Hp} : ∀ {bs : List Addr}, (∀ b ∈ bs, ∃ q : Int × Int, H b = some (.tup [.int q.1, .int q.2])) → Paired (fun a (q : Int × Int) => H a = some (.tup [.int q.1, .int q.2])) bs (bs.map (pairOf H))
  | [], _ => .nil
  | b :: bs, h => by
    obtain ⟨q, e⟩ := h b (List.mem_cons_self ..)
    exact .cons (by rw [pairOf_at e]; exact e) (pairs_self fun c hc => h c (List.mem_cons_of_mem _ hc))
theorem pairs_have {H : Hp} {as : List Addr} {qs : List (Int × Int)} (h : Paired (fun a (q : Int × Int) => H a = some (.tup [.int q.1, .int q.2])) as qs) : ∀ a ∈ as, ∃ q : Int × Int, H a = some (.tup [.int q.1, .int q.2]) := fun a ha => by
  obtain ⟨q, _, e⟩ := paired_mem h ha
  exact ⟨q, e⟩
theorem vals_refs : ∀ bs : List Addr, Vals (bs.map V.ref) (bs.map Value.ref)
  | [] => .nil
  | b :: bs => .cons (show RelV (V.ref b) (Value.ref b) from rfl) (vals_refs bs)
def rSortPairs (K : PySem.W.Frag) : List V → Hp → VK → Prop := fun vs H Q => ∃ (a : Addr) (as : List Addr) (qs : List (Int × Int)), vs = [V.ref a] ∧ SqL K H a (as.map V.ref) ∧ Paired (fun a (q : Int × Int) => H a = some (.tup [.int q.1, .int q.2])) as qs ∧
  ∀ (bs : List Addr) (rs : List (Int × Int)) (p : Addr), rs.Perm qs → (rs.map (·.1)).Pairwise (· ≤ ·) → Paired (fun a (q : Int × Int) => H a = some (.tup [.int q.1, .int q.2])) bs rs → H p = none → Q (.ref p) (upd H p (.lst (bs.map V.ref)))
section
variable {X : Cx}
theorem cr_sortedPairs : CallR X (.builtin "sorted") (rSortPairs X.K) := by
  intro pins s σ H vs us Q I r h
  obtain ⟨a, as, qs, rfl, hs, hx, q⟩ := h
  obtain ⟨its, rv, hl, hz⟩ := I.list hs
  obtain ⟨u, rfl, ru⟩ := vals1 r
  obtain rfl : u = Value.ref a := ru
  have ei := refs_at rv
  subst ei
  have hv := pairs_have hx
  refine SrtO.sorted_pairsO (k := fun v => pairOf H (addrOf v)) hl.isList (by rw [← rv.length]; exact hz) (fun v hm => ?_) fun h' d out h1 h2 k hd hn => ?_
  · obtain ⟨t, ht, rfl⟩ := List.mem_map.mp hm
    obtain ⟨qq, e⟩ := hv t ht
    obtain ⟨_, its2, r2, o, ho, hc, n, hdat⟩ := I.hok _ _ e
    obtain ⟨u1, u2, rfl, ri, rj⟩ := vals2 r2
    obtain ⟨t1, rfl⟩ := ri
    obtain ⟨t2, rfl⟩ := rj
    show Srt.IsPair s.heap (Value.ref t) (pairOf H t).1 (pairOf H t).2
    rw [pairOf_at e]
    exact ⟨t, o, t1, t2, n, rfl, ho, hc, hdat⟩
  · have hperm := h2.perm
    have h3 : ∀ u ∈ out, ∃ a, u = Value.ref a := fun u hu => by
      obtain ⟨t, _, e⟩ := List.mem_map.mp (hperm.mem_iff.mp hu)
      exact ⟨t, e.symm⟩
    have eo := refs_out h3
    obtain ⟨n, hn⟩ := hn
    have hpa : (out.map addrOf).Perm as := by
      have z := hperm.map addrOf
      rw [List.map_map] at z
      have e : (addrOf ∘ Value.ref) = id := rfl
      rw [e, List.map_id] at z
      exact z
    have hlen : ((out.map addrOf).map V.ref).length ≤ sizeLine := by
      rw [List.length_map, hpa.length_eq]
      rw [List.length_map] at hz
      exact hz
    refine ⟨.ref d, upd H d (.lst ((out.map addrOf).map V.ref)), I.laid (t' := s.toks) k hd ⟨hlen, out, n, by rw [← eo.symm]; exact eo ▸ vals_refs (out.map addrOf), hn⟩, rfl, q (out.map addrOf) ((out.map addrOf).map (pairOf H)) d ?_ ?_ (pairs_self fun b hb => hv b (hpa.mem_iff.mp hb)) (I.hok.fresh hd)⟩
    · rw [pairs_map hx]
      exact hpa.map _
    · rw [List.map_map, List.map_map, List.pairwise_map]
      refine h1.imp fun {x y} z => ?_
      have z' := SrtO.lexB_no.mp z
      show (pairOf H (addrOf x)).1 ≤ (pairOf H (addrOf y)).1
      omega
end
/-- e, the thing that it gives being locked from then on -/
def tLk (te : TE) : TE := fun σ H Q => te σ H fun v H1 => ∃ d u, v = .ref d ∧ H1 d = some u ∧ Mut (some u) ∧ ∀ od, Q v (upd H1 d (.frz od u))
theorem pe_lk {X : Cx} {e : Expr} {te : TE} (h : PE X e te) : PE X e (tLk te) := by
  refine ⟨fun pins s σ H Q I hw => thn (h.run pins s σ H _ I hw) fun v s1 ⟨x, H1, I1, r, d, u, ex, hd, mu, q⟩ => ?_⟩
  subst ex
  obtain ⟨od, I2⟩ := I1.lock hd mu
  exact ⟨_, _, I2, r, q od⟩
end Lamp
set_option Elab.async false
set_option linter.all false
set_option maxRecDepth 100000
set_option maxHeartbeats 1000000
namespace Lamp
open PySem PySem.Spec PyProof.Rows L2
abbrev sAdded : Stmt := top 36
abbrev sLampsL : Stmt := top 37
/-! tables of levels by place -/
structure Tab (lv : Int) (cs : List (Int × Int)) : Prop where
  nd : (cs.map (·.1)).Nodup
  lv : ∀ q ∈ cs, 1 ≤ q.2 ∧ q.2 < lv
theorem Tab.nil (lv : Int) : Tab lv [] := ⟨.nil, fun q h => nomatch h⟩
theorem Tab.range {lv : Int} {cs : List (Int × Int)} (T : Tab lv cs) (h0 : 0 < lv) (p : Int) : 0 ≤ levelAt cs p ∧ levelAt cs p < lv := by
  rcases level_in (p := p) (ls := cs) with z | z
  · rw [z]; omega
  · have := T.lv _ z
    exact ⟨by omega, this.2⟩
theorem Tab.key {cs : List (Int × Int)} {p : Int} (h : levelAt cs p ≠ 0) : p ∈ cs.map (·.1) := by
  by_cases z : p ∈ cs.map (·.1)
  · exact z
  · exact absurd (level_out z) h
theorem Tab.mem {lv : Int} {cs : List (Int × Int)} (T : Tab lv cs) {q : Int × Int} (h : q ∈ cs) : levelAt cs q.1 = q.2 := by
  obtain ⟨v, e, hm⟩ := enc_get (List.mem_map.mpr ⟨q, h, rfl⟩)
  have nd := T.nd
  clear e hm v T
  induction cs with
  | nil => cases h
  | cons r ls ih =>
    rw [List.map_cons] at nd
    cases nd with
    | cons n1 n2 =>
      rw [levelAt_cons]
      rcases List.mem_cons.mp h with e | e
      · rw [e, if_pos rfl]
      · rw [if_neg (fun z => n1 _ (List.mem_map.mpr ⟨q, e, rfl⟩) z)]
        exact ih e n2
theorem tidy_keys {lv : Int} {F : Int → Int} : ∀ ns : List Int, ((tidy lv F ns).map (·.1)).Sublist ns
  | [] => .slnil
  | n :: ns => by
    have ih := tidy_keys (lv := lv) (F := F) ns
    unfold tidy
    rw [List.filterMap_cons]
    by_cases z : F n % lv = 0
    · rw [if_pos z]
      exact .cons _ ih
    · rw [if_neg z]
      exact .cons₂ _ ih
theorem tidy_tab {lv : Int} (h0 : 0 < lv) {F : Int → Int} {ns : List Int} (h : ns.Nodup) : Tab lv (tidy lv F ns) := by
  refine ⟨h.sublist (tidy_keys ns), fun q hq => ?_⟩
  obtain ⟨_, e, z⟩ := tidy_mem hq
  have a := Int.emod_nonneg (F q.1) (show lv ≠ 0 by omega)
  have b := Int.emod_lt_of_pos (F q.1) h0
  omega
theorem tidy_level {lv : Int} {F : Int → Int} {ns : List Int} (h : ns.Nodup) (p : Int) : levelAt (tidy lv F ns) p = if p ∈ ns then F p % lv else 0 := by
  rw [← sum_levelAt (h.sublist (tidy_keys ns)), tidy_at p h]
theorem nd_take {α : Type} {xs : List α} (h : xs.Nodup) {i : Nat} {x : α} (e : xs[i]? = some x) : x ∉ xs.take i := fun z => by
  have li := (List.getElem?_eq_some_iff.mp e).1
  obtain ⟨j, hj, ej⟩ := List.getElem_of_mem z
  rw [List.length_take] at hj
  rw [List.getElem_take] at ej
  have ex : xs[i] = x := (List.getElem?_eq_some_iff.mp e).2
  have := (List.nodup_iff_pairwise_ne.mp h)
  have z2 := List.pairwise_iff_getElem.mp this j i (by omega) li (by omega)
  exact z2 (ej.trans ex.symm)
def addF (lv : Int) (xs ys : List (Int × Int)) (mv tm p : Int) : Int := (levelAt xs p + tm * levelAt ys (p - mv)) % lv
def addG (lv : Int) (xs ys : List (Int × Int)) (mv tm : Int) (i : Nat) (p : Int) : Int := if (p - mv) ∈ (ys.map (·.1)).take i then addF lv xs ys mv tm p else levelAt xs p
def spAdded : Sp := fun vs H Q _ => ∃ (lv mv tm : Int) (d1 d2 : Addr) (xs ys : List (Int × Int)), vs = [.int lv, .ref d1, .ref d2, .int mv, .int tm] ∧ Rd H d1 (.dK (enc xs)) ∧ H d2 = some (.dK (enc ys)) ∧ 0 < lv ∧ lv ≤ 100 ∧ Tab lv xs ∧ Tab lv ys ∧
  -100 ≤ tm ∧ tm ≤ 100 ∧ xs.length + ys.length ≤ 900 ∧ ∀ r zs H', Same H H' → H r = none → H' r = some (.dK (enc zs)) → Tab lv zs → (∀ p, levelAt zs p = addF lv xs ys mv tm p) → zs.length ≤ xs.length + ys.length → Q (.ref r) H'
section
variable {P : Program} {w : World} {K : PySem.W.Frag} {mg : Str → Option Value} {base : Heap}
theorem scAdded : FnScope ["_law_levels", "_law_one_here", "_law_other", "_law_move", "_law_by", "_law_found", "_law_place_here", "_law_level"] ["_law_levels", "_law_one_here", "_law_other", "_law_move", "_law_by"] (defScope sAdded) := ⟨rfl, rfl, rfl, by decide +kernel, rfl, by decide +kernel, by decide +kernel⟩
theorem ok_added {f : Addr} {fd : FuncData} (F : Fun K "_law_added" "_law_added" sAdded f fd) (md : mg "dict" = none) (ml : mg "list" = none) (mi : mg "int" = none) : FnOk P w K mg base CX0 1 f fd ["_law_levels", "_law_one_here", "_law_other", "_law_move", "_law_by"] spAdded := by
  refine F.ok scAdded (fun vs H Q E h => ?_) (fun cdv A outer s H vs Q E hr h => ?_)
  · obtain ⟨lv, mv, tm, d1, d2, xs, ys, rfl, _⟩ := h
    rfl
  · obtain ⟨lv, mv, tm, d1, d2, xs, ys, rfl, hd1, hd2, h0, h100, Tx, Ty, t0, t1, hlen, q⟩ := h
    have hu := hu_of hr
    refine ⟨_, pss_cons (ps_set (i := 5) scAdded.nd rfl (.inr rfl) (pe_callTy call_dictD (by rfl) md (by decide +kernel) (pa_cons (pv 1) pa_nil)))
      (pss_cons (ps_for PassesOwn.never rfl (pi_list (pe_callTy (call_list_dK rfl) (by rfl) ml (by decide +kernel) (pa_cons (pv 2) pa_nil))) (pg_name (i := 6) scAdded.nd rfl (.inl rfl))
        (pss_cons (ps_set (i := 7) scAdded.nd rfl (.inl rfl) (pe_op op_mod (pe_callTy call_int1 (by rfl) mi (by decide +kernel) (pa_cons (pe_op op_add (pe_dget2 hu (pv 5) (pe_op op_add (pv 6) (pv 3)) pe_int ⟨rfl, rfl, rfl, rfl⟩) (pe_op op_mul (pv 4) (pe_dget hu (pv 2) (pv 6) (fun _ _ => rfl)))) pa_nil)) (pv 0)))
        (pss_one (ps_dput hu (pv 5) (pe_op op_add (pv 6) (pv 3)) (pv 7) rfl))))
      (pss_one (ps_ret (pe_callTy (call_dictP rfl) (by rfl) md (by decide +kernel) (pa_cons (pe_lc (own := [("_law_place_here", 6)]) (g := gName 6) rfl scAdded.nd
          (pi_list (pe_callTy (call_list_dK rfl) (by rfl) ml (by decide +kernel) (pa_cons (pv 5) pa_nil)))
          (blkOk_by (own := [("_law_place_here", 6)]) (N := ["_law_levels", "_law_one_here", "_law_other", "_law_move", "_law_by", "_law_found", "_law_place_here", "_law_level"]) (sc := defScope sAdded) (by decide +kernel)) (fun _ _ _ _ _ => pg_name (i := 6) scAdded.nd rfl (Or.inl rfl))
          (fun _ _ _ _ _ => pts_one (pt_cmpR op_gt (pe_dget hu (pv 5) (pv 6) (fun _ _ => rfl)) pe_int (nomark _)))
          (fun _ _ _ _ _ => pe_tup (pa_cons (pv 6) (pa_cons (pe_dget hu (pv 5) (pv 6) (fun _ _ => rfl)) pa_nil)))) pa_nil))))), ?_⟩
    refine sq_setR (fun v H' => ∃ c, v = .ref c ∧ H c = none ∧ H' = upd H c (.dK (enc xs))) (fun Q' q' => ⟨_, rfl, d1, _, rfl, hd1, fun c hc => q' _ _ ⟨c, rfl, hc, rfl⟩⟩) ?_
    rintro v H0 ⟨c, rfl, hc, rfl⟩
    have sc := same_of (o := .dK (enc xs)) hc
    have hd2' := sc _ _ hd2
    have kl : (enc ys).map (fun kv => kV kv.1) = (ys.map (·.1)).map V.int := by
      unfold enc
      rw [List.map_map, List.map_map]
      rfl
    refine sq_for (fun l H1 => (upd H c (.dK (enc xs))) l = none ∧ H1 = upd (upd H c (.dK (enc xs))) l (.lst ((ys.map (·.1)).map V.int))) (fun Q' q' => ⟨_, rfl, d2, enc ys, rfl, hd2', fun l nl => q' _ _ ⟨nl, by rw [kl]⟩⟩) ?_
    rintro l H1 ⟨nl, rfl⟩
    have lc : l ≠ c := fun e => by rw [e, upd_same] at nl; cases nl
    have sl := same_of (o := .lst ((ys.map (·.1)).map V.int)) nl
    refine ⟨(ys.map (·.1)).map V.int, fun i σ' H' => Same H H' ∧ H' l = some (.lst ((ys.map (·.1)).map V.int)) ∧ ∃ x6 x7 cs, σ' = [some (.int lv), some (.ref d1), some (.ref d2), some (.int mv), some (.int tm), some (.ref c), x6, x7] ∧ H' c = some (.dK (enc cs)) ∧ (cs.map (·.1)).Nodup ∧ (∀ p, levelAt cs p = addG lv xs ys mv tm i p) ∧ cs.length ≤ xs.length + i,
      SqL.of upd_same, ⟨sc.trans sl, upd_same, none, none, xs, rfl, by rw [upd_ne (Ne.symm lc), upd_same], Tx.nd, fun p => ?_, Nat.le_refl _⟩, (fun i σ' H' _ z => SqL.of z.2.1), ?_, ?_⟩
    · unfold addG
      rw [List.take_zero, if_neg (fun z => nomatch z)]
    · rintro i y σ' H' hi ⟨s1, hl, x6, x7, cs, rfl, hcs, nd, hF, hn⟩
      obtain ⟨k, hk, rfl⟩ := ints_at hi
      have li : i < ys.length := by
        have := (List.getElem?_eq_some_iff.mp hk).1
        rw [List.length_map] at this
        exact this
      have hkm : k ∈ ys.map (·.1) := List.mem_of_getElem? hk
      have hv := val_some hkm
      have get : DGet H' d2 (.int k) (some (.int (levelAt ys k))) := .inl ⟨enc ys, Sum.inl k, .inl (s1 _ _ hd2), rfl, hv.symm⟩
      have ry := Ty.range h0 k
      have nt := nd_take Ty.nd hk
      have e1 : levelAt cs (k + mv) = levelAt xs (k + mv) := by
        rw [hF]
        unfold addG
        rw [Int.add_sub_cancel, if_neg nt]
      refine ⟨_, rfl, c, rfl, .inl ⟨_, .inl hcs⟩, _, rfl, _, rfl, _, _, rfl, rfl, _, DGet.k (k := Sum.inl (k + mv)) hcs, ?_⟩
      rw [val_enc]
      refine ⟨_, rfl, _, rfl, _, rfl, d2, _, rfl, get, tm, levelAt ys k, rfl, rfl, mulL (by omega), _, _, rfl, rfl, .inl ⟨_, rfl, _, rfl, _, _, rfl, rfl, h0, ?_⟩⟩
      refine ⟨_, rfl, _, rfl, _, rfl, _, rfl, _, _, rfl, rfl, c, _, rfl, DPut.k (k := Sum.inl (k + mv)) hcs ?_, ?_⟩
      · unfold enc
        rw [List.length_map]
        exact small1000 (by omega)
      · rw [e1]
        obtain ⟨n1, n2⟩ := nodup_put nd (k + mv) ((levelAt xs (k + mv) + tm * levelAt ys k) % lv)
        refine ⟨same_at s1 hc, by rw [upd_ne lc]; exact hl, _, _, putI cs (k + mv) ((levelAt xs (k + mv) + tm * levelAt ys k) % lv), rfl, by rw [upd_same, enc_put], n1, fun p => ?_, by omega⟩
        rw [level_put]
        unfold addG
        rw [List.take_add_one, hk]
        by_cases hp : p = k + mv
        · rw [if_pos hp, if_pos (List.mem_append_right _ (by rw [hp, Int.add_sub_cancel]; exact List.mem_cons_self ..))]
          unfold addF
          rw [hp, Int.add_sub_cancel]
        · rw [if_neg hp, hF]
          unfold addG
          by_cases hq : p - mv ∈ (ys.map (·.1)).take i
          · rw [if_pos hq, if_pos (List.mem_append_left _ hq)]
          · rw [if_neg hq, if_neg fun z => (List.mem_append.mp z).elim hq fun z => hp (by
              have z2 : p - mv = k := by
                rcases List.mem_cons.mp z with e | e
                · exact e
                · cases e
              omega)]
    · rintro σ' H' ⟨s1, hl, x6, x7, cs, rfl, hcs, nd, hF, hn⟩
      rw [List.length_map, List.length_map] at hF hn
      have hF2 : ∀ p, levelAt cs p = addF lv xs ys mv tm p := fun p => by
        rw [hF]
        unfold addG
        rw [show (ys.map (·.1)).take ys.length = ys.map (·.1) from by rw [← List.length_map (f := fun q : Int × Int => q.1) (as := ys), List.take_length]]
        by_cases hp : p - mv ∈ ys.map (·.1)
        · rw [if_pos hp]
        · rw [if_neg hp]
          unfold addF
          rw [level_out hp, Int.mul_zero, Int.add_zero]
          have := Tx.range h0 p
          exact (Int.emod_eq_of_lt this.1 this.2).symm
      have hR : ∀ p, 0 ≤ levelAt cs p ∧ levelAt cs p < lv := fun p => by
        rw [hF2]
        exact ⟨Int.emod_nonneg _ (by omega), Int.emod_lt_of_pos _ h0⟩
      have kc : (enc cs).map (fun kv => kV kv.1) = (cs.map (·.1)).map V.int := by
        unfold enc
        rw [List.map_map, List.map_map]
        rfl
      refine ⟨_, rfl, c, enc cs, rfl, hcs, fun l2 nl2 => ?_⟩
      rw [kc]
      refine ⟨l2, rfl, ⟨_, SqL.of upd_same⟩, fun D hD => ?_⟩
      have s2 := same_of (o := .lst ((cs.map (·.1)).map V.int)) nl2
      refine lc_genL (us := cs.map (·.1)) (enc := V.int) (out := fun n => if levelAt cs n % lv = 0 then none else some (n, levelAt cs n % lv)) (Rel := IsP) isp_st hD (SqL.of upd_same) (by rw [List.length_map]; omega) ?_ ?_
      · intro i n H2 hn s3 R' Z' hRR hZ
        have hc2 := s3 _ _ (s2 _ _ hcs)
        have hv := val_some (List.mem_of_getElem? hn)
        have get : DGet H2 c (.int n) (some (.int (levelAt cs n))) := .inl ⟨enc cs, Sum.inl n, .inl hc2, rfl, hv.symm⟩
        have rn := hR n
        have em : levelAt cs n % lv = levelAt cs n := Int.emod_eq_of_lt rn.1 rn.2
        refine ⟨rfl, ?_⟩
        refine ⟨_, rfl, _, rfl, c, _, rfl, get, ?_⟩
        refine ⟨_, _, rfl, rfl, decide (0 < levelAt cs n), rfl, ?_⟩
        by_cases z : 0 < levelAt cs n
        · rw [decide_eq_true z]
          refine iteT ?_
          refine ⟨_, rfl, _, rfl, _, rfl, c, _, rfl, get, (by show 2 ≤ sizeLine; decide), fun tp ntp => ?_⟩
          refine hRR _ _ (n, levelAt cs n % lv) (if_neg (by omega)) (same_of ntp) ⟨tp, rfl, ?_⟩
          rw [em]
          exact upd_same
        · rw [decide_eq_false z]
          exact iteF (hZ _ (if_pos (by omega)) (Same.refl _))
      · intro H2 zs s3 hD' hp'
        obtain ⟨bs, ey, hb⟩ := isp_all hp'
        subst ey
        have hb2 : Paired (fun a (q : Int × Int) => H2 a = some (.tup [.int q.1, .int q.2])) bs (tidy lv (levelAt cs) (cs.map (·.1))) := hb
        have Tt := tidy_tab h0 (F := levelAt cs) nd
        refine ⟨D, bs, enc (tidy lv (levelAt cs) (cs.map (·.1))), rfl, SqL.of hD', pairs_keys hb2, fun r nr => ?_⟩
        have em : mergeK [] (enc (tidy lv (levelAt cs) (cs.map (·.1)))) = enc (tidy lv (levelAt cs) (cs.map (·.1))) := merge_enc (acc := []) (by rw [List.nil_append]; exact Tt.nd)
        rw [em]
        refine q r (tidy lv (levelAt cs) (cs.map (·.1))) _ ((s1.trans s2).trans (s3.trans (same_of nr))) ?_ upd_same Tt (fun p => ?_) ?_
        · exact ((s1.trans s2).trans s3).free nr
        · rw [tidy_level nd, hF2]
          by_cases hp : p ∈ cs.map (·.1)
          · rw [if_pos hp]
            unfold addF
            rw [Int.emod_emod]
          · rw [if_neg hp, ← hF2, level_out hp]
        · have := tidy_len (lv := lv) (F := levelAt cs) (cs.map (·.1))
          rw [List.length_map] at this
          omega
end
end Lamp
set_option Elab.async false
set_option linter.all false
set_option maxRecDepth 100000
set_option maxHeartbeats 1000000
namespace Lamp
open PySem PySem.Spec PyProof.Rows L2
abbrev sBehind : Stmt := top 38
abbrev sBack : Stmt := top 39
abbrev sTimes : Stmt := top 40
/-- at t: a tuple of a table, which is at d, and an end -/
def RdAt (H : Hp) (t d : Addr) (cs : List (Int × Int)) (e : Int) : Prop := H t = some (.tup [.ref d, .int e]) ∧ H d = some (.dK (enc cs))
theorem RdAt.same {H H' : Hp} {t d : Addr} {cs : List (Int × Int)} {e : Int} (h : RdAt H t d cs e) (s : Same H H') : RdAt H' t d cs e := ⟨s _ _ h.1, s _ _ h.2⟩
def spLampsL (K : PySem.W.Frag) : Sp := fun vs H Q _ => ∃ (lv : Int) (d : Addr) (cs : List (Int × Int)), vs = [.ref d] ∧ H d = some (.dK (enc cs)) ∧ 0 < lv ∧ Tab lv cs ∧ cs.length ≤ 900 ∧
  ∀ t ls H', Same H H' → PicB K H' t ls → Rising lv ls → (∀ p, sumAt ls p = levelAt cs p) → ls.length = cs.length → (∀ q ∈ ls, q ∈ cs) → H t = none → Q (.ref t) H'
def spBehind : Sp := fun vs H Q _ => ∃ (lv : Int) (a b d1 d2 : Addr) (xs ys : List (Int × Int)) (e1 e2 : Int), vs = [.int lv, .ref a, .ref b] ∧ RdAt H a d1 xs e1 ∧ RdAt H b d2 ys e2 ∧ 0 < lv ∧ lv ≤ 100 ∧ Tab lv xs ∧ Tab lv ys ∧ xs.length + ys.length ≤ 900 ∧
  ∀ r d zs H', Same H H' → RdAt H' r d zs (e1 + e2) → Tab lv zs → (∀ p, levelAt zs p = addF lv xs ys e1 1 p) → zs.length ≤ xs.length + ys.length → H d = none → H r = none → Q (.ref r) H'
def spBack : Sp := fun vs H Q _ => ∃ (lv : Int) (a d1 : Addr) (xs : List (Int × Int)) (e1 : Int), vs = [.int lv, .ref a] ∧ RdAt H a d1 xs e1 ∧ 0 < lv ∧ lv ≤ 100 ∧ Tab lv xs ∧ xs.length ≤ 900 ∧
  ∀ r d zs H', Same H H' → RdAt H' r d zs (-e1) → Tab lv zs → (∀ p, levelAt zs p = addF lv [] xs (-e1) (-1) p) → zs.length ≤ xs.length → H d = none → H r = none → Q (.ref r) H'
section
variable {P : Program} {w : World} {K : PySem.W.Frag} {mg : Str → Option Value} {base : Heap}
theorem scLampsL : FnScope ["_law_found", "_law_place_here"] ["_law_found"] (defScope sLampsL) := ⟨rfl, rfl, rfl, by decide +kernel, rfl, by decide +kernel, by decide +kernel⟩
theorem scBehind : FnScope ["_law_levels", "_law_one_here", "_law_two"] ["_law_levels", "_law_one_here", "_law_two"] (defScope sBehind) := ⟨rfl, rfl, rfl, by decide +kernel, rfl, by decide +kernel, by decide +kernel⟩
theorem scBack : FnScope ["_law_levels", "_law_one_here"] ["_law_levels", "_law_one_here"] (defScope sBack) := ⟨rfl, rfl, rfl, by decide +kernel, rfl, by decide +kernel, by decide +kernel⟩
theorem ok_lampsL {f : Addr} {fd : FuncData} (F : Fun K "_law_lamps" "_law_lamps" sLampsL f fd) (mt : mg "tuple" = none) (ms : mg "sorted" = none) (ml : mg "list" = none) : FnOk P w K mg base CX0 1 f fd ["_law_found"] (spLampsL K) := by
  refine F.ok scLampsL (fun vs H Q E h => ?_) (fun cdv A outer s H vs Q E hr h => ?_)
  · obtain ⟨lv, d, cs, rfl, _⟩ := h
    rfl
  · obtain ⟨lv, c, cs, rfl, hcs, h0, Tc, hlen, q⟩ := h
    have hu := hu_of hr
    refine ⟨_, pss_one (ps_ret (pe_callTy call_tupB (by rfl) mt (by decide +kernel) (pa_cons (pe_callB cr_sortedPairs (by rfl) ms (by decide +kernel) (pa_cons (pe_lc (own := [("_law_place_here", 1)]) (g := gName 1) (tt := tYes) rfl scLampsL.nd
          (pi_list (pe_callTy (call_list_dK rfl) (by rfl) ml (by decide +kernel) (pa_cons (pv 0) pa_nil)))
          (blkOk_by (own := [("_law_place_here", 1)]) (N := ["_law_found", "_law_place_here"]) (sc := defScope sLampsL) (by decide +kernel)) (fun _ _ _ _ _ => pg_name (i := 1) scLampsL.nd rfl (Or.inl rfl)) (fun _ _ _ _ _ => pts_nil)
          (fun _ _ _ _ _ => pe_tup (pa_cons (pv 1) (pa_cons (pe_dget hu (pv 0) (pv 1) (fun _ _ => rfl)) pa_nil)))) pa_nil)) pa_nil))), ?_⟩
    have kc : (enc cs).map (fun kv => kV kv.1) = (cs.map (·.1)).map V.int := by
      unfold enc
      rw [List.map_map, List.map_map]
      rfl
    refine ⟨_, rfl, c, enc cs, rfl, hcs, fun l2 nl2 => ?_⟩
    rw [kc]
    refine ⟨l2, rfl, ⟨_, SqL.of upd_same⟩, fun D hD => ?_⟩
    have s2 := same_of (o := .lst ((cs.map (·.1)).map V.int)) nl2
    refine lc_genL (us := cs.map (·.1)) (enc := V.int) (out := fun n => some (n, levelAt cs n)) (Rel := IsP) isp_st hD (SqL.of upd_same) (by rw [List.length_map]; omega) ?_ ?_
    · intro i n H2 hn s3 R' Z' hRR hZ
      have hc2 := s3 _ _ (s2 _ _ hcs)
      have hv := val_some (List.mem_of_getElem? hn)
      have get : DGet H2 c (.int n) (some (.int (levelAt cs n))) := .inl ⟨enc cs, Sum.inl n, .inl hc2, rfl, hv.symm⟩
      refine ⟨rfl, ?_⟩
      dsimp only [gName, tNoPart, tYes]
      refine ⟨_, rfl, _, rfl, _, rfl, c, _, rfl, get, (by show 2 ≤ sizeLine; decide), fun tp ntp => ?_⟩
      exact hRR _ _ (n, levelAt cs n) rfl (same_of ntp) ⟨tp, rfl, upd_same⟩
    · intro H2 zs s3 hD' hp'
      obtain ⟨bs, ey, hb⟩ := isp_all hp'
      subst ey
      have e0 : (cs.map (·.1)).filterMap (fun n => some (n, levelAt cs n)) = cs := by
        rw [List.filterMap_eq_map', List.map_map]
        refine (List.map_congr_left (g := id) fun q hq => ?_).trans (List.map_id _)
        show (q.1, levelAt cs q.1) = q
        rw [Tc.mem hq]
      rw [e0] at hb
      refine ⟨D, bs, cs, rfl, SqL.of hD', hb, fun es rs p perm asc hes hp => ?_⟩
      refine ⟨p, _, rfl, SqL.of upd_same, fun t o nt ho => ?_⟩
      have s4 := same_of (o := .lst (es.map V.ref)) hp
      have s5 := same_of (o := .frz o (.tup (es.map V.ref))) nt
      have ndr : (rs.map (·.1)).Nodup := ((perm.map (·.1)).nodup_iff).mpr Tc.nd
      have Rr : Rising lv rs := ⟨lt_of_le_nodup asc ndr, fun q hq => Tc.lv q (perm.mem_iff.mp hq)⟩
      have all := s2.trans (s3.trans (s4.trans s5))
      refine q t rs _ all ⟨es, ⟨o, upd_same, ho⟩, L2.Paired.mapP hes fun a r z => s5 _ _ (s4 _ _ z)⟩ Rr (fun x => ?_) perm.length_eq (fun q hq => perm.mem_iff.mp hq) ((s2.trans (s3.trans s4)).free nt)
      rw [sum_levelAt ndr]
      by_cases hx : x ∈ rs.map (·.1)
      · obtain ⟨r, hr2, e⟩ := List.mem_map.mp hx
        rw [← e, (show levelAt rs r.1 = r.2 from Tab.mem ⟨ndr, Rr.lv⟩ hr2), Tc.mem (perm.mem_iff.mp hr2)]
      · rw [level_out hx, level_out fun z => hx ((perm.map (·.1)).mem_iff.mpr z)]
theorem ok_behind {f : Addr} {fd : FuncData} (F : Fun K "_law_behind" "_law_behind" sBehind f fd) (Ad : Dr P w K mg base spAdded "_law_added" ["_law_levels", "_law_one_here", "_law_other", "_law_move", "_law_by"] 1) : FnOk P w K mg base CX0 2 f fd ["_law_levels", "_law_one_here", "_law_two"] spBehind := by
  refine F.ok scBehind (fun vs H Q E h => ?_) (fun cdv A outer s H vs Q E hr h => ?_)
  · obtain ⟨lv, a, b, d1, d2, xs, ys, e1, e2, rfl, _⟩ := h
    rfl
  · obtain ⟨lv, a, b, d1, d2, xs, ys, e1, e2, rfl, ha, hb, h0, h100, Tx, Ty, hlen, q⟩ := h
    refine ⟨_, pss_one (ps_ret (pe_tup (pa_cons (pe_dr Ad (Nat.le_refl _) hr rfl (pa_cons (pv 0) (pa_cons (pe_ix ix_tup (pv 1) pe_int (fun _ _ => rfl)) (pa_cons (pe_ix ix_tup (pv 2) pe_int (fun _ _ => rfl)) (pa_cons (pe_ix ix_tup (pv 1) pe_int (fun _ _ => rfl)) (pa_cons pe_int pa_nil))))))
      (pa_cons (pe_op op_add (pe_ix ix_tup (pv 1) pe_int (fun _ _ => rfl)) (pe_ix ix_tup (pv 2) pe_int (fun _ _ => rfl))) pa_nil)))), ?_⟩
    refine ⟨_, rfl, _, rfl, a, _, 0, _, rfl, rfl, SqT.of ha.1, rfl, ?_⟩
    refine ⟨_, rfl, b, _, 0, _, rfl, rfl, SqT.of hb.1, rfl, ?_⟩
    refine ⟨_, rfl, a, _, 1, _, rfl, rfl, SqT.of ha.1, rfl, ?_⟩
    refine ⟨lv, e1, 1, d1, d2, xs, ys, rfl, .inl ha.2, hb.2, h0, h100, Tx, Ty, by decide, by decide, hlen, fun r zs H' s1 nr hz Tz hF hl => ?_⟩
    refine ⟨_, rfl, a, _, 1, _, rfl, rfl, SqT.of (s1 _ _ ha.1), rfl, ?_⟩
    refine ⟨_, rfl, b, _, 1, _, rfl, rfl, SqT.of (s1 _ _ hb.1), rfl, ?_⟩
    refine ⟨_, _, rfl, rfl, (by show 2 ≤ sizeLine; decide), fun t nt => ?_⟩
    have s2 := same_of (o := .tup [.ref r, .int (e1 + e2)]) nt
    exact q t r zs _ (s1.trans s2) ⟨upd_same, s2 _ _ hz⟩ Tz hF hl nr (s1.free nt)
theorem ok_back {f : Addr} {fd : FuncData} (F : Fun K "_law_back" "_law_back" sBack f fd) (Ad : Dr P w K mg base spAdded "_law_added" ["_law_levels", "_law_one_here", "_law_other", "_law_move", "_law_by"] 1) : FnOk P w K mg base CX0 2 f fd ["_law_levels", "_law_one_here"] spBack := by
  refine F.ok scBack (fun vs H Q E h => ?_) (fun cdv A outer s H vs Q E hr h => ?_)
  · obtain ⟨lv, a, d1, xs, e1, rfl, _⟩ := h
    rfl
  · obtain ⟨lv, a, d1, xs, e1, rfl, ha, h0, h100, Tx, hlen, q⟩ := h
    refine ⟨_, pss_one (ps_ret (pe_tup (pa_cons (pe_dr Ad (Nat.le_refl _) hr rfl (pa_cons (pv 0) (pa_cons pe_dnewK (pa_cons (pe_ix ix_tup (pv 1) pe_int (fun _ _ => rfl)) (pa_cons (pe_op op_sub pe_int (pe_ix ix_tup (pv 1) pe_int (fun _ _ => rfl))) (pa_cons (pe_un un_neg pe_int) pa_nil))))))
      (pa_cons (pe_op op_sub pe_int (pe_ix ix_tup (pv 1) pe_int (fun _ _ => rfl))) pa_nil)))), ?_⟩
    refine ⟨_, rfl, fun c nc => ?_⟩
    have s0 := same_of (o := .dK []) nc
    refine ⟨_, rfl, a, _, 0, _, rfl, rfl, SqT.of (s0 _ _ ha.1), rfl, ?_⟩
    refine ⟨_, rfl, a, _, 1, _, rfl, rfl, SqT.of (s0 _ _ ha.1), rfl, 0, e1, rfl, rfl, ?_⟩
    refine ⟨1, rfl, ?_⟩
    refine ⟨lv, 0 - e1, -1, c, d1, [], xs, rfl, .inl upd_same, s0 _ _ ha.2, h0, h100, Tab.nil lv, Tx, by decide, by decide, by simpa using hlen, fun r zs H' s1 nr hz Tz hF hl => ?_⟩
    refine ⟨_, rfl, a, _, 1, _, rfl, rfl, SqT.of (s1 _ _ (s0 _ _ ha.1)), rfl, 0, e1, rfl, rfl, ?_⟩
    refine ⟨(by show 2 ≤ sizeLine; decide), fun t nt => ?_⟩
    have s2 := same_of (o := .tup [.ref r, .int (0 - e1)]) nt
    have e0 : 0 - e1 = -e1 := Int.zero_sub e1
    show Q (.ref t) (upd H' t (.tup [.ref r, .int (0 - e1)]))
    rw [e0] at hF s2 ⊢
    exact q t r zs _ (s0.trans (s1.trans s2)) ⟨upd_same, s2 _ _ hz⟩ Tz hF (by simpa using hl) (s0.free nr) ((s0.trans s1).free nt)
end
end Lamp
set_option Elab.async false
set_option linter.all false
set_option maxRecDepth 100000
set_option maxHeartbeats 1000000
namespace Lamp
open PySem PySem.Spec PyProof.Rows L2
theorem seq_by {A B : TS} {D : Ends} {σ : L2.St} {H : Hp} (R : L2.St → Hp → Prop) (h : ∀ T : L2.St → Hp → Prop, (∀ σ' H', R σ' H' → T σ' H') → A { D with nx := T } σ H) (k : ∀ σ' H', R σ' H' → B D σ' H') : tSeq A B D σ H := h (B D) k
def timesF (lv : Int) (F : Int → Int) (e : Int) : Nat → Int → Int
  | 0, _ => 0
  | n + 1, p => (timesF lv F e n p + F (p - (n : Int) * e)) % lv
/-- what is done so often: the round, or it undone -/
def Turned (lv : Int) (xs : List (Int × Int)) (e m : Int) (ys : List (Int × Int)) (e' : Int) (n : Nat) : Prop :=
  (0 ≤ m ∧ m = (n : Int) ∧ ys = xs ∧ e' = e) ∨ (m < 0 ∧ m = -(n : Int) ∧ (∀ p, levelAt ys p = addF lv [] xs (-e) (-1) p) ∧ e' = -e)
def spTimes : Sp := fun vs H Q _ => ∃ (lv : Int) (a d : Addr) (xs : List (Int × Int)) (e m : Int), vs = [.int lv, .ref a, .int m] ∧ RdAt H a d xs e ∧ 0 < lv ∧ lv ≤ 100 ∧ Tab lv xs ∧ xs.length ≤ 20 ∧ -20 ≤ m ∧ m ≤ 20 ∧
  ∀ (r d' : Addr) (zs ys : List (Int × Int)) (e' : Int) (n : Nat) (H' : Hp), Same H H' → RdAt H' r d' zs ((n : Int) * e') → Tab lv zs → Tab lv ys → Turned lv xs e m ys e' n → (∀ p, levelAt zs p = timesF lv (levelAt ys) e' n p) → zs.length ≤ n * xs.length → H d' = none → H r = none → Q (.ref r) H'
section
variable {P : Program} {w : World} {K : PySem.W.Frag} {mg : Str → Option Value} {base : Heap}
theorem scTimes : FnScope ["_law_levels", "_law_one_here", "_law_many", "_law_found", "_law_turn"] ["_law_levels", "_law_one_here", "_law_many"] (defScope sTimes) := ⟨rfl, rfl, rfl, by decide +kernel, rfl, by decide +kernel, by decide +kernel⟩
theorem ok_times {f : Addr} {fd : FuncData} (F : Fun K "_law_times" "_law_times" sTimes f fd) (Bh : Dr P w K mg base spBehind "_law_behind" ["_law_levels", "_law_one_here", "_law_two"] 2) (Bk : Dr P w K mg base spBack "_law_back" ["_law_levels", "_law_one_here"] 2) (mr : mg "range" = none) :
    FnOk P w K mg base CX0 3 f fd ["_law_levels", "_law_one_here", "_law_many"] spTimes := by
  refine F.ok scTimes (fun vs H Q E h => ?_) (fun cdv A outer s H vs Q E hr h => ?_)
  · obtain ⟨lv, a, d, xs, e, m, rfl, _⟩ := h
    rfl
  · obtain ⟨lv, a, d, xs, e, m, rfl, ha, h0, h100, Tx, hlen, hm0, hm1, q⟩ := h
    refine ⟨_, pss_cons (ps_if (pt_cmpR op_lt (pv 2) pe_int (nomark _)) (pss_one (ps_par (i := 1) (j := 2) rfl scTimes.nd rfl rfl (by decide) rfl rfl (pa_cons (pe_dr Bk (Nat.le_refl _) hr rfl (pa_cons (pv 0) (pa_cons (pv 1) pa_nil))) (pa_cons (pe_op op_sub pe_int (pv 2)) pa_nil)) (by rfl))) pss_nil)
      (pss_cons (ps_set (i := 3) scTimes.nd rfl (.inl rfl) (pe_tup (pa_cons pe_dnewK (pa_cons pe_int pa_nil))))
      (pss_cons (ps_for PassesOwn.never rfl (pi_range1 rfl mr (pa_cons (pv 2) pa_nil)) (pg_name (i := 4) scTimes.nd rfl (.inl rfl))
        (pss_one (ps_set (i := 3) scTimes.nd rfl (.inl rfl) (pe_dr Bh (Nat.le_refl _) hr rfl (pa_cons (pv 0) (pa_cons (pv 3) (pa_cons (pv 1) pa_nil)))))))
      (pss_one (ps_ret (pv 3))))), ?_⟩
    refine seq_by (fun σ' H' => ∃ (b d1 : Addr) (ys : List (Int × Int)) (e' : Int) (n : Nat), σ' = [some (.int lv), some (.ref b), some (.int (n : Int)), none, none] ∧ Same H H' ∧ RdAt H' b d1 ys e' ∧ Tab lv ys ∧ ys.length ≤ xs.length ∧ n ≤ 20 ∧ Turned lv xs e m ys e' n) (fun T hT => ?_) ?_
    · by_cases hm : m < 0
      · refine st_yes (an_lt (x := m) (val_var rfl) val_c (decide_eq_true hm)) ?_
        refine ⟨_, rfl, _, rfl, lv, a, d, xs, e, rfl, ha, h0, h100, Tx, by omega, fun r d1 ys H' s1 hy Ty hF hl nd nr => ?_⟩
        refine ⟨_, rfl, 0, m, rfl, rfl, _, _, rfl, ?_⟩
        refine hT _ _ ⟨r, d1, ys, -e, m.natAbs, ?_, s1, hy, Ty, hl, by omega, .inr ⟨hm, by omega, hF, rfl⟩⟩
        have e0 : (0 : Int) - m = ((m.natAbs : Nat) : Int) := by omega
        show [some (V.int lv), some (V.ref r), some (V.int (0 - m)), none, none] = _
        rw [e0]
      · refine st_no (an_lt (x := m) (val_var rfl) val_c (decide_eq_false hm)) ?_
        refine hT _ _ ⟨a, d, xs, e, m.toNat, ?_, fun _ _ h => h, ha, Tx, Nat.le_refl _, by omega, .inl ⟨by omega, by omega, rfl, rfl⟩⟩
        have e0 : m = ((m.toNat : Nat) : Int) := by omega
        show [some (V.int lv), some (V.ref a), some (V.int m), none, none] = _
        rw [← e0]
    · rintro σ' H1 ⟨b, d1, ys, e', n, rfl, s1, hy, Ty, hl, hn, ht⟩
      refine fun c nc => ⟨(by show 2 ≤ sizeLine; decide), fun t nt => ?_⟩
      have s2 := same_of (o := .dK []) nc
      have s3 := same_of (o := .tup [.ref c, .int 0]) nt
      refine sq_forRn (n := n) (by omega) (fun i σ' H' => ∃ (x4 : Option V) (t c : Addr) (zs : List (Int × Int)), σ' = [some (.int lv), some (.ref b), some (.int (n : Int)), some (.ref t), x4] ∧ Same H1 H' ∧ RdAt H' t c zs ((i : Int) * e') ∧ Tab lv zs ∧ (∀ p, levelAt zs p = timesF lv (levelAt ys) e' i p) ∧ zs.length ≤ i * xs.length ∧ H1 c = none ∧ H1 t = none)
        ⟨none, t, c, [], rfl, s2.trans s3, ⟨by rw [show ((0 : Nat) : Int) * e' = 0 from Int.zero_mul _]; exact upd_same, s3 _ _ upd_same⟩, Tab.nil lv, fun p => rfl, Nat.zero_le _, nc, s2.free nt⟩ ?_ ?_ (val_var rfl)
      · rintro i σ' H2 hi ⟨x4, t2, c2, zs, rfl, s4, hz, Tz, hF, hlz, nc2, nt2⟩
        have hb1 : i * xs.length ≤ 20 * xs.length := Nat.mul_le_mul_right _ (by omega)
        refine ⟨_, rfl, _, rfl, _, rfl, lv, t2, b, c2, d1, zs, ys, (i : Int) * e', e', rfl, hz, hy.same s4, h0, h100, Tz, Ty, by omega, fun r d2 us H' s5 hu Tu hG hlu nd2 nr => ?_⟩
        refine ⟨_, r, d2, us, rfl, s4.trans s5, ?_, Tu, fun p => ?_, ?_, s4.free nd2, s4.free nr⟩
        · rw [show (((i + 1 : Nat)) : Int) * e' = (i : Int) * e' + e' from by rw [Int.natCast_add, Int.add_mul]; simp]
          exact hu
        · rw [hG]
          unfold addF
          rw [hF, Int.one_mul]
          rfl
        · rw [Nat.add_mul]
          omega
      · rintro σ' H2 ⟨x4, t2, c2, zs, rfl, s4, hz, Tz, hF, hlz, nc2, nt2⟩
        exact st_ret (v := .ref t2) (val_var rfl) (q t2 c2 zs ys e' n H2 (s1.trans s4) hz Tz Ty ht hF hlz (s1.free nc2) (s1.free nt2))
end
end Lamp
set_option Elab.async false
set_option linter.all false
set_option maxRecDepth 100000
set_option maxHeartbeats 1000000
namespace Lamp
open PySem PySem.Spec PyProof.Rows L2
abbrev sDrawn : Stmt := top 42
theorem put_mem {cs : List (Int × Int)} {k v : Int} {q : Int × Int} (h : q ∈ putI cs k v) : q ∈ cs ∨ q = (k, v) := by
  unfold putI at h
  split at h
  · obtain ⟨q0, h0, e⟩ := List.mem_map.mp h
    by_cases z : q0.1 = k
    · rw [if_pos z, z] at e
      exact .inr e.symm
    · rw [if_neg z] at e
      exact .inl (e ▸ h0)
  · rcases List.mem_append.mp h with z | z
    · exact .inl z
    · rcases List.mem_cons.mp z with e | e
      · exact .inr e
      · cases e
theorem Tab.put {lv : Int} {cs : List (Int × Int)} (T : Tab lv cs) {k v : Int} (h : 1 ≤ v ∧ v < lv) : Tab lv (putI cs k v) := ⟨(nodup_put T.nd k v).1, fun q hq => by
  rcases put_mem hq with z | z
  · exact T.lv q z
  · rw [z]; exact h⟩
/-- all places at most so far away -/
def Near (B : Int) (cs : List (Int × Int)) : Prop := ∀ q ∈ cs, -B ≤ q.1 ∧ q.1 ≤ B
def spDrawn : Sp := fun vs H Q _ => ∃ (p : Addr) (lv wd en : Int) (n : Nat), vs = [.ref p, .int lv, .int wd, .int en, .int (n : Int)] ∧ 2 ≤ lv ∧ lv ≤ 7 ∧ 0 ≤ wd ∧ wd ≤ 100 ∧ 0 ≤ en ∧ en ≤ 100 ∧ n ≤ 20 ∧ Well H p ∧
  ∀ (r d : Addr) (cs : List (Int × Int)) (e : Int) H', RdAt H' r d cs e → Tab lv cs → Near wd cs → -en ≤ e → e ≤ en → cs.length ≤ n → Well H' p → But p H H' → r ≠ p → d ≠ p → Q (.ref r) H'
section
variable {P : Program} {w : World} {K : PySem.W.Frag} {mg : Str → Option Value} {base : Heap}
theorem scDrawn : FnScope ["_law_well_here", "_law_levels", "_law_wide", "_law_ends", "_law_most", "_law_found", "_law_k"] ["_law_well_here", "_law_levels", "_law_wide", "_law_ends", "_law_most"] (defScope sDrawn) := ⟨rfl, rfl, rfl, by decide +kernel, rfl, by decide +kernel, by decide +kernel⟩
theorem ok_drawn {f : Addr} {fd : FuncData} (F : Fun K "_law_drawn" "_law_drawn" sDrawn f fd) (C : Dr P w K mg base spDraw "_law_draw" ["_law_well_here", "_law_many"] 1) (mr : mg "range" = none) :
    FnOk P w K mg base CX0 2 f fd ["_law_well_here", "_law_levels", "_law_wide", "_law_ends", "_law_most"] spDrawn := by
  refine F.ok scDrawn (fun vs H Q E h => ?_) (fun cdv A outer s H vs Q E hr h => ?_)
  · obtain ⟨p, lv, wd, en, n, rfl, _⟩ := h
    rfl
  · obtain ⟨p, lv, wd, en, n, rfl, l2, l7, w0, w1, n0, n1, hn, hp, q⟩ := h
    have hu := hu_of hr
    refine ⟨_, pss_cons (ps_set (i := 5) scDrawn.nd rfl (.inl rfl) pe_dnewK)
      (pss_cons (ps_for PassesOwn.never rfl (pi_range1 rfl mr (pa_cons (pe_dr C (Nat.le_refl _) hr rfl (pa_cons (pv 0) (pa_cons (pe_op op_add (pv 4) pe_int) pa_nil))) pa_nil)) (pg_name (i := 6) scDrawn.nd rfl (.inl rfl))
        (pss_one (ps_dput hu (pv 5) (pe_op op_sub (pe_dr C (Nat.le_refl _) hr rfl (pa_cons (pv 0) (pa_cons (pe_op op_add (pe_op op_mul pe_int (pv 2)) pe_int) pa_nil))) (pv 2)) (pe_op op_add pe_int (pe_dr C (Nat.le_refl _) hr rfl (pa_cons (pv 0) (pa_cons (pe_op op_sub (pv 1) pe_int) pa_nil)))) rfl)))
      (pss_one (ps_ret (pe_tup (pa_cons (pv 5) (pa_cons (pe_op op_sub (pe_dr C (Nat.le_refl _) hr rfl (pa_cons (pv 0) (pa_cons (pe_op op_add (pe_op op_mul pe_int (pv 3)) pe_int) pa_nil))) (pv 3)) pa_nil)))))), ?_⟩
    refine sq_setR (fun v H' => ∃ c, v = .ref c ∧ H c = none ∧ H' = upd H c (.dK [])) (fun Q' q' c hc => q' _ _ ⟨c, rfl, hc, rfl⟩) ?_
    rintro v H0 ⟨c, rfl, hc, rfl⟩
    have hcp : c ≠ p := hp.ne hc
    have s0 := same_of (o := .dK []) hc
    refine sq_forRr (fun m H' => 0 ≤ m ∧ m ≤ (n : Int) ∧ Well H' p ∧ But p (upd H c (.dK [])) H') (fun Q k => ?_) ?_
    · exact ⟨_, rfl, _, rfl, _, _, rfl, rfl, p, (n : Int) + 1, rfl, by omega, by omega, hp.same s0, fun r H1 r0 r1 hp1 bt1 => k _ _ ⟨r0, by omega, hp1, bt1⟩⟩
    · rintro m H1 ⟨m0, m1, hp1, bt1⟩
      have h1c := bt1 _ _ hcp upd_same
      have bt1' : But p H H1 := (But.of s0).trans bt1
      refine ⟨m.toNat, fun i σ' H' => ∃ (x6 : Option V) (cs : List (Int × Int)), σ' = [some (.ref p), some (.int lv), some (.int wd), some (.int en), some (.int (n : Int)), some (.ref c), x6] ∧ H' c = some (.dK (enc cs)) ∧ Tab lv cs ∧ Near wd cs ∧ cs.length ≤ i ∧ Well H' p ∧ But p H H', by omega, by omega,
        ⟨none, [], rfl, h1c, Tab.nil lv, fun q hq => (nomatch hq), Nat.le_refl _, hp1, bt1'⟩, ?_, ?_⟩
      · rintro i σ' H0 hi ⟨x6, cs, rfl, hcs, Tc, Nc, hl, hp0, bt0⟩
        refine ⟨_, rfl, _, rfl, _, _, rfl, rfl, p, lv - 1, rfl, by omega, by omega, hp0, fun r H2 r0 r1 hp2 bt2 => ⟨_, _, rfl, rfl, ?_⟩⟩
        refine ⟨_, rfl, _, rfl, _, rfl, 2, wd, rfl, rfl, mulL ⟨by decide, by decide⟩, _, _, rfl, rfl, p, 2 * wd + 1, rfl, by omega, by omega, hp2, fun r2 H3 r20 r21 hp3 bt3 => ⟨_, rfl, _, _, rfl, rfl, ?_⟩⟩
        have hcs3 := bt3 _ _ hcp (bt2 _ _ hcp hcs)
        refine ⟨c, _, rfl, DPut.k (k := Sum.inl (r2 - wd)) hcs3 ?_, ?_⟩
        · unfold enc
          rw [List.length_map]
          exact small1000 (by omega)
        · refine ⟨_, putI cs (r2 - wd) (1 + r), rfl, by rw [upd_same, enc_put], Tc.put ⟨by omega, by omega⟩, fun q hq => ?_, ?_, ?_, fun b o nb e => ?_⟩
          · rcases put_mem hq with z | z
            · exact Nc q z
            · rw [z]
              exact ⟨by show -wd ≤ r2 - wd; omega, by show r2 - wd ≤ wd; omega⟩
          · have := (nodup_put Tc.nd (r2 - wd) (1 + r)).2
            omega
          · obtain ⟨x, y, z, h3, hx⟩ := hp3
            exact ⟨x, y, z, by rw [upd_ne (Ne.symm hcp)]; exact h3, hx⟩
          · have nc : b ≠ c := fun z => by rw [z, hc] at e; cases e
            rw [upd_ne nc]
            exact bt3 _ _ nb (bt2 _ _ nb (bt0 _ _ nb e))
      · rintro σ' H0 ⟨x6, cs, rfl, hcs, Tc, Nc, hl, hp0, bt0⟩
        refine ⟨_, rfl, _, rfl, _, rfl, 2, en, rfl, rfl, mulL ⟨by decide, by decide⟩, _, _, rfl, rfl, p, 2 * en + 1, rfl, by omega, by omega, hp0, fun r2 H3 r20 r21 hp3 bt3 => ⟨_, rfl, _, _, rfl, rfl, ?_⟩⟩
        refine ⟨(by show 2 ≤ sizeLine; decide), fun t nt => ?_⟩
        have s4 := same_of (o := .tup [.ref c, .int (r2 - en)]) nt
        exact q t c cs (r2 - en) _ ⟨upd_same, s4 _ _ (bt3 _ _ hcp hcs)⟩ Tc Nc (by omega) (by omega) (by omega) (hp3.same s4) ((bt0.trans bt3).trans (But.of s4)) (hp3.ne nt) hcp
end
end Lamp
set_option Elab.async false
set_option linter.all false
set_option maxRecDepth 100000
set_option maxHeartbeats 1000000
namespace Lamp
open PySem PySem.Spec PyProof.Rows L2
abbrev sTextL : Stmt := top 41
theorem sheet_dark3 (lv fin : Int) : ("levels " : Str) ++ nS lv ++ (" end " : Str) ++ nS fin ++ (" dark" : Str) = sheetS lv [] fin := by
  rw [← sheet_dark, empty_app]
theorem sheet_lamps3 (lv fin : Int) (l : Int × Int) (r : List (Int × Int)) : ("levels " : Str) ++ nS lv ++ (" end " : Str) ++ nS fin ++ (" lamps " : Str) ++ Txt.join (" " : Str) ((l :: r).map lampS) = sheetS lv (l :: r) fin := by
  rw [← sheet_lamps, empty_app]
def rAddS : R2 := fun x y H Q => ∃ i j, x = .str i ∧ y = .str j ∧ i.length + j.length ≤ sizeLine ∧ Q (.str (i ++ j)) H
theorem op_addS {X : Cx} : OpR X (binaryOp .Add) rAddS := op_add_str
theorem v_cat {ta tb : TE} {σ : L2.St} {H : Hp} {x y : Str} (h1 : Val ta σ H (.str x)) (h2 : Val tb σ H (.str y)) (hl : x.length + y.length ≤ sizeLine) : Val (tOp rAddS ta tb) σ H (.str (x ++ y)) := val_op h1 h2 fun Q q => ⟨x, y, rfl, rfl, hl, q⟩
theorem v_str {ta : TE} {σ : L2.St} {H : Hp} {i : Int} (h : Val ta σ H (.int i)) (hi : i.natAbs < 10 ^ 40) : Val (tCB (fun xs H Q => ∃ i, xs = [.int i] ∧ i.natAbs.log2 < 1920 ∧ Q (.str (toString i)) H) (tCons ta tNil)) σ H (.str (nS i)) := fun Q q => h _ ⟨i, rfl, fits_log hi, q⟩
def spTextL (K : PySem.W.Frag) : Sp := fun vs H Q _ => ∃ (lv : Int) (a d : Addr) (cs : List (Int × Int)) (e : Int), vs = [.int lv, .ref a] ∧ RdAt H a d cs e ∧ 0 < lv ∧ lv ≤ 100 ∧ Tab lv cs ∧ Fit lv cs e ∧
  ∀ ls H', Same H H' → Rising lv ls → (∀ p, sumAt ls p = levelAt cs p) → Fit lv ls e → (∀ q ∈ ls, q ∈ cs) → Q (.str (sheetS lv ls e)) H'
section
variable {P : Program} {w : World} {K : PySem.W.Frag} {mg : Str → Option Value} {base : Heap} {C : Addr}
theorem scTextL : FnScope ["_law_levels", "_law_one_here", "_law_head", "_law_lamps_here", "_law_place_here", "_law_level"] ["_law_levels", "_law_one_here"] (defScope sTextL) := ⟨rfl, rfl, rfl, by decide +kernel, rfl, by decide +kernel, by decide +kernel⟩
theorem ok_textL {f : Addr} {fd : FuncData} (F : Fun K "_law_text" "_law_text" sTextL f fd) (La : Dr P w K mg base (spLampsL K) "_law_lamps" ["_law_found"] 1) (ms : mg "str" = none) : FnOk P w K mg base CX0 2 f fd ["_law_levels", "_law_one_here"] (spTextL K) := by
  refine F.ok scTextL (fun vs H Q E h => ?_) (fun cdv A outer s H vs Q E hr h => ?_)
  · obtain ⟨lv, a, d, cs, e, rfl, _⟩ := h
    rfl
  · obtain ⟨lv, a, d, cs, e, rfl, ha, h0, h100, Tc, hfc, q⟩ := h
    have hu := hr.units
    have e1 := nS_len hfc.lv
    have e2 := nS_len hfc.fin
    have c1 : ("levels " : Str).length = 7 := rfl
    have c2 : (" end " : Str).length = 5 := rfl
    have c3 : (" dark" : Str).length = 5 := rfl
    have c4 : (" lamps " : Str).length = 7 := rfl
    have c5 : (":" : Str).length = 1 := rfl
    have c6 : (" " : Str).length = 1 := rfl
    refine ⟨_, pss_cons (ps_set (i := 2) scTextL.nd rfl (.inl rfl) (pe_op op_addS (pe_op op_addS (pe_op op_addS pe_str (pe_callTy call_str_int (by rfl) ms (by decide +kernel) (pa_cons (pv 0) pa_nil))) pe_str) (pe_callTy call_str_int (by rfl) ms (by decide +kernel) (pa_cons (pe_ix ix_tup (pv 1) pe_int (fun _ _ => rfl)) pa_nil))))
      (pss_cons (ps_set (i := 3) scTextL.nd rfl (.inl rfl) (pe_dr La (by decide) hr rfl (pa_cons (pe_ix ix_tup (pv 1) pe_int (fun _ _ => rfl)) pa_nil)))
      (pss_cons (ps_if (pt_cmpR (op_eqD hu) (pv 3) (pe_tup pa_nil) (nomark _)) (pss_one (ps_ret (pe_op op_addS (pv 2) pe_str))) pss_nil)
      (pss_one (ps_ret (pe_op op_addS (pe_op op_addS (pv 2) pe_str) (pe_join pe_str (pe_lc (own := [("_law_place_here", 4), ("_law_level", 5)]) (g := gTup K 2 (gCons (gName 4) (gCons (gName 5) gNil))) (tt := tYes) rfl scTextL.nd (pi_tup (pv 3))
          (blkOk_by (own := [("_law_place_here", 4), ("_law_level", 5)]) (N := ["_law_levels", "_law_one_here", "_law_head", "_law_lamps_here", "_law_place_here", "_law_level"]) (sc := defScope sTextL) (by decide +kernel))
          (fun _ _ _ _ _ => pg_tup rfl (pgs_cons (pg_name (i := 4) scTextL.nd rfl (Or.inl rfl)) (pgs_cons (pg_name (i := 5) scTextL.nd rfl (Or.inl rfl)) pgs_nil))) (fun _ _ _ _ _ => pts_nil)
          (fun _ _ _ _ _ => pe_op op_addS (pe_op op_addS (pe_callTy call_str_int (by rfl) ms (by decide +kernel) (pa_cons (pv 4) pa_nil)) pe_str) (pe_callTy call_str_int (by rfl) ms (by decide +kernel) (pa_cons (pv 5) pa_nil)))))))))), ?_⟩
    refine sq_set (v := .str (("levels " : Str) ++ nS lv ++ (" end " : Str) ++ nS e)) ?_ ?_
    · refine v_cat (v_cat (v_cat val_c (v_str (val_var rfl) hfc.lv) ?_) val_c ?_) (v_str (fun Q q => ⟨_, rfl, a, _, 1, _, rfl, rfl, SqT.of ha.1, rfl, q⟩) hfc.fin) ?_
      all_goals
        first | exact le_line (by omega) | (simp only [len_app]; exact le_line (by omega))
    refine ⟨_, rfl, a, _, 0, _, rfl, rfl, SqT.of ha.1, rfl, ?_⟩
    refine ⟨lv, d, cs, rfl, ha.2, h0, Tc, by have := hfc.few; omega, fun t ls H1 s1 hpB Rl hF hlen hsub nt => ?_⟩
    have hp : PicAt K H1 t ls := hpB.at
    have hf : Fit lv ls e := ⟨hfc.lv, hfc.fin, by rw [hlen]; exact hfc.few, fun q hq => hfc.all q (hsub q hq)⟩
    obtain ⟨as, ht, hal, hat⟩ := pair_get hp
    cases ls with
    | nil =>
      refine ⟨_, rfl, le_line (by show 0 ≤ 9000; decide), fun p np => ?_⟩
      have s2 := same_of (o := .tup []) np
      refine ⟨.tuple [], .tuple [], dp_pic (PicAt.same (H := H1) hp s2), .tup (SqT.of upd_same) .nil, by decide +kernel, by decide +kernel, true, rfl, ?_⟩
      refine iteT ?_
      refine st_ret (v := .str (sheetS lv [] e)) ?hv ?hq
      case hq => exact q _ _ (s1.trans s2) Rl hF hf hsub
      rw [← sheet_dark3]
      refine v_cat (val_var rfl) val_c ?_
      simp only [len_app]
      exact le_line (by omega)
    | cons q0 r0 =>
      refine ⟨_, rfl, le_line (by show 0 ≤ 9000; decide), fun p np => ?_⟩
      have s2 := same_of (o := .tup []) np
      refine ⟨.tuple ((q0 :: r0).map pairD), .tuple [], dp_pic (PicAt.same (H := H1) hp s2), .tup (SqT.of upd_same) .nil, (shaped_pairs (q0 :: r0)).2, by decide +kernel, false, rfl, ?_⟩
      refine iteF ?_
      dsimp only [tNext]
      have ht1 := rd_same ht s2
      have hat1 : ∀ (i : Nat) (a : Addr) (q : Int × Int), as[i]? = some a → (q0 :: r0)[i]? = some q → (upd H1 p (.tup [])) a = some (.tup [.int q.1, .int q.2]) := fun i a q h1 h2 => s2 _ _ (hat i a q h1 h2)
      revert s2 ht1 hat1
      generalize (upd H1 p (.tup [])) = H2
      intro s2 ht1 hat1
      refine v_cat (val_var rfl) val_c (by simp only [len_app]; exact le_line (by omega)) _ ?_
      refine ⟨⟨_, rfl⟩, _, rfl, t, rfl, ⟨_, .inl ht1⟩, fun D hD => ?_⟩
      refine lc_tup (K := K) (a := t) (xs := as.map V.ref) (fun i H' => Same H2 H' ∧ H' D = some (.lst ((((q0 :: r0).take i).map lampS).map V.str))) ⟨same_of hD, upd_same⟩ (fun i H' _ z => .inl (rd_same ht1 z.1)) (fun i x H' hi z => ?_) (fun H' z => ?_)
      · obtain ⟨sb, hl'⟩ := z
        rw [List.getElem?_map] at hi
        cases ea : as[i]? with
        | none => rw [ea] at hi; cases hi
        | some a =>
          rw [ea] at hi
          have ex : x = V.ref a := (Option.some.inj hi).symm
          subst ex
          have li : i < (q0 :: r0).length := by
            rw [← hal]
            exact (List.getElem?_eq_some_iff.mp ea).1
          have eq := List.getElem?_eq_getElem li
          have ha := sb _ _ (hat1 i a _ ea eq)
          have fq := hf.all _ (List.getElem_mem li)
          have f1 := nS_len fq.1
          have f2 := nS_len fq.2
          have few := hf.few
          refine ⟨a, _, rfl, SqT.of ha, rfl, _, _, rfl, _, _, rfl, rfl, rfl, ?_⟩
          refine v_cat (v_cat (v_str (val_var rfl) fq.1) val_c (le_line (by omega))) (v_str (val_var rfl) fq.2) (by simp only [len_app]; exact le_line (by omega)) _ ?_
          refine ⟨_, hl', ?_, fun b o e => ?_, ?_⟩
          · rw [List.length_map, List.length_map, List.length_take]
            exact small1000 (by omega)
          · have nb : b ≠ D := fun z => by rw [z, hD] at e; cases e
            rw [upd_ne nb]
            exact sb _ _ e
          · rw [upd_same, List.take_add_one, eq, List.map_append, List.map_append]
            rfl
      · obtain ⟨sb, hl'⟩ := z
        rw [List.length_map, hal, List.take_length] at hl'
        have jl := joined_len hf.all
        have fl := hf.few
        refine ⟨_, D, (q0 :: r0).map lampS, rfl, rfl, .inl (SqL.of hl'), ?_, ?_⟩
        · have h1 := lampsum hf.all
          have h2 : (" " : Str).length = 1 := rfl
          rw [h2]
          simp only [List.length_map]
          have : (9000 : Nat) ≤ sizeLine := by decide
          omega
        · refine ⟨_, _, rfl, rfl, ?_, ?_⟩
          · simp only [len_app]
            exact le_line (by omega)
          · have e3 := sheet_lamps3 lv e q0 r0
            rw [e3]
            exact q _ _ (s1.trans (s2.trans sb)) Rl hF hf hsub
end
end Lamp
set_option Elab.async false
set_option linter.all false
set_option maxRecDepth 100000
set_option maxHeartbeats 1000000
namespace Lamp
open PySem PySem.Spec PyProof.Rows L2
abbrev sPair : Stmt := top 43
theorem key_near {B : Int} {cs : List (Int × Int)} {p : Int} (N : Near B cs) (h : levelAt cs p ≠ 0) : -B ≤ p ∧ p ≤ B := by
  obtain ⟨q, hq, e⟩ := List.mem_map.mp (Tab.key h)
  rw [← e]
  exact N q hq
theorem timesF_some {lv : Int} {F : Int → Int} {e : Int} : ∀ {n : Nat} {p : Int}, timesF lv F e n p ≠ 0 → ∃ i : Nat, i < n ∧ F (p - (i : Int) * e) ≠ 0
  | 0, _, h => absurd rfl h
  | n + 1, p, h => by
    by_cases h1 : F (p - (n : Int) * e) = 0
    · have h2 : timesF lv F e n p ≠ 0 := fun z => h (by
        show (timesF lv F e n p + F (p - (n : Int) * e)) % lv = 0
        rw [z, h1]
        exact Int.zero_emod _)
      obtain ⟨i, hi, h3⟩ := timesF_some h2
      exact ⟨i, by omega, h3⟩
    · exact ⟨n, by omega, h1⟩
theorem addF_some {lv mv tm p : Int} {xs ys : List (Int × Int)} (h : addF lv xs ys mv tm p ≠ 0) : levelAt xs p ≠ 0 ∨ levelAt ys (p - mv) ≠ 0 := by
  by_cases h1 : levelAt xs p = 0
  · refine .inr fun z => h ?_
    unfold addF
    rw [h1, z, Int.mul_zero]
    exact Int.zero_emod _
  · exact .inl h1
theorem times_near {lv e m e' : Int} {xs ys zs : List (Int × Int)} {n : Nat} (Tz : Tab lv zs) (N : Near 4 xs) (h1 : -3 ≤ e) (h2 : e ≤ 3) (hn : n ≤ 3) (ht : Turned lv xs e m ys e' n) (hF : ∀ p, levelAt zs p = timesF lv (levelAt ys) e' n p) : Near 1000 zs := fun q hq => by
  have hz : levelAt zs q.1 ≠ 0 := by
    rw [Tz.mem hq]
    have := (Tz.lv q hq).1
    omega
  rw [hF] at hz
  obtain ⟨i, hi, h3⟩ := timesF_some hz
  have hb : -4 ≤ q.1 - (i : Int) * e' + 0 - 3 ∧ q.1 - (i : Int) * e' ≤ 4 + 3 ∨ -7 ≤ q.1 - (i : Int) * e' ∧ q.1 - (i : Int) * e' ≤ 7 := by
    rcases ht with ⟨_, _, e1, e2⟩ | ⟨_, _, hG, e2⟩
    · rw [e1] at h3
      have := key_near N h3
      omega
    · rw [hG] at h3
      rcases addF_some h3 with z | z
      · exact absurd rfl z
      · have := key_near N z
        omega
  have he : -3 ≤ e' ∧ e' ≤ 3 := by
    rcases ht with ⟨_, _, _, e2⟩ | ⟨_, _, _, e2⟩ <;> omega
  have hi3 : i = 0 ∨ i = 1 ∨ i = 2 := by omega
  rcases hi3 with rfl | rfl | rfl
  all_goals omega
/-- a round of tables that is not great -/
structure Fair (lv : Int) (cs : List (Int × Int)) (e : Int) : Prop where
  tab : Tab lv cs
  near : Near 1000 cs
  few : cs.length ≤ 12
  lo : -1000000000000000000000000000 ≤ e
  hi : e ≤ 1000000000000000000000000000
theorem Near.wide {B C : Int} {cs : List (Int × Int)} (N : Near B cs) (h : B ≤ C) : Near C cs := fun q hq => by
  have := N q hq
  omega
theorem Turned.few {lv e m e' : Int} {xs ys : List (Int × Int)} {n : Nat} (h : Turned lv xs e m ys e' n) : m = (n : Int) ∨ m = -(n : Int) := by
  rcases h with ⟨_, h, _⟩ | ⟨_, h, _⟩
  · exact .inl h
  · exact .inr h
theorem Turned.end {lv e m e' : Int} {xs ys : List (Int × Int)} {n : Nat} (h : Turned lv xs e m ys e' n) (h1 : -3 ≤ e) (h2 : e ≤ 3) (hn : n ≤ 3) : -1000000000000000000000000000 ≤ (n : Int) * e' ∧ (n : Int) * e' ≤ 1000000000000000000000000000 := by
  have he : -3 ≤ e' ∧ e' ≤ 3 := by
    rcases h with ⟨_, _, _, e2⟩ | ⟨_, _, _, e2⟩ <;> omega
  have hi3 : n = 0 ∨ n = 1 ∨ n = 2 ∨ n = 3 := by omega
  rcases hi3 with rfl | rfl | rfl | rfl
  all_goals omega
def spPair : Sp := fun vs H Q _ => ∃ (p : Addr) (lv : Int), vs = [.ref p, .int lv] ∧ 2 ≤ lv ∧ lv ≤ 7 ∧ Well H p ∧
  ∀ (r r1 r2 d1 d2 : Addr) (xs ys : List (Int × Int)) (e1 e2 : Int) H', H' r = some (.tup [.ref r1, .ref r2]) → RdAt H' r1 d1 xs e1 → RdAt H' r2 d2 ys e2 → Fair lv xs e1 → Fair lv ys e2 → Well H' p → But p H H' → Q (.ref r) H'
section
variable {P : Program} {w : World} {K : PySem.W.Frag} {mg : Str → Option Value} {base : Heap}
theorem scPair : FnScope ["_law_well_here", "_law_levels", "_law_one_here", "_law_two", "_law_way", "_law_far"] ["_law_well_here", "_law_levels"] (defScope sPair) := ⟨rfl, rfl, rfl, by decide +kernel, rfl, by decide +kernel, by decide +kernel⟩
theorem RdAt.but {p : Addr} {H H' : Hp} {t d : Addr} {cs : List (Int × Int)} {e : Int} (h : RdAt H t d cs e) (b : But p H H') (h1 : t ≠ p) (h2 : d ≠ p) : RdAt H' t d cs e := ⟨b _ _ h1 h.1, b _ _ h2 h.2⟩
theorem ok_pair {f : Addr} {fd : FuncData} (F : Fun K "_law_pair" "_law_pair" sPair f fd) (C : Dr P w K mg base spDraw "_law_draw" ["_law_well_here", "_law_many"] 1) (Gr : Dr P w K mg base spGreat "_law_great" ["_law_well_here"] 2)
    (Dw : Dr P w K mg base spDrawn "_law_drawn" ["_law_well_here", "_law_levels", "_law_wide", "_law_ends", "_law_most"] 2) (Tm : Dr P w K mg base spTimes "_law_times" ["_law_levels", "_law_one_here", "_law_many"] 3) :
    FnOk P w K mg base CX0 4 f fd ["_law_well_here", "_law_levels"] spPair := by
  refine F.ok scPair (fun vs H Q E h => ?_) (fun cdv A outer s H vs Q E hr h => ?_)
  · obtain ⟨p, lv, rfl, _⟩ := h
    rfl
  · obtain ⟨p, lv, rfl, l2, l7, hp, q⟩ := h
    refine ⟨_, pss_cons (ps_par (i := 2) (j := 3) rfl scPair.nd rfl rfl (by decide) rfl rfl (pa_cons (pe_dr Dw (by decide) hr rfl (pa_cons (pv 0) (pa_cons (pv 1) (pa_cons pe_int (pa_cons pe_int (pa_cons pe_int pa_nil)))))) (pa_cons (pe_dr Dw (by decide) hr rfl (pa_cons (pv 0) (pa_cons (pv 1) (pa_cons pe_int (pa_cons pe_int (pa_cons pe_int pa_nil)))))) pa_nil)) (by rfl))
      (pss_cons (ps_set (i := 4) scPair.nd rfl (.inl rfl) (pe_dr C (by decide) hr rfl (pa_cons (pv 0) (pa_cons pe_int pa_nil))))
      (pss_cons (ps_if (pt_cmpR op_eq (pv 4) pe_int (nomark _)) (pss_one (ps_ret (pe_tup (pa_cons (pe_dr Tm (by decide) hr rfl (pa_cons (pv 1) (pa_cons (pv 2) (pa_cons (pe_dr C (by decide) hr rfl (pa_cons (pv 0) (pa_cons pe_int pa_nil))) pa_nil)))) (pa_cons (pe_dr Tm (by decide) hr rfl (pa_cons (pv 1) (pa_cons (pv 2) (pa_cons (pe_op op_sub (pe_dr C (by decide) hr rfl (pa_cons (pv 0) (pa_cons pe_int pa_nil))) pe_int) pa_nil)))) pa_nil))))) pss_nil)
      (pss_cons (ps_if (pt_cmpR op_eq (pv 4) pe_int (nomark _)) (pss_one (ps_ret (pe_tup (pa_cons (pe_tup (pa_cons (pe_ix ix_tup (pv 2) pe_int (fun _ _ => rfl)) (pa_cons pe_int pa_nil))) (pa_cons (pe_tup (pa_cons (pe_ix ix_tup (pv 3) pe_int (fun _ _ => rfl)) (pa_cons pe_int pa_nil))) pa_nil))))) pss_nil)
      (pss_cons (ps_if (pt_cmpR op_eq (pv 4) pe_int (nomark _)) (pss_cons (ps_set (i := 5) scPair.nd rfl (.inl rfl) (pe_dr Gr (by decide) hr rfl (pa_cons (pv 0) pa_nil))) (pss_one (ps_ret (pe_tup (pa_cons (pe_tup (pa_cons pe_dnewK (pa_cons (pv 5) pa_nil))) (pa_cons (pe_tup (pa_cons pe_dnewK (pa_cons (pe_ix ix_tup (pv 3) pe_int (fun _ _ => rfl)) pa_nil))) pa_nil)))))) pss_nil)
      (pss_one (ps_ret (pe_tup (pa_cons (pv 2) (pa_cons (pv 3) pa_nil))))))))), ?_⟩
    refine ⟨_, rfl, _, rfl, p, lv, 4, 3, 4, rfl, l2, l7, by decide, by decide, by decide, by decide, by decide, hp, fun a d1 xs e1 H1 ha Tx Nx e10 e11 lx hp1 bt1 ap dp => ?_⟩
    refine ⟨_, rfl, _, rfl, p, lv, 4, 3, 4, rfl, l2, l7, by decide, by decide, by decide, by decide, by decide, hp1, fun b d2 ys e2 H2 hb Ty Ny e20 e21 ly hp2 bt2 bp dp2 => ⟨_, _, rfl, ?_⟩⟩
    have ha2 := ha.but bt2 ap dp
    refine ⟨_, rfl, p, 4, rfl, by decide, by decide, hp2, fun wy H3 w0 w1 hp3 bt3 => ?_⟩
    have ha3 := ha2.but bt3 ap dp
    have hb3 := hb.but bt3 bp dp2
    have bt03 := (bt1.trans bt2).trans bt3
    by_cases c0 : wy = 0
    · subst c0
      refine sq_yes (ans_eq (x := .int 0) (y := .int 0) (val_var rfl) val_c rfl rfl) ?_
      refine ⟨_, rfl, _, rfl, _, rfl, p, 4, rfl, by decide, by decide, hp3, fun m H4 m0 m1 hp4 bt4 => ?_⟩
      have ha4 := ha3.but bt4 ap dp
      refine ⟨lv, a, d1, xs, e1, m, rfl, ha4, by omega, by omega, Tx, by omega, by omega, by omega, fun r1 c1 zs us e' n H5 s5 hz Tz Tu ht hF hl nc nr => ?_⟩
      have hp5 := hp4.same s5
      refine ⟨_, rfl, _, rfl, _, rfl, p, 7, rfl, by decide, by decide, hp5, fun m2 H6 m20 m21 hp6 bt6 => ⟨_, _, rfl, rfl, ?_⟩⟩
      have ha6 := (ha4.same s5).but bt6 ap dp
      refine ⟨lv, a, d1, xs, e1, m2 - 3, rfl, ha6, by omega, by omega, Tx, by omega, by omega, by omega, fun r2 c2 zs2 us2 e2' n2 H7 s7 hz2 Tz2 Tu2 ht2 hF2 hl2 nc2 nr2 => ?_⟩
      refine ⟨(by show 2 ≤ sizeLine; decide), fun t nt => ?_⟩
      have s8 := same_of (o := .tup [.ref r1, .ref r2]) nt
      have hz7 := ((hz.but bt6 (hp4.ne nr) (hp4.ne nc)).same s7).same s8
      have n3 : n ≤ 3 := by rcases ht.few with z | z <;> omega
      have n32 : n2 ≤ 3 := by rcases ht2.few with z | z <;> omega
      have f1 : zs.length ≤ 12 := Nat.le_trans hl (Nat.le_trans (Nat.mul_le_mul n3 lx) (by decide))
      have f2 : zs2.length ≤ 12 := Nat.le_trans hl2 (Nat.le_trans (Nat.mul_le_mul n32 lx) (by decide))
      have t1 := ht.end (by omega) (by omega) n3
      have t2 := ht2.end (by omega) (by omega) n32
      exact q t r1 r2 c1 c2 zs zs2 _ _ _ upd_same hz7 (hz2.same s8) ⟨Tz, times_near Tz Nx (by omega) (by omega) n3 ht hF, f1, t1.1, t1.2⟩ ⟨Tz2, times_near Tz2 Nx (by omega) (by omega) n32 ht2 hF2, f2, t2.1, t2.2⟩ ((hp6.same s7).same s8)
        ((((bt03.trans bt4).trans (But.of s5)).trans bt6).trans (But.of (s7.trans s8)))
    · refine sq_no (ans_eq (x := .int wy) (y := .int 0) (val_var rfl) val_c rfl (decide_eq_false fun z => c0 (V.int.inj z))) ?_
      by_cases c1 : wy = 1
      · subst c1
        refine sq_yes (ans_eq (x := .int 1) (y := .int 1) (val_var rfl) val_c rfl rfl) ?_
        refine ⟨_, rfl, a, _, 0, _, rfl, rfl, SqT.of ha3.1, rfl, (by show 2 ≤ sizeLine; decide), fun t1 nt1 => ?_⟩
        have s4 := same_of (o := .tup [.ref d1, .int 0]) nt1
        refine ⟨_, rfl, b, _, 0, _, rfl, rfl, SqT.of (s4 _ _ hb3.1), rfl, (by show 2 ≤ sizeLine; decide), fun t2 nt2 => ⟨(by show 2 ≤ sizeLine; decide), fun t nt => ?_⟩⟩
        have s5 := same_of (o := .tup [.ref d2, .int 0]) nt2
        have s6 := same_of (o := .tup [.ref t1, .ref t2]) nt
        exact q t t1 t2 d1 d2 xs ys 0 0 _ upd_same ⟨s6 _ _ (s5 _ _ upd_same), s6 _ _ (s5 _ _ (s4 _ _ ha3.2))⟩ ⟨s6 _ _ upd_same, s6 _ _ (s5 _ _ (s4 _ _ hb3.2))⟩ ⟨Tx, Nx.wide (by decide), by omega, by decide, by decide⟩ ⟨Ty, Ny.wide (by decide), by omega, by decide, by decide⟩
          (((hp3.same s4).same s5).same s6) (bt03.trans (But.of ((s4.trans s5).trans s6)))
      · refine sq_no (ans_eq (x := .int wy) (y := .int 1) (val_var rfl) val_c rfl (decide_eq_false fun z => c1 (V.int.inj z))) ?_
        by_cases c2 : wy = 2
        · subst c2
          refine sq_yes (ans_eq (x := .int 2) (y := .int 2) (val_var rfl) val_c rfl rfl) ?_
          refine ⟨_, rfl, p, rfl, hp3, fun far H4 f0 f1 hp4 bt4 => ?_⟩
          have hb4 := hb3.but bt4 bp dp2
          refine fun g1 ng1 => ?_
          have s5 := same_of (o := .dK []) ng1
          refine ⟨_, rfl, (by show 2 ≤ sizeLine; decide), fun t1 nt1 => ?_⟩
          have s6 := same_of (o := .tup [.ref g1, .int far]) nt1
          refine fun g2 ng2 => ?_
          have s7 := same_of (o := .dK []) ng2
          refine ⟨_, rfl, b, _, 1, _, rfl, rfl, SqT.of (s7 _ _ (s6 _ _ (s5 _ _ hb4.1))), rfl, (by show 2 ≤ sizeLine; decide), fun t2 nt2 => ⟨(by show 2 ≤ sizeLine; decide), fun t nt => ?_⟩⟩
          have s8 := same_of (o := .tup [.ref g2, .int e2]) nt2
          have s9 := same_of (o := .tup [.ref t1, .ref t2]) nt
          have all := ((((s5.trans s6).trans s7).trans s8).trans s9)
          exact q t t1 t2 g1 g2 [] [] far e2 _ upd_same ⟨s9 _ _ (s8 _ _ (s7 _ _ upd_same)), s9 _ _ (s8 _ _ (s7 _ _ (s6 _ _ upd_same)))⟩ ⟨s9 _ _ upd_same, s9 _ _ (s8 _ _ upd_same)⟩ ⟨Tab.nil lv, fun q hq => (nomatch hq), by decide, by omega, by omega⟩ ⟨Tab.nil lv, fun q hq => (nomatch hq), by decide, by omega, by omega⟩
            (hp4.same all) ((bt03.trans bt4).trans (But.of all))
        · refine sq_no (ans_eq (x := .int wy) (y := .int 2) (val_var rfl) val_c rfl (decide_eq_false fun z => c2 (V.int.inj z))) ?_
          refine ⟨_, rfl, _, rfl, (by show 2 ≤ sizeLine; decide), fun t nt => ?_⟩
          have s4 := same_of (o := .tup [.ref a, .ref b]) nt
          exact q t a b d1 d2 xs ys e1 e2 _ upd_same (ha3.same s4) (hb3.same s4) ⟨Tx, Nx.wide (by decide), by omega, by omega, by omega⟩ ⟨Ty, Ny.wide (by decide), by omega, by omega, by omega⟩ (hp3.same s4) (bt03.trans (But.of s4))
end
end Lamp
set_option Elab.async false
set_option linter.all false
set_option maxRecDepth 100000
set_option maxHeartbeats 2000000
namespace Lamp
open PySem PySem.Spec PyProof.Rows L2 ClX
abbrev sCommute : Stmt := top 30
/-- the class's reading of a text -/
structure RdR (P : Program) (w : World) (K : PySem.W.Frag) (mg : Str → Option Value) (base : Heap) (C : Addr) : Prop where
  ex : ∃ (mc : Value) (p g : Addr) (fd : FuncData), CRead K C mc ∧ CMet K C mc "read" p g ∧ FnOk P w K mg base CX0 6 g fd ["cls", "text"] (spRead K C) ∧ Binds K fd ["cls", "text"] []
def spRead1 (K : PySem.W.Frag) (C : Addr) : Sp := fun vs H Q E => spRead K C (vs ++ []) H Q E
theorem pe_rdR {X : Cx} {C : Addr} {o e : Expr} {ta : TE} {t : TA} {pos apos : Pos} {pl : Sem Bool} (Z : RdR X.prog X.w X.K X.mg X.base C) (hr : Room 6 X.A) (he : PE X o ta) (ha : PA X [e] t)
    (hst : starEach [e] X.env = (false, eval e X.env) :: starEach [] X.env := by rfl) (hpl : (backTo pos (starEach [] X.env)).any (·.1) = false := by rfl)
    (ht : eval (.Call (.Attribute o "read" apos) [e] [] pos) X.env = (do
      let ov ← eval o X.env
      standAt apos.atName
      let (f, first) ← holding [ov] (getMethod ov "read" pl)
      callWith pos f first (backTo pos (starEach [e] X.env)) (backToKw pos (keywordEach [] X.env))) := by rfl) :
    PE X (.Call (.Attribute o "read" apos) [e] [] pos) (tCMeth C (spRead1 X.K C) E0 ta t) := by
  obtain ⟨mc, p, g, fd, r, c, F, b⟩ := Z.ex
  exact pe_cmeth he r c (F.raw b .nil) hr pass0 ha hst hpl ht
/-- at a: a round of such a picture -/
structure RndW (K : PySem.W.Frag) (C : Addr) (H : Hp) (a : Addr) (lv fin : Int) (ls : List (Int × Int)) : Prop where
  ex : ∃ t, RoundAt C H a lv t fin ∧ PicAt K H t ls
  good : goodLv lv
  pic : IsPicW lv ls
theorem RndW.same {K : PySem.W.Frag} {C : Addr} {H H' : Hp} {a : Addr} {lv fin : Int} {ls : List (Int × Int)} (h : RndW K C H a lv fin ls) (s : Same H H') : RndW K C H' a lv fin ls := by
  obtain ⟨⟨t, h1, h2⟩, h3, h4⟩ := h
  exact ⟨⟨t, h1.same s, h2.same s⟩, h3, h4⟩
theorem Rising.w {lv : Int} {ls : List (Int × Int)} (h : Rising lv ls) (few : ls.length ≤ 400) : IsPicW lv ls := ⟨h.asc, h.lv, few⟩
theorem IsPicW.rise {lv : Int} {ls : List (Int × Int)} (h : IsPicW lv ls) : Rising lv ls := ⟨h.asc, h.lv⟩
theorem good_pos {lv : Int} (h : goodLv lv) : 0 < lv ∧ lv ≤ 7 := by
  rcases h with h | h | h | h <;> omega
theorem lev_small {lv : Int} {ls : List (Int × Int)} (h : goodLv lv) (p : IsPicW lv ls) : ∀ q ∈ ls, -100 ≤ q.2 ∧ q.2 ≤ 100 := fun q hq => by
  have := p.lv q hq
  have := good_pos h
  omega
/-! two tables that tell the same -/
theorem nd_sub_len : ∀ {a b : List Int}, a.Nodup → (∀ x ∈ a, x ∈ b) → a.length ≤ b.length
  | [], _, _, _ => Nat.zero_le _
  | y :: ys, b, h, s => by
    cases h with
    | cons h1 h2 =>
      have hy : y ∈ b := s y (List.mem_cons_self ..)
      have z := nd_sub_len (b := b.erase y) h2 fun x hx => (List.mem_erase_of_ne fun e => h1 x hx e.symm).mpr (s x (List.mem_cons_of_mem _ hx))
      have l := List.length_erase_of_mem hy
      have pos : 0 < b.length := List.length_pos_of_mem hy
      rw [List.length_cons]
      omega
theorem nd_back {a b : List Int} (h : a.Nodup) (s : ∀ x ∈ a, x ∈ b) (l : b.length ≤ a.length) : ∀ x ∈ b, x ∈ a := fun x hx => by
  by_cases z : x ∈ a
  · exact z
  · have q := nd_sub_len (b := b.erase x) h fun y hy => (List.mem_erase_of_ne fun e => z (by rw [← e]; exact hy)).mpr (s y hy)
    have l2 := List.length_erase_of_mem hx
    have pos : 0 < b.length := List.length_pos_of_mem hx
    omega
theorem Tab.live {lv : Int} {cs : List (Int × Int)} (T : Tab lv cs) {p : Int} (h : p ∈ cs.map (·.1)) : levelAt cs p ≠ 0 := by
  obtain ⟨q, hq, e⟩ := List.mem_map.mp h
  rw [← e, T.mem hq]
  have := (T.lv q hq).1
  omega
theorem same_iff {lv : Int} {zs us : List (Int × Int)} (T1 : Tab lv zs) (T2 : Tab lv us) : sameD (enc zs) (enc us) = true ↔ ∀ p, levelAt zs p = levelAt us p := by
  have len : ∀ cs : List (Int × Int), (enc cs).length = (cs.map (·.1)).length := fun cs => by
    unfold enc
    rw [List.length_map, List.length_map]
  constructor
  · intro h
    unfold sameD at h
    rw [Bool.and_eq_true] at h
    obtain ⟨h1, h2⟩ := h
    have hl : (zs.map (·.1)).length = (us.map (·.1)).length := by
      rw [← len, ← len]
      exact eq_of_beq h1
    have key : ∀ p ∈ zs.map (·.1), p ∈ us.map (·.1) ∧ levelAt zs p = levelAt us p := fun p hp => by
      obtain ⟨q, hq, e⟩ := List.mem_map.mp hp
      have z := List.all_eq_true.mp h2 (Sum.inl q.1, V.int q.2) (List.mem_map.mpr ⟨q, hq, rfl⟩)
      rw [Bool.and_eq_true] at z
      have z2 : valV (enc us) (Sum.inl q.1) = valV (enc zs) (Sum.inl q.1) := of_decide_eq_true z.2
      have a1 := val_enc q.1 us
      have a2 := val_enc q.1 zs
      rw [z2, a2] at a1
      have e3 := V.int.inj a1
      subst e
      refine ⟨Tab.key ?_, e3⟩
      rw [← e3]
      exact T1.live hp
    intro p
    by_cases hp : p ∈ zs.map (·.1)
    · exact (key p hp).2
    · rw [level_out hp, level_out fun z => hp (nd_back T1.nd (fun x hx => (key x hx).1) (Nat.le_of_eq hl.symm) p z)]
  · intro h
    have s1 : ∀ x ∈ zs.map (·.1), x ∈ us.map (·.1) := fun x hx => Tab.key (by rw [← h]; exact T1.live hx)
    have s2 : ∀ x ∈ us.map (·.1), x ∈ zs.map (·.1) := fun x hx => Tab.key (by rw [h]; exact T2.live hx)
    have l1 := nd_sub_len T1.nd s1
    have l2 := nd_sub_len T2.nd s2
    unfold sameD
    rw [Bool.and_eq_true]
    refine ⟨?_, List.all_eq_true.mpr fun kv hkv => ?_⟩
    · rw [len, len]
      exact beq_iff_eq.mpr (by omega)
    · obtain ⟨q, hq, e⟩ := List.mem_map.mp hkv
      subst e
      have m1 : q.1 ∈ zs.map (·.1) := List.mem_map.mpr ⟨q, hq, rfl⟩
      have v1 := val_some m1
      have v2 := val_some (s1 _ m1)
      show ((valV (enc us) (Sum.inl q.1)).isSome && decide (valV (enc us) (Sum.inl q.1) = valV (enc zs) (Sum.inl q.1))) = true
      rw [v1, v2, h]
      simp
theorem ints_enc (cs : List (Int × Int)) : Ints (enc cs) := fun p hp => by
  obtain ⟨q, _, e⟩ := List.mem_map.mp hp
  subst e
  exact ⟨q.2, rfl⟩
theorem enc_nd {lv : Int} {cs : List (Int × Int)} (T : Tab lv cs) : ((enc cs).map (·.1)).Nodup := by
  rw [enc_keys]
  exact List.pairwise_map.mpr (T.nd.imp fun h e => h (Sum.inl.inj e))
theorem parts2 {ls ls' : List (Int × Int)} {f : Int} (p : Int) : partsAt [⟨ls, 0, 1⟩, ⟨ls', f, 1⟩] p = sumAt ls p + 1 * sumAt ls' (p - f) := by
  unfold partsAt partAt
  rw [List.map_cons, List.map_cons, List.map_nil, List.sum_cons, List.sum_cons, List.sum_nil]
  show 1 * sumAt ls (p - 0) + (1 * sumAt ls' (p - f) + 0) = _
  rw [Int.sub_zero, Int.one_mul, Int.add_zero]
/-- what comes of the one behind the other, at a place -/
def bothF (lv : Int) (ls ls' : List (Int × Int)) (f p : Int) : Int := (sumAt ls p + 1 * sumAt ls' (p - f)) % lv
def spCommute (K : PySem.W.Frag) (C : Addr) : Sp := fun vs H Q _ => ∃ (a b : Addr) (lv fin fin' : Int) (ls ls' : List (Int × Int)), vs = [.ref a, .ref b] ∧ RndW K C H a lv fin ls ∧ RndW K C H b lv fin' ls' ∧ ls.length + ls'.length < 64 ∧
  ∀ (b : Bool) H', Same H H' → (b = true ↔ ∀ p, bothF lv ls ls' fin p = bothF lv ls' ls fin' p) → Q (.bl b) H'
section
variable {P : Program} {w : World} {K : PySem.W.Frag} {mg : Str → Option Value} {base : Heap} {C : Addr}
theorem scCommute : FnScope ["trip", "second", "ahead", "behind"] ["trip", "second"] (defScope sCommute) := ⟨rfl, rfl, rfl, by decide +kernel, rfl, by decide +kernel, by decide +kernel⟩
theorem ok_commute {f : Addr} {fd : FuncData} (F : Fun K "commute" "commute" sCommute f fd) (R : RCls K C) (Z : Ask3 P w K mg base C) (Cs : Dr P w K mg base (spCkRs C) "check_rounds" ["trip", "second"] 3) (To : Dr P w K mg base (spTotal K) "total" ["levels", "parts"] 1) : FnOk P w K mg base CX0 4 f fd ["trip", "second"] (spCommute K C) := by
  refine F.ok scCommute (fun vs H Q E h => ?_) (fun cdv A outer s H vs Q E hr h => ?_)
  · obtain ⟨a, b, lv, fin, fin', ls, ls', rfl, _⟩ := h
    rfl
  · obtain ⟨a, b, lv, fin, fin', ls, ls', rfl, ⟨⟨t, ha, hp⟩, hg, hi⟩, ⟨⟨u, hb, hp'⟩, _, hi'⟩, h64, q⟩ := h
    have hu := hr.units
    refine ⟨_, pss_cons (ps_expr (pe_dr Cs (by decide) hr rfl (pa_cons (pv 0) (pa_cons (pv 1) pa_nil))))
      (pss_cons (ps_set (i := 2) scCommute.nd rfl (.inl rfl) (pe_dr To (by decide) hr rfl (pa_cons (pe_prR Z.lv R (by decide) hr (pv 0)) (pa_cons (pe_tup (pa_cons (pe_tup (pa_cons (pe_prR Z.la R (by decide) hr (pv 0)) (pa_cons pe_int (pa_cons pe_int pa_nil))))
          (pa_cons (pe_tup (pa_cons (pe_prR Z.la R (by decide) hr (pv 1)) (pa_cons (pe_prR Z.en R (by decide) hr (pv 0)) (pa_cons pe_int pa_nil)))) pa_nil))) pa_nil))))
      (pss_cons (ps_set (i := 3) scCommute.nd rfl (.inl rfl) (pe_dr To (by decide) hr rfl (pa_cons (pe_prR Z.lv R (by decide) hr (pv 0)) (pa_cons (pe_tup (pa_cons (pe_tup (pa_cons (pe_prR Z.la R (by decide) hr (pv 1)) (pa_cons pe_int (pa_cons pe_int pa_nil))))
          (pa_cons (pe_tup (pa_cons (pe_prR Z.la R (by decide) hr (pv 0)) (pa_cons (pe_prR Z.en R (by decide) hr (pv 1)) (pa_cons pe_int pa_nil)))) pa_nil))) pa_nil))))
      (pss_one (ps_ret (pe_cmpR (op_eqD hu) (pv 2) (pv 3) (nomark _)))))), ?_⟩
    obtain ⟨dx, hA⟩ := id ha
    obtain ⟨dy, hB⟩ := id hb
    have len2 : ∀ (xs ys : List (Int × Int)) (f : Int), partsLen [⟨xs, 0, 1⟩, ⟨ys, f, 1⟩] = xs.length + ys.length := fun xs ys f => by
      unfold partsLen
      rw [List.map_cons, List.map_cons, List.map_nil, List.sum_cons, List.sum_cons, List.sum_nil]
      rfl
    refine ⟨_, rfl, _, rfl, a, b, t, u, lv, fin, fin', rfl, ha, hb, ?_⟩
    refine ⟨_, rfl, a, dx, _, rfl, hA, a, t, lv, fin, rfl, ha, ?_⟩
    refine ⟨_, rfl, a, dx, _, rfl, hA, a, t, lv, fin, rfl, ha, (by show 3 ≤ sizeLine; decide), fun r1 n1 => ?_⟩
    have s1 := same_of (o := .tup [V.ref t, V.int 0, V.int 1]) n1
    refine ⟨_, rfl, b, dy, _, rfl, s1 _ _ hB, b, u, lv, fin', rfl, hb.same s1, ?_⟩
    refine ⟨_, rfl, a, dx, _, rfl, s1 _ _ hA, a, t, lv, fin, rfl, ha.same s1, (by show 3 ≤ sizeLine; decide), fun r2 n2 => ?_⟩
    have s2 := s1.trans (same_of (o := .tup [V.ref u, V.int fin, V.int 1]) n2)
    refine ⟨(by show 2 ≤ sizeLine; decide), fun pt npt => ?_⟩
    have s3' := same_of (o := .tup [V.ref r1, V.ref r2]) npt
    have s3 := s2.trans s3'
    refine ⟨lv, pt, [r1, r2], [⟨ls, 0, 1⟩, ⟨ls', fin, 1⟩], rfl, upd_same, .cons ⟨t, (Same.trans (same_of n2) s3') _ _ upd_same, hp.same s3⟩ (.cons ⟨u, s3' _ _ upd_same, hp'.same s3⟩ .nil), (good_pos hg).1, ?_, by rw [len2]; omega, fun tt ms H' s4 hpb hri hsum hl => ?_⟩
    · intro x hx
      simp only [List.mem_cons, List.not_mem_nil, or_false] at hx
      rcases hx with rfl | rfl
      · exact lev_small hg hi
      · exact lev_small hg hi'
    have s5 := s3.trans s4
    have ha5 := ha.same s5
    have hb5 := hb.same s5
    have hA5 := s5 _ _ hA
    have hB5 := s5 _ _ hB
    refine ⟨_, rfl, a, dx, _, rfl, hA5, a, t, lv, fin, rfl, ha5, ?_⟩
    refine ⟨_, rfl, b, dy, _, rfl, hB5, b, u, lv, fin', rfl, hb5, (by show 3 ≤ sizeLine; decide), fun r3 n3 => ?_⟩
    have t1 := same_of (o := .tup [V.ref u, V.int 0, V.int 1]) n3
    refine ⟨_, rfl, a, dx, _, rfl, t1 _ _ hA5, a, t, lv, fin, rfl, ha5.same t1, ?_⟩
    refine ⟨_, rfl, b, dy, _, rfl, t1 _ _ hB5, b, u, lv, fin', rfl, hb5.same t1, (by show 3 ≤ sizeLine; decide), fun r4 n4 => ?_⟩
    have t2 := t1.trans (same_of (o := .tup [V.ref t, V.int fin', V.int 1]) n4)
    refine ⟨(by show 2 ≤ sizeLine; decide), fun pt2 npt2 => ?_⟩
    have t3' := same_of (o := .tup [V.ref r3, V.ref r4]) npt2
    have t3 := t2.trans t3'
    refine ⟨lv, pt2, [r3, r4], [⟨ls', 0, 1⟩, ⟨ls, fin', 1⟩], rfl, upd_same, .cons ⟨u, (Same.trans (same_of n4) t3') _ _ upd_same, hp'.same (s5.trans t3)⟩ (.cons ⟨t, t3' _ _ upd_same, hp.same (s5.trans t3)⟩ .nil), (good_pos hg).1, ?_, by rw [len2]; omega, fun tt2 ms2 H2 s6 hpb2 hri2 hsum2 hl2 => ?_⟩
    · intro x hx
      simp only [List.mem_cons, List.not_mem_nil, or_false] at hx
      rcases hx with rfl | rfl
      · exact lev_small hg hi'
      · exact lev_small hg hi
    refine ⟨_, rfl, _, rfl, .tuple (ms.map pairD), .tuple (ms2.map pairD), dp_pic ((hpb.same (t3.trans s6)).at), dp_pic hpb2.at, (shaped_pairs ms).2, (shaped_pairs ms2).2, ?_⟩
    have e : PyData.eqv (.tuple (ms.map pairD)) (.tuple (ms2.map pairD)) = decide (ms = ms2) := by
      show PyData.eqvAll _ _ = _
      exact eqv_pairs ms ms2
    rw [e]
    refine q _ H2 (s5.trans (t3.trans s6)) ?_
    rw [decide_eq_true_iff]
    have f1 : ∀ p, sumAt ms p = bothF lv ls ls' fin p := fun p => by rw [hsum, parts2]; rfl
    have f2 : ∀ p, sumAt ms2 p = bothF lv ls' ls fin' p := fun p => by rw [hsum2, parts2]; rfl
    constructor
    · intro h p
      rw [← f1, ← f2, h]
    · intro h
      exact Rising.ext hri hri2 fun p => by rw [f1, f2, h]
end
end Lamp
set_option Elab.async false
set_option linter.all false
set_option maxRecDepth 100000
set_option maxHeartbeats 2000000
namespace Lamp
open PySem PySem.Spec PyProof.Rows L2
abbrev sRight : Stmt := top 44
abbrev sLaw : Stmt := top 45
def spRight : Sp := fun vs H Q _ => ∃ (p : Addr), vs = [.ref p] ∧ Well H p ∧ ∀ H', But p H H' → Q (.bl true) H'
def twoB (b : Bool) : PyData := .list [.bool b, .bool b]
theorem twoB_ok (b : Bool) : (twoB b).showable = true ∧ (twoB b).depth ≤ 60 ∧ (twoB b).shown.length ≤ sizeLine := by
  cases b with
  | true => exact okD_of (by decide +kernel)
  | false => exact okD_of (by decide +kernel)
theorem Fair.fit {lv : Int} {cs : List (Int × Int)} {e : Int} (h : Fair lv cs e) (h0 : 0 < lv) (h100 : lv ≤ 7) : Fit lv cs e := by
  have e40 : (10 : Nat) ^ 40 = 10000000000000000000000000000000000000000 := by decide
  have a1 := h.few
  have a2 := h.lo
  have a3 := h.hi
  refine ⟨by omega, by omega, by omega, fun q hq => ?_⟩
  have b1 := h.near q hq
  have b2 := h.tab.lv q hq
  exact ⟨by omega, by omega⟩
section
variable {P : Program} {w : World} {K : PySem.W.Frag} {mg : Str → Option Value} {base : Heap} {C : Addr}
theorem scRight : FnScope ["_law_well_here", "_law_turn", "_law_levels", "_law_one_here", "_law_two", "_law_due", "_law_mine", "_law_mate"] ["_law_well_here"] (defScope sRight) := ⟨rfl, rfl, rfl, by decide +kernel, rfl, by decide +kernel, by decide +kernel⟩
theorem ok_right {f : Addr} {fd : FuncData} (F : Fun K "_law_right" "_law_right" sRight f fd) (Pk : Dr P w K mg base spPick "_law_pick" ["_law_well_here", "_law_choices"] 2) (Pr : Dr P w K mg base spPair "_law_pair" ["_law_well_here", "_law_levels"] 4)
    (Bh : Dr P w K mg base spBehind "_law_behind" ["_law_levels", "_law_one_here", "_law_two"] 2) (Tx : Dr P w K mg base (spTextL K) "_law_text" ["_law_levels", "_law_one_here"] 2) (La : Dr P w K mg base (spLampsL K) "_law_lamps" ["_law_found"] 1)
    (Cm : Dr P w K mg base (spCommute K C) "commute" ["trip", "second"] 4) (CmB : DrB P w K mg base (spCommute K C) "commute" ["trip", "second"] 4) (M : MkR P w K mg base C) (Rd : RdR P w K mg base C) (mR : mg "Round" = some (.ref C))
    (mr : mg "range" = none) (mp : mg "repr" = none) : FnG P w K mg base 8 f fd ["_law_well_here"] spRight := by
  refine okG F scRight (fun vs H Q E h => ?_) (fun cdv A outer s H vs Q E hgd hr h => ?_)
  · obtain ⟨p, rfl, _⟩ := h
    rfl
  · obtain ⟨p, rfl, hp, q⟩ := h
    have hu := hr.units
    have hr5 : Room 5 _ := hr.mono (by decide)
    have hr6 : Room 6 _ := hr.mono (by decide)
    refine ⟨_, pss_cons (ps_for PassesOwn.never rfl (pi_range1 rfl mr (pa_cons pe_int pa_nil)) (pg_name (i := 1) scRight.nd rfl (.inl rfl))
        (pss_cons (ps_set (i := 2) scRight.nd rfl (.inl rfl) (pe_dr Pk (by decide) hr rfl (pa_cons (pv 0) (pa_cons (pe_lst (pa_cons pe_int (pa_cons pe_int (pa_cons pe_int (pa_cons pe_int pa_nil))))) pa_nil))))
        (pss_cons (ps_asg (pe_dr Pr (by decide) hr rfl (pa_cons (pv 0) (pa_cons (pv 2) pa_nil))) (pg_tup rfl (pgs_cons (pg_name (i := 3) scRight.nd rfl (.inl rfl)) (pgs_cons (pg_name (i := 4) scRight.nd rfl (.inl rfl)) pgs_nil))))
        (pss_cons (ps_set (i := 5) scRight.nd rfl (.inl rfl) (pe_cmpR (op_eqDI hu) (pe_dr Bh (by decide) hr rfl (pa_cons (pv 2) (pa_cons (pv 3) (pa_cons (pv 4) pa_nil)))) (pe_dr Bh (by decide) hr rfl (pa_cons (pv 2) (pa_cons (pv 4) (pa_cons (pv 3) pa_nil)))) (nomark _)))
        (pss_cons (ps_par (i := 6) (j := 7) rfl scRight.nd rfl rfl (by decide) rfl rfl (pa_cons (pe_rdR Rd hr6 (pe_glob (v := .ref C) rfl mR rfl) (pa_cons (pe_dr Tx (by decide) hr rfl (pa_cons (pv 2) (pa_cons (pv 3) pa_nil))) pa_nil))
            (pa_cons (pe_mkR M hr5 rfl mR (pa_cons (pv 2) (pa_cons (pe_dr La (by decide) hr rfl (pa_cons (pe_ix ix_tup (pv 4) pe_int (fun _ _ => rfl)) pa_nil)) (pa_cons (pe_ix ix_tup (pv 4) pe_int (fun _ _ => rfl)) pa_nil)))) pa_nil)) (by rfl))
        (pss_one (ps_if (pt_cmpR op_ne (pe_callB (call_reprD hgd hu) (by rfl) mp (by decide +kernel) (pa_cons (pe_lst (pa_cons (pe_dr Cm (by decide) hr rfl (pa_cons (pv 6) (pa_cons (pv 7) pa_nil))) (pa_cons (pe_drB CmB (by decide) hr rfl (pk_cons (pv 7) (pk_cons (pv 6) pk_nil))) pa_nil))) pa_nil)) (pe_callB (call_reprD hgd hu) (by rfl) mp (by decide +kernel) (pa_cons (pe_lst (pa_cons (pv 5) (pa_cons (pv 5) pa_nil))) pa_nil)) (nomark _)) pss_never pss_nil)))))))
      (pss_one (ps_ret pe_bl)), ?_⟩
    refine sq_forRn (n := 12) (by decide) (fun i σ' H' => ∃ x1 x2 x3 x4 x5 x6 x7, σ' = [some (.ref p), x1, x2, x3, x4, x5, x6, x7] ∧ But p H H' ∧ Well H' p) ⟨_, _, _, _, _, _, _, rfl, But.refl p H, hp⟩ ?_ ?_ val_c
    · rintro i σ' H0 hi ⟨x1, x2, x3, x4, x5, x6, x7, rfl, bt0, hp0⟩
      refine ⟨_, rfl, (by show 4 ≤ sizeLine; decide), fun l nl => ?_⟩
      have sl := same_of (o := .lst [V.int 2, V.int 3, V.int 5, V.int 7]) nl
      refine ⟨p, l, _, rfl, hp0.ne nl, upd_same, (by decide : 0 < 4), (by decide : 4 < 1000000), hp0.same sl, fun v H1 hv hp1 bt1 => ?_⟩
      obtain ⟨lv, rfl, hg⟩ : ∃ lv : Int, v = .int lv ∧ goodLv lv := by
        simp only [List.mem_cons, List.not_mem_nil, or_false] at hv
        rcases hv with e | e | e | e
        · exact ⟨2, e, .inl rfl⟩
        · exact ⟨3, e, .inr (.inl rfl)⟩
        · exact ⟨5, e, .inr (.inr (.inl rfl))⟩
        · exact ⟨7, e, .inr (.inr (.inr rfl))⟩
      have h7 := good_pos hg
      have h2 : 2 ≤ lv := by rcases hg with h | h | h | h <;> omega
      have btA : But p H H1 := bt0.trans ((But.of sl).trans bt1)
      refine ⟨_, rfl, _, rfl, p, lv, rfl, h2, h7.2, hp1, fun r r1 r2 d1 d2 xs ys e1 e2 H2 hr2 hR1 hR2 F1 F2 hp2 bt2 => ?_⟩
      have btB := btA.trans bt2
      refine ⟨r, _, rfl, SqT.of hr2, rfl, _, _, rfl, _, _, rfl, rfl, ?_⟩
      have n1 := F1.few
      have n2 := F2.few
      refine ⟨_, rfl, _, rfl, _, rfl, lv, r1, r2, d1, d2, xs, ys, e1, e2, rfl, hR1, hR2, h7.1, by omega, F1.tab, F2.tab, by omega, fun b1 g1 zs H3 s3 hz Tz hF hl ng1 nb1 => ?_⟩
      refine ⟨_, rfl, _, rfl, _, rfl, lv, r2, r1, d2, d1, ys, xs, e2, e1, rfl, hR2.same s3, hR1.same s3, h7.1, by omega, F2.tab, F1.tab, by omega, fun b2 g2 us H4 s4 hu2 Tu hG hl2 ng2 nb2 => ?_⟩
      have hz4 := hz.same s4
      have gne : g1 ≠ g2 := fun e => by
        rw [← e, hz.2] at ng2
        cases ng2
      refine ⟨b1, b2, g1, g2, enc zs, enc us, e1 + e2, e2 + e1, rfl, rfl, gne, hz4.1, hu2.1, hz4.2, hu2.2, ints_enc zs, ints_enc us, enc_nd Tz, ?_⟩
      obtain ⟨due, hdue, edue⟩ : ∃ due : Bool, (sameD (enc zs) (enc us) && (e1 + e2 == e2 + e1)) = due ∧ (due = true ↔ ∀ x, addF lv xs ys e1 1 x = addF lv ys xs e2 1 x) := by
        refine ⟨_, rfl, ?_⟩
        rw [Bool.and_eq_true, same_iff Tz Tu]
        constructor
        · intro h x
          rw [← hF, ← hG, h.1]
        · intro h
          exact ⟨fun x => by rw [hF, hG, h], beq_iff_eq.mpr (Int.add_comm e1 e2)⟩
      rw [hdue]
      have s24 := s3.trans s4
      have hR14 := hR1.same s24
      have hR24 := hR2.same s24
      refine ⟨rfl, _, rfl, _, rfl, lv, r1, d1, xs, e1, rfl, hR14, h7.1, by omega, F1.tab, F1.fit h7.1 h7.2, fun ls H5 s5 Rl hS hfit hsub => ?_⟩
      have few1 : ls.length ≤ 400 := by
        have := hfit.few
        omega
      refine ⟨lv, e1, ls, rfl, hfit, hg, Rl.w few1, fun a t H6 s6 na hra hpa => ?_⟩
      have s46 := s5.trans s6
      refine ⟨_, rfl, _, rfl, r2, _, 0, _, rfl, rfl, SqT.of (s46 _ _ hR24.1), rfl, lv, d2, ys, rfl, s46 _ _ hR24.2, h7.1, F2.tab, by omega, fun t2 ls2 H7 s7 hpB Rl2 hS2 hlen2 hsub2 nt2 => ?_⟩
      have few2 : ls2.length ≤ 400 := by omega
      refine ⟨_, rfl, r2, _, 1, _, rfl, rfl, SqT.of (s7 _ _ (s46 _ _ hR24.1)), rfl, lv, t2, e2, rfl, ls2, hg, hpB.at, Rl2.w few2, fun b H8 s8 nb hRb => ⟨_, _, rfl, ?_⟩⟩
      have A8 : RndW K C H8 a lv e1 ls := ⟨⟨t, hra.same (s7.trans s8), hpa.same (s7.trans s8)⟩, hg, Rl.w few1⟩
      have B8 : RndW K C H8 b lv e2 ls2 := ⟨⟨t2, hRb, hpB.at.same s8⟩, hg, Rl2.w few2⟩
      have s28 : Same H2 H8 := s24.trans (s46.trans (s7.trans s8))
      have cf : ls.length + ls2.length < 64 := by
        have := hfit.few
        omega
      have ev : ∀ (c : Bool), (c = true ↔ ∀ x, bothF lv ls ls2 e1 x = bothF lv ls2 ls e2 x) → c = due := fun c hc => by
        have e3 : (∀ x, bothF lv ls ls2 e1 x = bothF lv ls2 ls e2 x) ↔ ∀ x, addF lv xs ys e1 1 x = addF lv ys xs e2 1 x := by
          have g : ∀ x, bothF lv ls ls2 e1 x = addF lv xs ys e1 1 x := fun x => by
            unfold bothF addF
            rw [hS, hS2]
          have g2 : ∀ x, bothF lv ls2 ls e2 x = addF lv ys xs e2 1 x := fun x => by
            unfold bothF addF
            rw [hS, hS2]
          constructor
          · intro h x
            rw [← g, ← g2, h]
          · intro h x
            rw [g, g2, h]
        rw [e3, ← edue] at hc
        cases c with
        | true => exact (hc.mp rfl).symm
        | false =>
          cases due with
          | true => exact absurd (hc.mpr rfl) (by decide)
          | false => rfl
      refine ⟨_, rfl, _, rfl, a, b, lv, e1, e2, ls, ls2, rfl, A8, B8, cf, fun c1 H9 s9 hc1 => ?_⟩
      refine ⟨_, rfl, _, rfl, a, b, lv, e1, e2, ls, ls2, rfl, A8.same s9, B8.same s9, cf, fun c2 H10 s10 hc2 => ⟨(by show 2 ≤ sizeLine; decide), fun g ng => ?_⟩⟩
      rw [ev c1 hc1, ev c2 hc2]
      have s11 := same_of (o := .lst [V.bl due, V.bl due]) ng
      have res := twoB_ok due
      refine ⟨_, twoB due, rfl, .plain (.lst (SqL.of upd_same) (.cons (.bl _) (.cons (.bl _) .nil))), res.1, res.2.1, res.2.2, ?_⟩
      refine ⟨_, rfl, _, rfl, (by show 2 ≤ sizeLine; decide), fun g2 ng2 => ?_⟩
      have s12 := same_of (o := .lst [V.bl due, V.bl due]) ng2
      refine ⟨_, twoB due, rfl, .plain (.lst (SqL.of upd_same) (.cons (.bl _) (.cons (.bl _) .nil))), res.1, res.2.1, res.2.2, ?_⟩
      have all : Same H2 _ := s28.trans (((s9.trans s10).trans s11).trans s12)
      refine ⟨rfl, false, ?_, ?_⟩
      · show V.bl (!decide (V.str (twoB due).shown = V.str (twoB due).shown)) = V.bl false
        rw [decide_eq_true rfl]
        rfl
      · refine iteF ?_
        exact ⟨_, _, _, _, _, _, _, rfl, btB.trans (But.of all), hp2.same all⟩
    · rintro σ' H0 ⟨x1, x2, x3, x4, x5, x6, x7, rfl, bt0, hp0⟩
      exact st_ret val_c (q _ bt0)
end
end Lamp
set_option Elab.async false
set_option linter.all false
set_option maxRecDepth 100000
set_option maxHeartbeats 2000000
namespace Lamp
open PySem PySem.Spec PyProof.Rows L2
section
variable {P : Program} {w : World} {K : PySem.W.Frag} {mg : Str → Option Value} {base : Heap}
theorem scLaw : FnScope ["_law_script", "_law_spot"] ["_law_script"] (defScope sLaw) := ⟨rfl, rfl, rfl, by decide +kernel, rfl, by decide +kernel, by decide +kernel⟩
def spLaw (K : PySem.W.Frag) : Sp := fun vs H Q _ => ∃ (a : Addr) (ns : List Int), vs = [.ref a] ∧ SqL K H a (ns.map V.int) ∧ ns.length ≤ 63 ∧ (∀ z ∈ ns, Builtin.Int.intBits z ≤ 1048576) ∧ ∀ H', Q (.bl true) H'
theorem ok_law {f fR : Addr} {fd fdR : FuncData} (F : Fun K "law" "law" sLaw f fd)
    (GR : FnG P w K mg base 8 fR fdR ["_law_well_here"] spRight) (bR : Binds K fdR ["_law_well_here"] []) (mR : mg "_law_right" = some (.ref fR)) (kR : PySem.W.keepIn K (.ref fR) = true)
    (Bg : Dr P w K mg base (spWell K) "_law_well" ["_law_script", "_law_spot"] 1)
    (mr : mg "range" = none) (ml : mg "len" = none) (mall : mg "all" = none) (mmax : mg "max" = none) (mmin : mg "min" = none) :
    FnG P w K mg base 9 f fd ["_law_script"] (spLaw K) := by
  refine okG F scLaw (fun vs H Q E h => ?_) (fun cdv Ar outer s H vs Q E hgd hr h => ?_)
  · obtain ⟨a, ns, rfl, _⟩ := h
    rfl
  · obtain ⟨a, ns, rfl, hS1, hlen, hbits, q⟩ := h
    refine ⟨_, pss_one (ps_ret (pe_callB (cr_all rfl) (by rfl) mall (by decide +kernel) (pa_cons (pe_lc (own := [("_law_spot", 1)]) (g := gName 1) (tt := tYes) rfl scLaw.nd
          (pi_range1 rfl mr (pa_cons (pe_callB (call_max2 rfl) (by rfl) mmax (by decide +kernel) (pa_cons pe_int (pa_cons (pe_callB (call_min2 rfl) (by rfl) mmin (by decide +kernel) (pa_cons (pe_callB call_len_seq (by rfl) ml PySem.boot_len (pa_cons (pv 0) pa_nil)) (pa_cons pe_int pa_nil))) pa_nil))) pa_nil))
          (blkOk_by (own := [("_law_spot", 1)]) (N := ["_law_script", "_law_spot"]) (sc := defScope sLaw) (by decide +kernel)) (fun _ _ _ _ _ => pg_name (i := 1) scLaw.nd rfl (Or.inl rfl)) (fun _ _ _ _ _ => pts_nil)
          (fun _ _ _ _ _ => pe_callG GR hgd hr rfl mR kR bR (pa_cons (pe_dr Bg (by decide) hr rfl (pa_cons (pv 0) (pa_cons (pv 1) pa_nil))) pa_nil))) pa_nil))), ?_⟩
    refine ⟨.ref a, rfl, a, _, rfl, .inl hS1, ?_⟩
    refine ⟨_, _, rfl, _, _, rfl, ?_⟩
    have hlenV : ((ns.map V.int).length : Nat) = ns.length := List.length_map _
    rw [hlenV]
    generalize hm : (if (if (5 : Int) < ((ns.length : Nat) : Int) then (5 : Int) else ((ns.length : Nat) : Int)) > 2 then (if (5 : Int) < ((ns.length : Nat) : Int) then (5 : Int) else ((ns.length : Nat) : Int)) else 2) = m
    have hm2 : 2 ≤ m ∧ m ≤ 5 := by
      rw [← hm]
      split
      · split <;> omega
      · omega
    obtain ⟨n, en⟩ : ∃ n : Nat, m = (n : Int) := ⟨m.toNat, by omega⟩
    subst en
    refine ⟨(n : Int), rfl, by omega, by omega, fun D hD => ?_⟩
    have e0 : ((n : Int)).toNat = n := by omega
    rw [e0]
    refine lc_range (lo := 0) (n := n) (fun i H' => Same H H' ∧ H' D = some (.lst ((List.replicate i true).map V.bl))) ⟨same_of hD, upd_same⟩ (fun i H' hi z => ?_) (fun H' z => ?_)
    · obtain ⟨sb, hlD⟩ := z
      have e1 : (0 : Int) + (i : Int) = (i : Int) := Int.zero_add _
      rw [e1]
      refine ⟨rfl, ?_⟩
      refine ⟨_, rfl, _, rfl, a, ns, (i : Int), rfl, sb.seq hS1, hlen, by omega, by omega, fun H2 p s2 np hp => ⟨p, rfl, hp, fun H3 bt => ?_⟩⟩
      have pD : D ≠ p := fun e => by rw [e, np] at hlD; cases hlD
      refine ⟨_, bt D _ pD (s2 _ _ hlD), ?_, fun b o e => ?_, ?_⟩
      · rw [List.length_map, List.length_replicate]
        exact small1000 (by omega)
      · have nb : b ≠ D := fun z => by rw [z, hD] at e; cases e
        have npb : b ≠ p := fun z => by
          have := sb _ _ e
          rw [z, np] at this
          cases this
        rw [upd_ne nb]
        exact bt b _ npb (s2 _ _ (sb _ _ e))
      · rw [upd_same, List.replicate_succ', List.map_append]
        rfl
    · refine ⟨D, List.replicate n true, rfl, SqL.of z.2, ?_⟩
      have e : (List.replicate n true).all id = true := by
        rw [List.all_eq_true]
        intro b hb
        exact (List.eq_of_mem_replicate hb)
      rw [e]
      exact q _
end
end Lamp
set_option Elab.async false
set_option linter.all false
set_option maxRecDepth 100000
set_option maxHeartbeats 2000000
namespace Lamp
open PySem PySem.Spec PyProof.Rows L2 ClX
def noneB (K : PySem.W.Frag) : Bool := (["int", "divmod", "len", "abs", "range", "tuple", "sorted", "list", "isinstance", "bool", "str", "enumerate", "repr", "all", "max", "min", "sum", "dict"] : List Str).all fun n => decide (PySem.W.nsIn K mainGlobals n = some none)
theorem none_of {K : PySem.W.Frag} (h : noneB K = true) {n : Str} (hn : n ∈ (["int", "divmod", "len", "abs", "range", "tuple", "sorted", "list", "isinstance", "bool", "str", "enumerate", "repr", "all", "max", "min", "sum", "dict"] : List Str)) : PySem.W.nsIn K mainGlobals n = some none := by
  unfold noneB at h
  rw [List.all_eq_true] at h
  exact of_decide_eq_true (h n hn)
theorem two_of {α : Type} : ∀ {l : List α}, l.length = 2 → ∃ a b, l = [a, b]
  | [a, b], _ => ⟨a, b, rfl⟩
def clsB (K : PySem.W.Frag) (C : Addr) : Bool := PySem.W.plainGet K C Str.empty && (PySem.W.hasDictIn K C && (PySem.W.plainOver K C && (decide (PySem.W.findIn K (.ref C) "__setattr__" = some (some (.builtin "object.__setattr__"))) &&
  (decide (PySem.W.findIn K (.ref C) "_levels" = some none) && (decide (PySem.W.findIn K (.ref C) "_lamps" = some none) && (decide (PySem.W.findIn K (.ref C) "_end" = some none) && (PySem.W.makesIn K C && PySem.W.keepIn K (.ref C))))))))
def eqB (K : PySem.W.Frag) (C : Addr) : Bool := (decide (PySem.W.mroIn K C (.type "object") = some true) && (decide (PySem.W.findIn K (.ref C) "__class__" = some (some (.builtin "object.__class__"))) &&
  (decide (PySem.W.specialIn K (.builtin "object.__class__") "__get__" = some (some (.builtin "getset_descriptor.__get__"))) && (decide (PySem.W.takesIn K (.builtin "object.__class__") = some true) && decide (PySem.W.kitOne K (.ref C) (.ref C) = some true)))))
theorem eqB_ok {K : PySem.W.Frag} {C : Addr} (h : eqB K C = true) : IsR K C := by
  unfold eqB at h
  simp only [Bool.and_eq_true, decide_eq_true_eq] at h
  obtain ⟨h2, h3, h4, h5, h6⟩ := h
  exact ⟨h3, h4, h5, h2, h6⟩
theorem clsB_ok {K : PySem.W.Frag} {C : Addr} (h : clsB K C = true) : RCls K C ∧ PySem.W.makesIn K C = true ∧ PySem.W.keepIn K (.ref C) = true := by
  unfold clsB at h
  simp only [Bool.and_eq_true, decide_eq_true_eq] at h
  obtain ⟨h1, h2, h3, h4, h5, h6, h7, h8, h9⟩ := h
  exact ⟨⟨⟨h1, h2, h3, h4⟩, h5, h6, h7⟩, h8, h9⟩
theorem all_mk {P : Program} {w : World} {K : PySem.W.Frag} {mg : Str → Option Value} {fa : Addr} {hh : Heap} (X : K.In hh) (G : hh.Ns mainGlobals mg) (hfa : mg "law" = some (.ref fa)) {C aL : Addr} {odL : Option Addr} {tL0 tL1 tL2 tL3 tM : Tok} {nL0 : Nat} {slL : Array (Option Value)} {fRI : Addr} {oc_fRI kV_fRI dc_fRI pm_fRI cd_fRI ct_fRI : Value} {od_fRI an_fRI : Option Addr} {sl_fRI : Array (Option Value)} {fRL : Addr} {oc_fRL kV_fRL dc_fRL pm_fRL cd_fRL ct_fRL : Value} {od_fRL an_fRL : Option Addr} {sl_fRL : Array (Option Value)} {fRS : Addr} {oc_fRS kV_fRS dc_fRS pm_fRS cd_fRS ct_fRS : Value} {od_fRS an_fRS : Option Addr} {sl_fRS : Array (Option Value)} {fRP : Addr} {oc_fRP kV_fRP dc_fRP pm_fRP cd_fRP ct_fRP : Value} {od_fRP an_fRP : Option Addr} {sl_fRP : Array (Option Value)} {fII : Addr} {oc_fII kV_fII dc_fII pm_fII cd_fII ct_fII : Value} {od_fII an_fII : Option Addr} {sl_fII : Array (Option Value)} {fIL : Addr} {oc_fIL kV_fIL dc_fIL pm_fIL cd_fIL ct_fIL : Value} {od_fIL an_fIL : Option Addr} {sl_fIL : Array (Option Value)} {fIM : Addr} {oc_fIM kV_fIM dc_fIM pm_fIM cd_fIM ct_fIM : Value} {od_fIM an_fIM : Option Addr} {sl_fIM : Array (Option Value)} {fWL : Addr} {oc_fWL kV_fWL dc_fWL pm_fWL cd_fWL ct_fWL : Value} {od_fWL an_fWL : Option Addr} {sl_fWL : Array (Option Value)} {fCR : Addr} {oc_fCR kV_fCR dc_fCR pm_fCR cd_fCR ct_fCR : Value} {od_fCR an_fCR : Option Addr} {sl_fCR : Array (Option Value)} {fCS : Addr} {oc_fCS kV_fCS dc_fCS pm_fCS cd_fCS ct_fCS : Value} {od_fCS an_fCS : Option Addr} {sl_fCS : Array (Option Value)} {fTo : Addr} {oc_fTo kV_fTo dc_fTo pm_fTo cd_fTo ct_fTo : Value} {od_fTo an_fTo : Option Addr} {sl_fTo : Array (Option Value)} {fCo : Addr} {oc_fCo kV_fCo dc_fCo pm_fCo cd_fCo ct_fCo : Value} {od_fCo an_fCo : Option Addr} {sl_fCo : Array (Option Value)} {fWe : Addr} {oc_fWe kV_fWe dc_fWe pm_fWe cd_fWe ct_fWe : Value} {od_fWe an_fWe : Option Addr} {sl_fWe : Array (Option Value)} {fDr : Addr} {oc_fDr kV_fDr dc_fDr pm_fDr cd_fDr ct_fDr : Value} {od_fDr an_fDr : Option Addr} {sl_fDr : Array (Option Value)} {fPk : Addr} {oc_fPk kV_fPk dc_fPk pm_fPk cd_fPk ct_fPk : Value} {od_fPk an_fPk : Option Addr} {sl_fPk : Array (Option Value)} {fGr : Addr} {oc_fGr kV_fGr dc_fGr pm_fGr cd_fGr ct_fGr : Value} {od_fGr an_fGr : Option Addr} {sl_fGr : Array (Option Value)} {fAd : Addr} {oc_fAd kV_fAd dc_fAd pm_fAd cd_fAd ct_fAd : Value} {od_fAd an_fAd : Option Addr} {sl_fAd : Array (Option Value)} {fLa : Addr} {oc_fLa kV_fLa dc_fLa pm_fLa cd_fLa ct_fLa : Value} {od_fLa an_fLa : Option Addr} {sl_fLa : Array (Option Value)} {fBh : Addr} {oc_fBh kV_fBh dc_fBh pm_fBh cd_fBh ct_fBh : Value} {od_fBh an_fBh : Option Addr} {sl_fBh : Array (Option Value)} {fBk : Addr} {oc_fBk kV_fBk dc_fBk pm_fBk cd_fBk ct_fBk : Value} {od_fBk an_fBk : Option Addr} {sl_fBk : Array (Option Value)} {fTm : Addr} {oc_fTm kV_fTm dc_fTm pm_fTm cd_fTm ct_fTm : Value} {od_fTm an_fTm : Option Addr} {sl_fTm : Array (Option Value)} {fTx : Addr} {oc_fTx kV_fTx dc_fTx pm_fTx cd_fTx ct_fTx : Value} {od_fTx an_fTx : Option Addr} {sl_fTx : Array (Option Value)} {fDw : Addr} {oc_fDw kV_fDw dc_fDw pm_fDw cd_fDw ct_fDw : Value} {od_fDw an_fDw : Option Addr} {sl_fDw : Array (Option Value)} {fPr : Addr} {oc_fPr kV_fPr dc_fPr pm_fPr cd_fPr ct_fPr : Value} {od_fPr an_fPr : Option Addr} {sl_fPr : Array (Option Value)} {fRg : Addr} {oc_fRg kV_fRg dc_fRg pm_fRg cd_fRg ct_fRg : Value} {od_fRg an_fRg : Option Addr} {sl_fRg : Array (Option Value)} {fLaw : Addr} {oc_fLaw kV_fLaw dc_fLaw pm_fLaw cd_fLaw ct_fLaw : Value} {od_fLaw an_fLaw : Option Addr} {sl_fLaw : Array (Option Value)} {gIn : Addr} {oc_gIn kV_gIn dc_gIn pm_gIn cd_gIn ct_gIn : Value} {od_gIn an_gIn : Option Addr} {sl_gIn : Array (Option Value)} {gLv : Addr} {oc_gLv kV_gLv dc_gLv pm_gLv cd_gLv ct_gLv : Value} {od_gLv an_gLv : Option Addr} {sl_gLv : Array (Option Value)} {p_gLv : Addr} {rest_gLv : List Value} {gLa : Addr} {oc_gLa kV_gLa dc_gLa pm_gLa cd_gLa ct_gLa : Value} {od_gLa an_gLa : Option Addr} {sl_gLa : Array (Option Value)} {p_gLa : Addr} {rest_gLa : List Value} {gEn : Addr} {oc_gEn kV_gEn dc_gEn pm_gEn cd_gEn ct_gEn : Value} {od_gEn an_gEn : Option Addr} {sl_gEn : Array (Option Value)} {p_gEn : Addr} {rest_gEn : List Value} {gRd : Addr} {oc_gRd kV_gRd dc_gRd pm_gRd cd_gRd ct_gRd : Value} {od_gRd an_gRd : Option Addr} {sl_gRd : Array (Option Value)} {p_gRd : Addr} {rest_gRd : List Value}
    (nC : PySem.W.nsIn K mainGlobals "Round" = some (some (.ref C)))
    (nf_fRI : PySem.W.nsIn K mainGlobals "read_integer" = some (some (.ref fRI)))
    (lf_fRI : K.lookup fRI = some ⟨oc_fRI, od_fRI, .func (PySem.W.fnOf "read_integer" "read_integer" (defArgs sReadInt) (defBody sReadInt) (defScope sReadInt) .none kV_fRI dc_fRI pm_fRI an_fRI cd_fRI ct_fRI), sl_fRI⟩)
    (cf_fRI : PySem.W.codeIn K cd_fRI "read_integer" = true)
    (kf_fRI : PySem.W.keepIn K (.ref fRI) = true)
    (nf_fRL : PySem.W.nsIn K mainGlobals "read_lamp" = some (some (.ref fRL)))
    (lf_fRL : K.lookup fRL = some ⟨oc_fRL, od_fRL, .func (PySem.W.fnOf "read_lamp" "read_lamp" (defArgs sReadLamp) (defBody sReadLamp) (defScope sReadLamp) .none kV_fRL dc_fRL pm_fRL an_fRL cd_fRL ct_fRL), sl_fRL⟩)
    (cf_fRL : PySem.W.codeIn K cd_fRL "read_lamp" = true)
    (kf_fRL : PySem.W.keepIn K (.ref fRL) = true)
    (nf_fRS : PySem.W.nsIn K mainGlobals "read_lamps" = some (some (.ref fRS)))
    (lf_fRS : K.lookup fRS = some ⟨oc_fRS, od_fRS, .func (PySem.W.fnOf "read_lamps" "read_lamps" (defArgs sReadLamps) (defBody sReadLamps) (defScope sReadLamps) .none kV_fRS dc_fRS pm_fRS an_fRS cd_fRS ct_fRS), sl_fRS⟩)
    (cf_fRS : PySem.W.codeIn K cd_fRS "read_lamps" = true)
    (kf_fRS : PySem.W.keepIn K (.ref fRS) = true)
    (nf_fRP : PySem.W.nsIn K mainGlobals "read_parts" = some (some (.ref fRP)))
    (lf_fRP : K.lookup fRP = some ⟨oc_fRP, od_fRP, .func (PySem.W.fnOf "read_parts" "read_parts" (defArgs sReadParts) (defBody sReadParts) (defScope sReadParts) .none kV_fRP dc_fRP pm_fRP an_fRP cd_fRP ct_fRP), sl_fRP⟩)
    (cf_fRP : PySem.W.codeIn K cd_fRP "read_parts" = true)
    (kf_fRP : PySem.W.keepIn K (.ref fRP) = true)
    (nf_fII : PySem.W.nsIn K mainGlobals "is_integer" = some (some (.ref fII)))
    (lf_fII : K.lookup fII = some ⟨oc_fII, od_fII, .func (PySem.W.fnOf "is_integer" "is_integer" (defArgs sIsInt) (defBody sIsInt) (defScope sIsInt) .none kV_fII dc_fII pm_fII an_fII cd_fII ct_fII), sl_fII⟩)
    (cf_fII : PySem.W.codeIn K cd_fII "is_integer" = true)
    (kf_fII : PySem.W.keepIn K (.ref fII) = true)
    (nf_fIL : PySem.W.nsIn K mainGlobals "is_levels" = some (some (.ref fIL)))
    (lf_fIL : K.lookup fIL = some ⟨oc_fIL, od_fIL, .func (PySem.W.fnOf "is_levels" "is_levels" (defArgs sIsLevels) (defBody sIsLevels) (defScope sIsLevels) .none kV_fIL dc_fIL pm_fIL an_fIL cd_fIL ct_fIL), sl_fIL⟩)
    (cf_fIL : PySem.W.codeIn K cd_fIL "is_levels" = true)
    (kf_fIL : PySem.W.keepIn K (.ref fIL) = true)
    (nf_fIM : PySem.W.nsIn K mainGlobals "is_lamp" = some (some (.ref fIM)))
    (lf_fIM : K.lookup fIM = some ⟨oc_fIM, od_fIM, .func (PySem.W.fnOf "is_lamp" "is_lamp" (defArgs sIsLamp) (defBody sIsLamp) (defScope sIsLamp) .none kV_fIM dc_fIM pm_fIM an_fIM cd_fIM ct_fIM), sl_fIM⟩)
    (cf_fIM : PySem.W.codeIn K cd_fIM "is_lamp" = true)
    (kf_fIM : PySem.W.keepIn K (.ref fIM) = true)
    (nf_fWL : PySem.W.nsIn K mainGlobals "wrong_lamp" = some (some (.ref fWL)))
    (lf_fWL : K.lookup fWL = some ⟨oc_fWL, od_fWL, .func (PySem.W.fnOf "wrong_lamp" "wrong_lamp" (defArgs sWrong) (defBody sWrong) (defScope sWrong) .none kV_fWL dc_fWL pm_fWL an_fWL cd_fWL ct_fWL), sl_fWL⟩)
    (cf_fWL : PySem.W.codeIn K cd_fWL "wrong_lamp" = true)
    (kf_fWL : PySem.W.keepIn K (.ref fWL) = true)
    (nf_fCR : PySem.W.nsIn K mainGlobals "check_round" = some (some (.ref fCR)))
    (lf_fCR : K.lookup fCR = some ⟨oc_fCR, od_fCR, .func (PySem.W.fnOf "check_round" "check_round" (defArgs sCkR) (defBody sCkR) (defScope sCkR) .none kV_fCR dc_fCR pm_fCR an_fCR cd_fCR ct_fCR), sl_fCR⟩)
    (cf_fCR : PySem.W.codeIn K cd_fCR "check_round" = true)
    (kf_fCR : PySem.W.keepIn K (.ref fCR) = true)
    (nf_fCS : PySem.W.nsIn K mainGlobals "check_rounds" = some (some (.ref fCS)))
    (lf_fCS : K.lookup fCS = some ⟨oc_fCS, od_fCS, .func (PySem.W.fnOf "check_rounds" "check_rounds" (defArgs sCkRs) (defBody sCkRs) (defScope sCkRs) .none kV_fCS dc_fCS pm_fCS an_fCS cd_fCS ct_fCS), sl_fCS⟩)
    (cf_fCS : PySem.W.codeIn K cd_fCS "check_rounds" = true)
    (kf_fCS : PySem.W.keepIn K (.ref fCS) = true)
    (nf_fTo : PySem.W.nsIn K mainGlobals "total" = some (some (.ref fTo)))
    (lf_fTo : K.lookup fTo = some ⟨oc_fTo, od_fTo, .func (PySem.W.fnOf "total" "total" (defArgs sTotal) (defBody sTotal) (defScope sTotal) .none kV_fTo dc_fTo pm_fTo an_fTo cd_fTo ct_fTo), sl_fTo⟩)
    (cf_fTo : PySem.W.codeIn K cd_fTo "total" = true)
    (kf_fTo : PySem.W.keepIn K (.ref fTo) = true)
    (nf_fCo : PySem.W.nsIn K mainGlobals "commute" = some (some (.ref fCo)))
    (lf_fCo : K.lookup fCo = some ⟨oc_fCo, od_fCo, .func (PySem.W.fnOf "commute" "commute" (defArgs sCommute) (defBody sCommute) (defScope sCommute) .none kV_fCo dc_fCo pm_fCo an_fCo cd_fCo ct_fCo), sl_fCo⟩)
    (cf_fCo : PySem.W.codeIn K cd_fCo "commute" = true)
    (kf_fCo : PySem.W.keepIn K (.ref fCo) = true)
    (nf_fWe : PySem.W.nsIn K mainGlobals "_law_well" = some (some (.ref fWe)))
    (lf_fWe : K.lookup fWe = some ⟨oc_fWe, od_fWe, .func (PySem.W.fnOf "_law_well" "_law_well" (defArgs sWell) (defBody sWell) (defScope sWell) .none kV_fWe dc_fWe pm_fWe an_fWe cd_fWe ct_fWe), sl_fWe⟩)
    (cf_fWe : PySem.W.codeIn K cd_fWe "_law_well" = true)
    (kf_fWe : PySem.W.keepIn K (.ref fWe) = true)
    (nf_fDr : PySem.W.nsIn K mainGlobals "_law_draw" = some (some (.ref fDr)))
    (lf_fDr : K.lookup fDr = some ⟨oc_fDr, od_fDr, .func (PySem.W.fnOf "_law_draw" "_law_draw" (defArgs sDraw) (defBody sDraw) (defScope sDraw) .none kV_fDr dc_fDr pm_fDr an_fDr cd_fDr ct_fDr), sl_fDr⟩)
    (cf_fDr : PySem.W.codeIn K cd_fDr "_law_draw" = true)
    (kf_fDr : PySem.W.keepIn K (.ref fDr) = true)
    (nf_fPk : PySem.W.nsIn K mainGlobals "_law_pick" = some (some (.ref fPk)))
    (lf_fPk : K.lookup fPk = some ⟨oc_fPk, od_fPk, .func (PySem.W.fnOf "_law_pick" "_law_pick" (defArgs sPick) (defBody sPick) (defScope sPick) .none kV_fPk dc_fPk pm_fPk an_fPk cd_fPk ct_fPk), sl_fPk⟩)
    (cf_fPk : PySem.W.codeIn K cd_fPk "_law_pick" = true)
    (kf_fPk : PySem.W.keepIn K (.ref fPk) = true)
    (nf_fGr : PySem.W.nsIn K mainGlobals "_law_great" = some (some (.ref fGr)))
    (lf_fGr : K.lookup fGr = some ⟨oc_fGr, od_fGr, .func (PySem.W.fnOf "_law_great" "_law_great" (defArgs sGreat) (defBody sGreat) (defScope sGreat) .none kV_fGr dc_fGr pm_fGr an_fGr cd_fGr ct_fGr), sl_fGr⟩)
    (cf_fGr : PySem.W.codeIn K cd_fGr "_law_great" = true)
    (kf_fGr : PySem.W.keepIn K (.ref fGr) = true)
    (nf_fAd : PySem.W.nsIn K mainGlobals "_law_added" = some (some (.ref fAd)))
    (lf_fAd : K.lookup fAd = some ⟨oc_fAd, od_fAd, .func (PySem.W.fnOf "_law_added" "_law_added" (defArgs sAdded) (defBody sAdded) (defScope sAdded) .none kV_fAd dc_fAd pm_fAd an_fAd cd_fAd ct_fAd), sl_fAd⟩)
    (cf_fAd : PySem.W.codeIn K cd_fAd "_law_added" = true)
    (kf_fAd : PySem.W.keepIn K (.ref fAd) = true)
    (nf_fLa : PySem.W.nsIn K mainGlobals "_law_lamps" = some (some (.ref fLa)))
    (lf_fLa : K.lookup fLa = some ⟨oc_fLa, od_fLa, .func (PySem.W.fnOf "_law_lamps" "_law_lamps" (defArgs sLampsL) (defBody sLampsL) (defScope sLampsL) .none kV_fLa dc_fLa pm_fLa an_fLa cd_fLa ct_fLa), sl_fLa⟩)
    (cf_fLa : PySem.W.codeIn K cd_fLa "_law_lamps" = true)
    (kf_fLa : PySem.W.keepIn K (.ref fLa) = true)
    (nf_fBh : PySem.W.nsIn K mainGlobals "_law_behind" = some (some (.ref fBh)))
    (lf_fBh : K.lookup fBh = some ⟨oc_fBh, od_fBh, .func (PySem.W.fnOf "_law_behind" "_law_behind" (defArgs sBehind) (defBody sBehind) (defScope sBehind) .none kV_fBh dc_fBh pm_fBh an_fBh cd_fBh ct_fBh), sl_fBh⟩)
    (cf_fBh : PySem.W.codeIn K cd_fBh "_law_behind" = true)
    (kf_fBh : PySem.W.keepIn K (.ref fBh) = true)
    (nf_fBk : PySem.W.nsIn K mainGlobals "_law_back" = some (some (.ref fBk)))
    (lf_fBk : K.lookup fBk = some ⟨oc_fBk, od_fBk, .func (PySem.W.fnOf "_law_back" "_law_back" (defArgs sBack) (defBody sBack) (defScope sBack) .none kV_fBk dc_fBk pm_fBk an_fBk cd_fBk ct_fBk), sl_fBk⟩)
    (cf_fBk : PySem.W.codeIn K cd_fBk "_law_back" = true)
    (kf_fBk : PySem.W.keepIn K (.ref fBk) = true)
    (nf_fTm : PySem.W.nsIn K mainGlobals "_law_times" = some (some (.ref fTm)))
    (lf_fTm : K.lookup fTm = some ⟨oc_fTm, od_fTm, .func (PySem.W.fnOf "_law_times" "_law_times" (defArgs sTimes) (defBody sTimes) (defScope sTimes) .none kV_fTm dc_fTm pm_fTm an_fTm cd_fTm ct_fTm), sl_fTm⟩)
    (cf_fTm : PySem.W.codeIn K cd_fTm "_law_times" = true)
    (kf_fTm : PySem.W.keepIn K (.ref fTm) = true)
    (nf_fTx : PySem.W.nsIn K mainGlobals "_law_text" = some (some (.ref fTx)))
    (lf_fTx : K.lookup fTx = some ⟨oc_fTx, od_fTx, .func (PySem.W.fnOf "_law_text" "_law_text" (defArgs sTextL) (defBody sTextL) (defScope sTextL) .none kV_fTx dc_fTx pm_fTx an_fTx cd_fTx ct_fTx), sl_fTx⟩)
    (cf_fTx : PySem.W.codeIn K cd_fTx "_law_text" = true)
    (kf_fTx : PySem.W.keepIn K (.ref fTx) = true)
    (nf_fDw : PySem.W.nsIn K mainGlobals "_law_drawn" = some (some (.ref fDw)))
    (lf_fDw : K.lookup fDw = some ⟨oc_fDw, od_fDw, .func (PySem.W.fnOf "_law_drawn" "_law_drawn" (defArgs sDrawn) (defBody sDrawn) (defScope sDrawn) .none kV_fDw dc_fDw pm_fDw an_fDw cd_fDw ct_fDw), sl_fDw⟩)
    (cf_fDw : PySem.W.codeIn K cd_fDw "_law_drawn" = true)
    (kf_fDw : PySem.W.keepIn K (.ref fDw) = true)
    (nf_fPr : PySem.W.nsIn K mainGlobals "_law_pair" = some (some (.ref fPr)))
    (lf_fPr : K.lookup fPr = some ⟨oc_fPr, od_fPr, .func (PySem.W.fnOf "_law_pair" "_law_pair" (defArgs sPair) (defBody sPair) (defScope sPair) .none kV_fPr dc_fPr pm_fPr an_fPr cd_fPr ct_fPr), sl_fPr⟩)
    (cf_fPr : PySem.W.codeIn K cd_fPr "_law_pair" = true)
    (kf_fPr : PySem.W.keepIn K (.ref fPr) = true)
    (nf_fRg : PySem.W.nsIn K mainGlobals "_law_right" = some (some (.ref fRg)))
    (lf_fRg : K.lookup fRg = some ⟨oc_fRg, od_fRg, .func (PySem.W.fnOf "_law_right" "_law_right" (defArgs sRight) (defBody sRight) (defScope sRight) .none kV_fRg dc_fRg pm_fRg an_fRg cd_fRg ct_fRg), sl_fRg⟩)
    (cf_fRg : PySem.W.codeIn K cd_fRg "_law_right" = true)
    (kf_fRg : PySem.W.keepIn K (.ref fRg) = true)
    (nf_fLaw : PySem.W.nsIn K mainGlobals "law" = some (some (.ref fLaw)))
    (lf_fLaw : K.lookup fLaw = some ⟨oc_fLaw, od_fLaw, .func (PySem.W.fnOf "law" "law" (defArgs sLaw) (defBody sLaw) (defScope sLaw) .none kV_fLaw dc_fLaw pm_fLaw an_fLaw cd_fLaw ct_fLaw), sl_fLaw⟩)
    (cf_fLaw : PySem.W.codeIn K cd_fLaw "law" = true)
    (kf_fLaw : PySem.W.keepIn K (.ref fLaw) = true)
    (fm_gIn : PySem.W.findIn K (.ref C) "__init__" = some (some (.ref gIn)))
    (lf_gIn : K.lookup gIn = some ⟨oc_gIn, od_gIn, .func (PySem.W.fnOf "__init__" "Round.__init__" (defArgs sInit) (defBody sInit) (defScope sInit) .none kV_gIn dc_gIn pm_gIn an_gIn cd_gIn ct_gIn), sl_gIn⟩)
    (cf_gIn : PySem.W.codeIn K cd_gIn "Round.__init__" = true)
    (kf_gIn : PySem.W.keepIn K (.ref gIn) = true)
    (if_gIn : PySem.W.isFn K (.ref gIn) = true)
    (pa_gLv : PySem.W.findIn K (.ref C) "levels" = some (some (.ref p_gLv)))
    (pr_gLv : PySem.W.recIn K p_gLv "property" = some (.ref gLv :: rest_gLv))
    (pg_gLv : PySem.W.specialIn K (.ref p_gLv) "__get__" = some (some (.builtin "property.__get__")))
    (pt_gLv : PySem.W.takesIn K (.ref p_gLv) = some true)
    (lf_gLv : K.lookup gLv = some ⟨oc_gLv, od_gLv, .func (PySem.W.fnOf "levels" "Round.levels" (defArgs sLevels) (defBody sLevels) (defScope sLevels) .none kV_gLv dc_gLv pm_gLv an_gLv cd_gLv ct_gLv), sl_gLv⟩)
    (cf_gLv : PySem.W.codeIn K cd_gLv "Round.levels" = true)
    (kf_gLv : PySem.W.keepIn K (.ref gLv) = true)
    (pa_gLa : PySem.W.findIn K (.ref C) "lamps" = some (some (.ref p_gLa)))
    (pr_gLa : PySem.W.recIn K p_gLa "property" = some (.ref gLa :: rest_gLa))
    (pg_gLa : PySem.W.specialIn K (.ref p_gLa) "__get__" = some (some (.builtin "property.__get__")))
    (pt_gLa : PySem.W.takesIn K (.ref p_gLa) = some true)
    (lf_gLa : K.lookup gLa = some ⟨oc_gLa, od_gLa, .func (PySem.W.fnOf "lamps" "Round.lamps" (defArgs sLampsP) (defBody sLampsP) (defScope sLampsP) .none kV_gLa dc_gLa pm_gLa an_gLa cd_gLa ct_gLa), sl_gLa⟩)
    (cf_gLa : PySem.W.codeIn K cd_gLa "Round.lamps" = true)
    (kf_gLa : PySem.W.keepIn K (.ref gLa) = true)
    (pa_gEn : PySem.W.findIn K (.ref C) "end" = some (some (.ref p_gEn)))
    (pr_gEn : PySem.W.recIn K p_gEn "property" = some (.ref gEn :: rest_gEn))
    (pg_gEn : PySem.W.specialIn K (.ref p_gEn) "__get__" = some (some (.builtin "property.__get__")))
    (pt_gEn : PySem.W.takesIn K (.ref p_gEn) = some true)
    (lf_gEn : K.lookup gEn = some ⟨oc_gEn, od_gEn, .func (PySem.W.fnOf "end" "Round.end" (defArgs sEnd) (defBody sEnd) (defScope sEnd) .none kV_gEn dc_gEn pm_gEn an_gEn cd_gEn ct_gEn), sl_gEn⟩)
    (cf_gEn : PySem.W.codeIn K cd_gEn "Round.end" = true)
    (kf_gEn : PySem.W.keepIn K (.ref gEn) = true)
    (ca_gRd : PySem.W.findCls K (.ref C) (.type "type") "read" = some (.get (.builtin "classmethod.__get__") (.ref p_gRd) .none (.ref C)))
    (cr_gRd : PySem.W.recIn K p_gRd "classmethod" = some (.ref gRd :: rest_gRd))
    (cf2_gRd : PySem.W.fnIn K gRd = true)
    (crd_gRd : PySem.W.readsIn K C (.type "type") = true)
    (cga_gRd : PySem.W.specialIn K (.ref C) "__getattribute__" = some (some (.builtin "type.__getattribute__")))
    (lf_gRd : K.lookup gRd = some ⟨oc_gRd, od_gRd, .func (PySem.W.fnOf "read" "Round.read" (defArgs sRead) (defBody sRead) (defScope sRead) .none kV_gRd dc_gRd pm_gRd an_gRd cd_gRd ct_gRd), sl_gRd⟩)
    (cf_gRd : PySem.W.codeIn K cd_gRd "Round.read" = true)
    (kf_gRd : PySem.W.keepIn K (.ref gRd) = true)
    (nL : PySem.W.nsIn K mainGlobals "LEVELS" = some (some (.ref aL)))
    (lL : K.lookup aL = some ⟨.type "tuple", odL, .seq #[.int 2 tL0, .int 3 tL1, .int 5 tL2, .int 7 tL3] nL0, slL⟩)
    (nM : PySem.W.nsIn K mainGlobals "MOST_LAMPS" = some (some (.int 400 tM)))
    (all : (noneB K && (clsB K C && eqB K C)) = true) :
    ∃ fd : FuncData, (∀ (s : Shared) (u : Value), BindsTo s fd ⟨[u], []⟩ [("_law_script", u)]) ∧ ∀ base : Heap, K.In base → base.Ns mainGlobals mg → FnG P w K mg base 9 fa fd ["_law_script"] (spLaw K) := by
  have e := hfa.symm.trans (PySem.W.mg_of X G nf_fLaw)
  cases e
  rw [Bool.and_eq_true, Bool.and_eq_true] at all
  obtain ⟨hnone, hcls, heq⟩ := all
  have S := eqB_ok heq
  obtain ⟨R, hmakes, hkeep⟩ := clsB_ok hcls
  have none := fun {n : Str} hn => PySem.W.mg_none_of X G (none_of hnone (n := n) hn)
  have F_fRI := fun_mk (st := sReadInt) lf_fRI cf_fRI kf_fRI
  have b_fRI := F_fRI.binds (ps := ["word"]) fun _ _ _ _ _ _ us hl => match us, hl with | [_], _ => rfl
  have m_fRI := PySem.W.mg_of X G nf_fRI
  have F_fRL := fun_mk (st := sReadLamp) lf_fRL cf_fRL kf_fRL
  have b_fRL := F_fRL.binds (ps := ["word"]) fun _ _ _ _ _ _ us hl => match us, hl with | [_], _ => rfl
  have m_fRL := PySem.W.mg_of X G nf_fRL
  have F_fRS := fun_mk (st := sReadLamps) lf_fRS cf_fRS kf_fRS
  have b_fRS := F_fRS.binds (ps := ["words"]) fun _ _ _ _ _ _ us hl => match us, hl with | [_], _ => rfl
  have m_fRS := PySem.W.mg_of X G nf_fRS
  have F_fRP := fun_mk (st := sReadParts) lf_fRP cf_fRP kf_fRP
  have b_fRP := F_fRP.binds (ps := ["text"]) fun _ _ _ _ _ _ us hl => match us, hl with | [_], _ => rfl
  have m_fRP := PySem.W.mg_of X G nf_fRP
  have F_fII := fun_mk (st := sIsInt) lf_fII cf_fII kf_fII
  have b_fII := F_fII.binds (ps := ["value"]) fun _ _ _ _ _ _ us hl => match us, hl with | [_], _ => rfl
  have m_fII := PySem.W.mg_of X G nf_fII
  have F_fIL := fun_mk (st := sIsLevels) lf_fIL cf_fIL kf_fIL
  have b_fIL := F_fIL.binds (ps := ["value"]) fun _ _ _ _ _ _ us hl => match us, hl with | [_], _ => rfl
  have m_fIL := PySem.W.mg_of X G nf_fIL
  have F_fIM := fun_mk (st := sIsLamp) lf_fIM cf_fIM kf_fIM
  have b_fIM := F_fIM.binds (ps := ["levels", "value"]) fun _ _ _ _ _ _ us hl => match us, hl with | [_, _], _ => rfl
  have m_fIM := PySem.W.mg_of X G nf_fIM
  have F_fWL := fun_mk (st := sWrong) lf_fWL cf_fWL kf_fWL
  have b_fWL := F_fWL.binds (ps := ["levels", "lamps"]) fun _ _ _ _ _ _ us hl => match us, hl with | [_, _], _ => rfl
  have m_fWL := PySem.W.mg_of X G nf_fWL
  have F_fCR := fun_mk (st := sCkR) lf_fCR cf_fCR kf_fCR
  have b_fCR := F_fCR.binds (ps := ["value"]) fun _ _ _ _ _ _ us hl => match us, hl with | [_], _ => rfl
  have m_fCR := PySem.W.mg_of X G nf_fCR
  have F_fCS := fun_mk (st := sCkRs) lf_fCS cf_fCS kf_fCS
  have b_fCS := F_fCS.binds (ps := ["trip", "second"]) fun _ _ _ _ _ _ us hl => match us, hl with | [_, _], _ => rfl
  have m_fCS := PySem.W.mg_of X G nf_fCS
  have F_fTo := fun_mk (st := sTotal) lf_fTo cf_fTo kf_fTo
  have b_fTo := F_fTo.binds (ps := ["levels", "parts"]) fun _ _ _ _ _ _ us hl => match us, hl with | [_, _], _ => rfl
  have m_fTo := PySem.W.mg_of X G nf_fTo
  have F_fCo := fun_mk (st := sCommute) lf_fCo cf_fCo kf_fCo
  have b_fCo := F_fCo.binds (ps := ["trip", "second"]) fun _ _ _ _ _ _ us hl => match us, hl with | [_, _], _ => rfl
  have m_fCo := PySem.W.mg_of X G nf_fCo
  have F_fWe := fun_mk (st := sWell) lf_fWe cf_fWe kf_fWe
  have b_fWe := F_fWe.binds (ps := ["_law_script", "_law_spot"]) fun _ _ _ _ _ _ us hl => match us, hl with | [_, _], _ => rfl
  have m_fWe := PySem.W.mg_of X G nf_fWe
  have F_fDr := fun_mk (st := sDraw) lf_fDr cf_fDr kf_fDr
  have b_fDr := F_fDr.binds (ps := ["_law_well_here", "_law_many"]) fun _ _ _ _ _ _ us hl => match us, hl with | [_, _], _ => rfl
  have m_fDr := PySem.W.mg_of X G nf_fDr
  have F_fPk := fun_mk (st := sPick) lf_fPk cf_fPk kf_fPk
  have b_fPk := F_fPk.binds (ps := ["_law_well_here", "_law_choices"]) fun _ _ _ _ _ _ us hl => match us, hl with | [_, _], _ => rfl
  have m_fPk := PySem.W.mg_of X G nf_fPk
  have F_fGr := fun_mk (st := sGreat) lf_fGr cf_fGr kf_fGr
  have b_fGr := F_fGr.binds (ps := ["_law_well_here"]) fun _ _ _ _ _ _ us hl => match us, hl with | [_], _ => rfl
  have m_fGr := PySem.W.mg_of X G nf_fGr
  have F_fAd := fun_mk (st := sAdded) lf_fAd cf_fAd kf_fAd
  have b_fAd := F_fAd.binds (ps := ["_law_levels", "_law_one_here", "_law_other", "_law_move", "_law_by"]) fun _ _ _ _ _ _ us hl => match us, hl with | [_, _, _, _, _], _ => rfl
  have m_fAd := PySem.W.mg_of X G nf_fAd
  have F_fLa := fun_mk (st := sLampsL) lf_fLa cf_fLa kf_fLa
  have b_fLa := F_fLa.binds (ps := ["_law_found"]) fun _ _ _ _ _ _ us hl => match us, hl with | [_], _ => rfl
  have m_fLa := PySem.W.mg_of X G nf_fLa
  have F_fBh := fun_mk (st := sBehind) lf_fBh cf_fBh kf_fBh
  have b_fBh := F_fBh.binds (ps := ["_law_levels", "_law_one_here", "_law_two"]) fun _ _ _ _ _ _ us hl => match us, hl with | [_, _, _], _ => rfl
  have m_fBh := PySem.W.mg_of X G nf_fBh
  have F_fBk := fun_mk (st := sBack) lf_fBk cf_fBk kf_fBk
  have b_fBk := F_fBk.binds (ps := ["_law_levels", "_law_one_here"]) fun _ _ _ _ _ _ us hl => match us, hl with | [_, _], _ => rfl
  have m_fBk := PySem.W.mg_of X G nf_fBk
  have F_fTm := fun_mk (st := sTimes) lf_fTm cf_fTm kf_fTm
  have b_fTm := F_fTm.binds (ps := ["_law_levels", "_law_one_here", "_law_many"]) fun _ _ _ _ _ _ us hl => match us, hl with | [_, _, _], _ => rfl
  have m_fTm := PySem.W.mg_of X G nf_fTm
  have F_fTx := fun_mk (st := sTextL) lf_fTx cf_fTx kf_fTx
  have b_fTx := F_fTx.binds (ps := ["_law_levels", "_law_one_here"]) fun _ _ _ _ _ _ us hl => match us, hl with | [_, _], _ => rfl
  have m_fTx := PySem.W.mg_of X G nf_fTx
  have F_fDw := fun_mk (st := sDrawn) lf_fDw cf_fDw kf_fDw
  have b_fDw := F_fDw.binds (ps := ["_law_well_here", "_law_levels", "_law_wide", "_law_ends", "_law_most"]) fun _ _ _ _ _ _ us hl => match us, hl with | [_, _, _, _, _], _ => rfl
  have m_fDw := PySem.W.mg_of X G nf_fDw
  have F_fPr := fun_mk (st := sPair) lf_fPr cf_fPr kf_fPr
  have b_fPr := F_fPr.binds (ps := ["_law_well_here", "_law_levels"]) fun _ _ _ _ _ _ us hl => match us, hl with | [_, _], _ => rfl
  have m_fPr := PySem.W.mg_of X G nf_fPr
  have F_fRg := fun_mk (st := sRight) lf_fRg cf_fRg kf_fRg
  have b_fRg := F_fRg.binds (ps := ["_law_well_here"]) fun _ _ _ _ _ _ us hl => match us, hl with | [_], _ => rfl
  have m_fRg := PySem.W.mg_of X G nf_fRg
  have F_fLaw := fun_mk (st := sLaw) lf_fLaw cf_fLaw kf_fLaw
  have F_gIn := fun_mk (st := sInit) lf_gIn cf_gIn kf_gIn
  have b_gIn := F_gIn.binds (ps := ["self", "levels", "lamps", "end"]) fun _ _ _ _ _ _ us hl => match us, hl with | [_, _, _, _], _ => rfl
  have F_gLv := fun_mk (st := sLevels) lf_gLv cf_gLv kf_gLv
  have b_gLv := F_gLv.binds (ps := ["self"]) fun _ _ _ _ _ _ us hl => match us, hl with | [_], _ => rfl
  have F_gLa := fun_mk (st := sLampsP) lf_gLa cf_gLa kf_gLa
  have b_gLa := F_gLa.binds (ps := ["self"]) fun _ _ _ _ _ _ us hl => match us, hl with | [_], _ => rfl
  have F_gEn := fun_mk (st := sEnd) lf_gEn cf_gEn kf_gEn
  have b_gEn := F_gEn.binds (ps := ["self"]) fun _ _ _ _ _ _ us hl => match us, hl with | [_], _ => rfl
  have F_gRd := fun_mk (st := sRead) lf_gRd cf_gRd kf_gRd
  have b_gRd := F_gRd.binds (ps := ["cls", "text"]) fun _ _ _ _ _ _ us hl => match us, hl with | [_, _], _ => rfl
  have mR := PySem.W.mg_of X G nC
  have mLv := PySem.W.mg_of X G nL
  have mML := PySem.W.mg_of X G nM
  have four : ∀ H, SqT K H aL [.int 2, .int 3, .int 5, .int 7] := fun H => .inr ⟨_, _, _, lL, rfl, rfl, (by show 4 ≤ sizeLine; decide), .cons ⟨_, rfl⟩ (.cons ⟨_, rfl⟩ (.cons ⟨_, rfl⟩ (.cons ⟨_, rfl⟩ .nil)))⟩
  refine ⟨PySem.W.fnOf "law" "law" (defArgs sLaw) (defBody sLaw) (defScope sLaw) .none kV_fLaw dc_fLaw pm_fLaw an_fLaw cd_fLaw ct_fLaw, fun s u => .of_eq rfl, fun base _ _ => ?_⟩
  have d_fII : Dr P w K mg base spIsInt "is_integer" ["value"] 1 := ⟨⟨fII, _, ok_isInt F_fII (none (n := "isinstance") (by decide +kernel)) (none (n := "int") (by decide +kernel)) (none (n := "bool") (by decide +kernel)), b_fII, m_fII, kf_fII⟩⟩
  have d_fIL : Dr P w K mg base spIsLevels "is_levels" ["value"] 2 := ⟨⟨fIL, _, ok_isLevels F_fIL d_fII mLv four, b_fIL, m_fIL, kf_fIL⟩⟩
  have d_fIM : Dr P w K mg base spIsLamp "is_lamp" ["levels", "value"] 2 := ⟨⟨fIM, _, ok_isLamp F_fIM d_fII (none (n := "isinstance") (by decide +kernel)) (none (n := "tuple") (by decide +kernel)) (none (n := "len") (by decide +kernel)), b_fIM, m_fIM, kf_fIM⟩⟩
  have d_fWL : Dr P w K mg base (spWrong K) "wrong_lamp" ["levels", "lamps"] 3 := ⟨⟨fWL, _, ok_wrong F_fWL d_fIM (none (n := "enumerate") (by decide +kernel)), b_fWL, m_fWL, kf_fWL⟩⟩
  have d_fRI : Dr P w K mg base spReadInt "read_integer" ["word"] 1 := ⟨⟨fRI, _, ok_readInt F_fRI (none (n := "int") (by decide +kernel)) (none (n := "str") (by decide +kernel)), b_fRI, m_fRI, kf_fRI⟩⟩
  have d_fRL : Dr P w K mg base spReadLamp "read_lamp" ["word"] 2 := ⟨⟨fRL, _, ok_readLamp F_fRL d_fRI, b_fRL, m_fRL, kf_fRL⟩⟩
  have d_fRS : Dr P w K mg base spReadLamps "read_lamps" ["words"] 3 := ⟨⟨fRS, _, ok_readLamps F_fRS d_fRL (none (n := "len") (by decide +kernel)) (none (n := "tuple") (by decide +kernel)), b_fRS, m_fRS, kf_fRS⟩⟩
  have d_fRP : Dr P w K mg base spReadParts "read_parts" ["text"] 4 := ⟨⟨fRP, _, ok_readParts F_fRP d_fRI d_fRS (none (n := "len") (by decide +kernel)), b_fRP, m_fRP, kf_fRP⟩⟩
  have gI : FnOk P w K mg base CX0 4 gIn _ ["self", "levels", "lamps", "end"] (spInitR K C) := ok_initR F_gIn R d_fII d_fIL d_fWL mML (none (n := "isinstance") (by decide +kernel)) (none (n := "tuple") (by decide +kernel)) (none (n := "len") (by decide +kernel))
  have M : MkR P w K mg base C := ⟨⟨gIn, _, ⟨hmakes, fm_gIn, if_gIn, hkeep⟩, gI, b_gIn, fun s x u1 u2 u3 => .of_eq rfl⟩⟩
  have Rd : RdR P w K mg base C := ⟨⟨.type "type", p_gRd, gRd, _, ⟨crd_gRd, cga_gRd⟩, ⟨ca_gRd, ⟨_, cr_gRd⟩, cf2_gRd⟩, ok_read F_gRd M d_fRP (none (n := "isinstance") (by decide +kernel)) (none (n := "str") (by decide +kernel)), b_gRd⟩⟩
  have Z : Ask3 P w K mg base C := ⟨⟨⟨p_gLv, gLv, _, ⟨pa_gLv, pg_gLv, pt_gLv, ⟨_, pr_gLv⟩⟩, ok_levels F_gLv R, b_gLv⟩⟩, ⟨⟨p_gLa, gLa, _, ⟨pa_gLa, pg_gLa, pt_gLa, ⟨_, pr_gLa⟩⟩, ok_lamps F_gLa R, b_gLa⟩⟩, ⟨⟨p_gEn, gEn, _, ⟨pa_gEn, pg_gEn, pt_gEn, ⟨_, pr_gEn⟩⟩, ok_end F_gEn R, b_gEn⟩⟩⟩
  have d_fCR : Dr P w K mg base (spCkR C) "check_round" ["value"] 1 := ⟨⟨fCR, _, ok_ckR F_fCR R S mR (none (n := "isinstance") (by decide +kernel)), b_fCR, m_fCR, kf_fCR⟩⟩
  have d_fCS : Dr P w K mg base (spCkRs C) "check_rounds" ["trip", "second"] 3 := ⟨⟨fCS, _, ok_ckRs F_fCS R Z d_fCR, b_fCS, m_fCS, kf_fCS⟩⟩
  have d_fTo : Dr P w K mg base (spTotal K) "total" ["levels", "parts"] 1 := ⟨⟨fTo, _, ok_total F_fTo (none (n := "tuple") (by decide +kernel)) (none (n := "sorted") (by decide +kernel)), b_fTo, m_fTo, kf_fTo⟩⟩
  have gCo : FnOk P w K mg base CX0 4 fCo _ ["trip", "second"] (spCommute K C) := ok_commute F_fCo R Z d_fCS d_fTo
  have d_fCo : Dr P w K mg base (spCommute K C) "commute" ["trip", "second"] 4 := ⟨⟨fCo, _, gCo, b_fCo, m_fCo, kf_fCo⟩⟩
  have e_fCo : DrB P w K mg base (spCommute K C) "commute" ["trip", "second"] 4 := ⟨⟨fCo, _, gCo, fun s us hl => (by obtain ⟨a, b, rfl⟩ := two_of hl; exact .of_eq rfl), m_fCo, kf_fCo⟩⟩
  have d_fDr : Dr P w K mg base spDraw "_law_draw" ["_law_well_here", "_law_many"] 1 := ⟨⟨fDr, _, ok_draw F_fDr (none (n := "int") (by decide +kernel)) (none (n := "divmod") (by decide +kernel)), b_fDr, m_fDr, kf_fDr⟩⟩
  have d_fWe : Dr P w K mg base (spWell K) "_law_well" ["_law_script", "_law_spot"] 1 := ⟨⟨fWe, _, ok_well F_fWe (none (n := "int") (by decide +kernel)) (none (n := "len") (by decide +kernel)) (none (n := "abs") (by decide +kernel)), b_fWe, m_fWe, kf_fWe⟩⟩
  have d_fPk : Dr P w K mg base spPick "_law_pick" ["_law_well_here", "_law_choices"] 2 := ⟨⟨fPk, _, ok_pick F_fPk d_fDr (none (n := "len") (by decide +kernel)), b_fPk, m_fPk, kf_fPk⟩⟩
  have d_fGr : Dr P w K mg base spGreat "_law_great" ["_law_well_here"] 2 := ⟨⟨fGr, _, ok_great F_fGr d_fDr (none (n := "range") (by decide +kernel)), b_fGr, m_fGr, kf_fGr⟩⟩
  have d_fAd : Dr P w K mg base spAdded "_law_added" ["_law_levels", "_law_one_here", "_law_other", "_law_move", "_law_by"] 1 := ⟨⟨fAd, _, ok_added F_fAd (none (n := "dict") (by decide +kernel)) (none (n := "list") (by decide +kernel)) (none (n := "int") (by decide +kernel)), b_fAd, m_fAd, kf_fAd⟩⟩
  have d_fLa : Dr P w K mg base (spLampsL K) "_law_lamps" ["_law_found"] 1 := ⟨⟨fLa, _, ok_lampsL F_fLa (none (n := "tuple") (by decide +kernel)) (none (n := "sorted") (by decide +kernel)) (none (n := "list") (by decide +kernel)), b_fLa, m_fLa, kf_fLa⟩⟩
  have d_fBh : Dr P w K mg base spBehind "_law_behind" ["_law_levels", "_law_one_here", "_law_two"] 2 := ⟨⟨fBh, _, ok_behind F_fBh d_fAd, b_fBh, m_fBh, kf_fBh⟩⟩
  have d_fBk : Dr P w K mg base spBack "_law_back" ["_law_levels", "_law_one_here"] 2 := ⟨⟨fBk, _, ok_back F_fBk d_fAd, b_fBk, m_fBk, kf_fBk⟩⟩
  have d_fTm : Dr P w K mg base spTimes "_law_times" ["_law_levels", "_law_one_here", "_law_many"] 3 := ⟨⟨fTm, _, ok_times F_fTm d_fBh d_fBk (none (n := "range") (by decide +kernel)), b_fTm, m_fTm, kf_fTm⟩⟩
  have d_fTx : Dr P w K mg base (spTextL K) "_law_text" ["_law_levels", "_law_one_here"] 2 := ⟨⟨fTx, _, ok_textL F_fTx d_fLa (none (n := "str") (by decide +kernel)), b_fTx, m_fTx, kf_fTx⟩⟩
  have d_fDw : Dr P w K mg base spDrawn "_law_drawn" ["_law_well_here", "_law_levels", "_law_wide", "_law_ends", "_law_most"] 2 := ⟨⟨fDw, _, ok_drawn F_fDw d_fDr (none (n := "range") (by decide +kernel)), b_fDw, m_fDw, kf_fDw⟩⟩
  have d_fPr : Dr P w K mg base spPair "_law_pair" ["_law_well_here", "_law_levels"] 4 := ⟨⟨fPr, _, ok_pair F_fPr d_fDr d_fGr d_fDw d_fTm, b_fPr, m_fPr, kf_fPr⟩⟩
  have gRg := ok_right F_fRg d_fPk d_fPr d_fBh d_fTx d_fLa d_fCo e_fCo M Rd mR (none (n := "range") (by decide +kernel)) (none (n := "repr") (by decide +kernel))
  exact ok_law F_fLaw gRg b_fRg m_fRg kf_fRg d_fWe (none (n := "range") (by decide +kernel)) (none (n := "len") (by decide +kernel)) (none (n := "all") (by decide +kernel)) (none (n := "max") (by decide +kernel)) (none (n := "min") (by decide +kernel))
theorem walk {l : PySem.W.OpenLaw} {q : Program} {loose : List Str} {XP : (Str → Option Value) → Heap → Prop} {YP : World → Heap → Prop} {d : DefRec} {K : Params → PySem.W.Frag} (hn : l.most = some 63) (hdf : d.params.defaults = []) (hY : ∀ (w : World) (h : Heap), YP w h → (K w.params).In h)
    (F : ∀ (w : World) (mg : Str → Option Value) (fa : Addr) (h : Heap), (K w.params).In h → h.Ns mainGlobals mg → mg d.name = some (.ref fa) → ∃ fd : FuncData, (∀ (s : Shared) (u : Value), BindsTo s fd ⟨[u], []⟩ [("_law_script", u)]) ∧
      ∀ base : Heap, (K w.params).In base → base.Ns mainGlobals mg → FnG l.prog w (K w.params) mg base 9 fa fd ["_law_script"] (spLaw (K w.params))) : PySem.W.WalkO q loose XP YP l.row.toRowW d [] (fun f vs => PySem.call f vs) :=
  walk_ofG (n := 63) (k := 9) (x := "_law_script") (sp := fun w => spLaw (K w.params)) hn (by decide) hdf ⟨rfl, by decide, by decide⟩ hY F fun w H a ns h1 h2 _ hS => ⟨a, ns, rfl, hS, h1, h2, fun _ => rfl⟩
end Lamp
set_option Elab.async false
open PySem PySem.W PyProof.Rows
set_option maxRecDepth 100000 in
set_option maxHeartbeats 0 in
theorem PySem.Challenge.cw_lamprounds_k21_whole_rounds_that_commute_holds : PySem.Challenge.rw_lamprounds_k21_whole_rounds_that_commute.Holds := by
  w_on; o_law; k_head; (case hw => w_witness2)
  k_fill
  refine Lamp.walk (l := PySem.Challenge.rw_lamprounds_k21_whole_rounds_that_commute) rfl rfl (fun w h Y => PySem.W.kIn_of Y) ?F
  case F =>
    intro w mg fa h KX G hmg
    refine' Lamp.all_mk KX G hmg ?nC ?nf_fRI ?lf_fRI ?cf_fRI ?kf_fRI ?nf_fRL ?lf_fRL ?cf_fRL ?kf_fRL ?nf_fRS ?lf_fRS ?cf_fRS ?kf_fRS ?nf_fRP ?lf_fRP ?cf_fRP ?kf_fRP ?nf_fII ?lf_fII ?cf_fII ?kf_fII ?nf_fIL ?lf_fIL ?cf_fIL ?kf_fIL ?nf_fIM ?lf_fIM ?cf_fIM ?kf_fIM ?nf_fWL ?lf_fWL ?cf_fWL ?kf_fWL ?nf_fCR ?lf_fCR ?cf_fCR ?kf_fCR ?nf_fCS ?lf_fCS ?cf_fCS ?kf_fCS ?nf_fTo ?lf_fTo ?cf_fTo ?kf_fTo ?nf_fCo ?lf_fCo ?cf_fCo ?kf_fCo ?nf_fWe ?lf_fWe ?cf_fWe ?kf_fWe ?nf_fDr ?lf_fDr ?cf_fDr ?kf_fDr ?nf_fPk ?lf_fPk ?cf_fPk ?kf_fPk ?nf_fGr ?lf_fGr ?cf_fGr ?kf_fGr ?nf_fAd ?lf_fAd ?cf_fAd ?kf_fAd ?nf_fLa ?lf_fLa ?cf_fLa ?kf_fLa ?nf_fBh ?lf_fBh ?cf_fBh ?kf_fBh ?nf_fBk ?lf_fBk ?cf_fBk ?kf_fBk ?nf_fTm ?lf_fTm ?cf_fTm ?kf_fTm ?nf_fTx ?lf_fTx ?cf_fTx ?kf_fTx ?nf_fDw ?lf_fDw ?cf_fDw ?kf_fDw ?nf_fPr ?lf_fPr ?cf_fPr ?kf_fPr ?nf_fRg ?lf_fRg ?cf_fRg ?kf_fRg ?nf_fLaw ?lf_fLaw ?cf_fLaw ?kf_fLaw ?fm_gIn ?lf_gIn ?cf_gIn ?kf_gIn ?if_gIn ?pa_gLv ?pr_gLv ?pg_gLv ?pt_gLv ?lf_gLv ?cf_gLv ?kf_gLv ?pa_gLa ?pr_gLa ?pg_gLa ?pt_gLa ?lf_gLa ?cf_gLa ?kf_gLa ?pa_gEn ?pr_gEn ?pg_gEn ?pt_gEn ?lf_gEn ?cf_gEn ?kf_gEn ?ca_gRd ?cr_gRd ?cf2_gRd ?crd_gRd ?cga_gRd ?lf_gRd ?cf_gRd ?kf_gRd ?nL ?lL ?nM ?all
    (case nC => k_is)
    (case nf_fRI => k_is)
    (case lf_fRI => k_is)
    (case cf_fRI => k_is)
    (case kf_fRI => k_is)
    (case nf_fRL => k_is)
    (case lf_fRL => k_is)
    (case cf_fRL => k_is)
    (case kf_fRL => k_is)
    (case nf_fRS => k_is)
    (case lf_fRS => k_is)
    (case cf_fRS => k_is)
    (case kf_fRS => k_is)
    (case nf_fRP => k_is)
    (case lf_fRP => k_is)
    (case cf_fRP => k_is)
    (case kf_fRP => k_is)
    (case nf_fII => k_is)
    (case lf_fII => k_is)
    (case cf_fII => k_is)
    (case kf_fII => k_is)
    (case nf_fIL => k_is)
    (case lf_fIL => k_is)
    (case cf_fIL => k_is)
    (case kf_fIL => k_is)
    (case nf_fIM => k_is)
    (case lf_fIM => k_is)
    (case cf_fIM => k_is)
    (case kf_fIM => k_is)
    (case nf_fWL => k_is)
    (case lf_fWL => k_is)
    (case cf_fWL => k_is)
    (case kf_fWL => k_is)
    (case nf_fCR => k_is)
    (case lf_fCR => k_is)
    (case cf_fCR => k_is)
    (case kf_fCR => k_is)
    (case nf_fCS => k_is)
    (case lf_fCS => k_is)
    (case cf_fCS => k_is)
    (case kf_fCS => k_is)
    (case nf_fTo => k_is)
    (case lf_fTo => k_is)
    (case cf_fTo => k_is)
    (case kf_fTo => k_is)
    (case nf_fCo => k_is)
    (case lf_fCo => k_is)
    (case cf_fCo => k_is)
    (case kf_fCo => k_is)
    (case nf_fWe => k_is)
    (case lf_fWe => k_is)
    (case cf_fWe => k_is)
    (case kf_fWe => k_is)
    (case nf_fDr => k_is)
    (case lf_fDr => k_is)
    (case cf_fDr => k_is)
    (case kf_fDr => k_is)
    (case nf_fPk => k_is)
    (case lf_fPk => k_is)
    (case cf_fPk => k_is)
    (case kf_fPk => k_is)
    (case nf_fGr => k_is)
    (case lf_fGr => k_is)
    (case cf_fGr => k_is)
    (case kf_fGr => k_is)
    (case nf_fAd => k_is)
    (case lf_fAd => k_is)
    (case cf_fAd => k_is)
    (case kf_fAd => k_is)
    (case nf_fLa => k_is)
    (case lf_fLa => k_is)
    (case cf_fLa => k_is)
    (case kf_fLa => k_is)
    (case nf_fBh => k_is)
    (case lf_fBh => k_is)
    (case cf_fBh => k_is)
    (case kf_fBh => k_is)
    (case nf_fBk => k_is)
    (case lf_fBk => k_is)
    (case cf_fBk => k_is)
    (case kf_fBk => k_is)
    (case nf_fTm => k_is)
    (case lf_fTm => k_is)
    (case cf_fTm => k_is)
    (case kf_fTm => k_is)
    (case nf_fTx => k_is)
    (case lf_fTx => k_is)
    (case cf_fTx => k_is)
    (case kf_fTx => k_is)
    (case nf_fDw => k_is)
    (case lf_fDw => k_is)
    (case cf_fDw => k_is)
    (case kf_fDw => k_is)
    (case nf_fPr => k_is)
    (case lf_fPr => k_is)
    (case cf_fPr => k_is)
    (case kf_fPr => k_is)
    (case nf_fRg => k_is)
    (case lf_fRg => k_is)
    (case cf_fRg => k_is)
    (case kf_fRg => k_is)
    (case nf_fLaw => k_is)
    (case lf_fLaw => k_is)
    (case cf_fLaw => k_is)
    (case kf_fLaw => k_is)
    (case fm_gIn => k_is)
    (case lf_gIn => k_is)
    (case cf_gIn => k_is)
    (case kf_gIn => k_is)
    (case if_gIn => k_is)
    (case pa_gLv => k_is)
    (case pr_gLv => k_is)
    (case pg_gLv => k_is)
    (case pt_gLv => k_is)
    (case lf_gLv => k_is)
    (case cf_gLv => k_is)
    (case kf_gLv => k_is)
    (case pa_gLa => k_is)
    (case pr_gLa => k_is)
    (case pg_gLa => k_is)
    (case pt_gLa => k_is)
    (case lf_gLa => k_is)
    (case cf_gLa => k_is)
    (case kf_gLa => k_is)
    (case pa_gEn => k_is)
    (case pr_gEn => k_is)
    (case pg_gEn => k_is)
    (case pt_gEn => k_is)
    (case lf_gEn => k_is)
    (case cf_gEn => k_is)
    (case kf_gEn => k_is)
    (case ca_gRd => k_is)
    (case cr_gRd => k_is)
    (case cf2_gRd => k_is)
    (case crd_gRd => k_is)
    (case cga_gRd => k_is)
    (case lf_gRd => k_is)
    (case cf_gRd => k_is)
    (case kf_gRd => k_is)
    (case nL => k_is)
    (case lL => k_is)
    (case nM => k_is)
    (case all => kernel_rfl)
