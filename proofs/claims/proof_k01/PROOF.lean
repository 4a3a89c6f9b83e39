import PyProof.Rows.All
import Wide.All
import OpenK.AllK
import Wide.FinOn
import HandS.ForMost
import HandS.Wide
import HandS.WideBits
import HandS.EndBits
import HandS.Steps
import HandS.ExcInit
import KE.KExcLine
import KE.KExcIs
import HandS.ExcOwn
import HandS.ExcValue
import HandS.IsInst
import HandS.ExcField
import HandS.TupLe
import PyProof.ExcBaseAll.LookupError
import PyProof.ExcBaseAll.ArithmeticError
import PyProof.ExcBaseAll.ValueError
import PySem.Challenge.RW_lamprounds_k01_limits_and_errors
set_option Elab.async false
set_option linter.all false
set_option maxRecDepth 100000
namespace Lamp
open PySem PySem.Spec PyProof.Rows L2
/-! A def's promise where it is known that no repr is under way. -/
structure FnG (P : Program) (w : World) (K : PySem.W.Frag) (mg : Str → Option Value) (base : Heap) (k : Nat) (f : Addr) (fd : FuncData) (ps : List Str) (sp : Sp) : Prop where
  many : ∀ vs H Q E, sp vs H Q E → vs.length = ps.length
  goes : ∀ (A : Around) (out : List Env) (s : Shared) (H : Hp) (ar : Args) (us : List Value) (vs : List V) (Q : VK) (E : XK), A.guards = some [] → Room k A → Env0 P w K mg base A out s H →
    BindsTo s fd ar (ps.zip us) → Vals vs us → sp vs H Q E → codeAny (model P w) A (.call (.ref f) ar) (CR CX0 out P w H s Q E) s
section
variable {P : Program} {w : World} {K : PySem.W.Frag} {mg : Str → Option Value} {base : Heap}
theorem FnG.of {k : Nat} {f : Addr} {fd : FuncData} {ps : List Str} {sp : Sp} (F : FnOk P w K mg base CX0 k f fd ps sp) : FnG P w K mg base k f fd ps sp :=
  ⟨F.len, fun A out s H ar us vs Q E _ hr he hb hv hs => F.run A out s H ar us vs Q E hr he hb hv hs⟩
theorem FnG.up {j k : Nat} {f : Addr} {fd : FuncData} {ps : List Str} {sp : Sp} (F : FnG P w K mg base j f fd ps sp) (h : j ≤ k) : FnG P w K mg base k f fd ps sp :=
  ⟨F.many, fun A out s H ar us vs Q E hg hr he hb hv hs => F.goes A out s H ar us vs Q E hg (hr.mono h) he hb hv hs⟩
/-- the rule for a def, by its body -/
theorem okG {x qual : Str} {st : Stmt} {f : Addr} {fd : FuncData} {N ps : List Str} {k : Nat} {sp : Sp} (F : Fun K x qual st f fd) (S : FnScope N ps (defScope st)) (len : ∀ vs H Q E, sp vs H Q E → vs.length = ps.length)
    (hbody : ∀ (cdv : Value) (A : Around) (outer : List Env) (s : Shared) (H : Hp) (vs : List V) (Q : VK) (E : XK), A.guards = some [] → Room k (A.deeper (envOfC qual (defScope st) s.heap.objs.size f cdv)) → sp vs H Q E →
      ∃ t, PSs (cxOf CX0 P w K mg base N qual (defScope st) f cdv A outer s H E).nox (defBody st) t ∧ t { nx := fun _ H' => Q .non H', rt := Q } (start N vs) H) : FnG P w K mg base (k + 1) f fd ps sp := by
  obtain ⟨oc, od, kV, doc, pm, an, cdv, ct, osl, efd, hlk, hcode⟩ := F.ex
  subst efd
  refine ⟨len, fun A out s H ar us vs Q E hgd hroom hst hbind hvals hs => ?_⟩
  have hcount := len _ _ _ _ hs
  have inK : K.In s.heap := hst.mod.kin.keeps fun b o e => (hst.bs b o e).1
  have noLim : s.heap.NoLimit := hst.mod.nolimit.keeps fun b o e => (hst.bs b o e).1
  refine codeAny_call_function hroom.depth (inK _ _ hlk) rfl S.co S.gen rfl (PySem.W.codeRec_of inK hcode) (hbind _ _ _ _ ?_)
  refine wpAny_newFunctionEnv_cells S.kind (fun y hy => ?_) fun env eenv s1 xin => ?_
  · obtain ⟨nm, val⟩ := y
    cases S.par nm (List.of_mem_zip hy).1 with
    | inl isLocal => exact .inl isLocal
    | inr isCell => exact .inr ⟨isCell, PySem.W.cellsFrom_some _ _ _ (.inl isCell)⟩
  subst eenv
  refine ⟨noLim.keeps xin.toInCall.keep, codeAny_func ?_⟩
  obtain ⟨t, ht0, hq⟩ := hbody cdv A out s H vs Q E hgd (hroom.deeper _) hs
  have ht := ht0.nox
  have inv0 : Inv (cxOf CX0 P w K mg base N qual (defScope st) f cdv A out s H E) [] (start N vs) H s1 := inv_start S hroom.hd hst hcount hvals xin
  have fin : ∀ {σ' : L2.St} {H' : Hp} {v : V} {u : Value} {s' : Shared}, Inv (cxOf CX0 P w K mg base N qual (defScope st) f cdv A out s H E) [] σ' H' s' → RelV v u → Q v H' → CE out P w H s Q u s' := fun J rv q => ⟨_, _, J.os, J.bare, J.base, J.hok, rv, q⟩
  refine wpAny_mono (ht.run [] s1 (start N vs) H _ inv0 hq) (fun flow s' told => ?_) fun e s' told => told
  match flow, told with
  | .ret u, ⟨v, σ', H', J, rv, q⟩ => exact fin J rv q
  | .next, ⟨σ', H', J, q⟩ => exact fin (v := V.non) (u := Value.none) J rfl q
  | .brk, ⟨_, _, _, q⟩ => exact False.elim q
  | .cont, ⟨_, _, _, q⟩ => exact False.elim q
end
section
variable {X : Cx} {k : Nat} {f : Addr} {fd : FuncData} {ps : List Str} {sp : Sp} {dvs : List V} {ds : List Value} {x : Str} {p pos : Pos} {e : Expr} {es : List Expr} {t : TA}
theorem runG {pins : List (Addr × Obj)} {σ : L2.St} {H : Hp} {s : Shared} {Q : VK} {us : List Value} {vs : List V} (F : FnG X.prog X.w X.K X.mg X.base k f fd ps sp) (hgd : X.A.guards = some []) (hr : Room k X.A) (hb : Binds X.K fd ps [])
    (I : Inv X pins σ H s) (r : Vals vs us) (h : sp vs H Q E0) : wpAny (model X.prog X.w) X.A (call (.ref f) us) (EP X pins σ Q) X.xe s := by
  have hl : (us ++ []).length = ps.length := by rw [List.append_nil, ← r.length]; exact F.many _ _ _ _ h
  have hbb := hb s us I.kIn hl
  rw [List.append_nil] at hbb
  refine wpAny_call (codeAny_mono (F.goes X.A X.stack s H ⟨us, []⟩ us vs Q E0 hgd hr I.env0 hbb r h) fun res s' told => ?_)
  match res, told with
  | .error _, told => exact False.elim told
  | .ok (.ret u), told => exact I.after told
  | .ok .next, told => exact False.elim told
  | .ok .brk, told => exact False.elim told
  | .ok .cont, told => exact False.elim told
/-- f(e, ..) -/
def tCallG (sp : Sp) (t : TA) : TE := fun σ H Q => t σ H fun vs H1 => sp vs H1 Q E0
theorem pe_callG (F : FnG X.prog X.w X.K X.mg X.base k f fd ps sp) (hgd : X.A.guards = some []) (hr : Room k X.A) (hg : Gl X x) (hm : X.mg x = some (.ref f)) (hk : PySem.W.keepIn X.K (.ref f) = true) (hb : Binds X.K fd ps [])
    (ha : PA X (e :: es) t) (hdb : (x == ("__debug__" : Str)) = false := by decide) (he : starEach (e :: es) X.env = (false, eval e X.env) :: starEach es X.env := by rfl) (hpl : (backTo pos (starEach es X.env)).any (·.1) = false := by rfl) :
    PE X (.Call (.Name x p) (e :: es) [] pos) (tCallG sp t) :=
  ⟨fun pins s σ H Q I h => wpAny_Call_Name_kw (ld_glob I hg hm (PySem.W.callWith_K (h₀ := X.base) I.ok.mod.kin hk (thn (ha.run pos pins s σ H _ I h) fun us s1 ⟨vs, H1, I1, r, q⟩ =>
    ⟨I1.kIn, runG F hgd hr hb I1 r q⟩) he hpl) hdb)⟩
end
/-! the law's own call, from its promise -/
theorem law_goes {P : Program} {w : World} {K : PySem.W.Frag} {mg mb : Str → Option Value} {k : Nat} {fa a : Addr} {fd : FuncData} {x : Str} {sp : Sp} {sh : Shared} {vs : List Value} {ns : List Int} {H : Hp}
    (inK : K.In sh.heap) (nsG : sh.heap.Ns mainGlobals mg) (nsB : sh.heap.Ns builtinsNs mb) (bltn : ∀ x : Str, x ≠ "__name__" → mb x = bootBuiltins x) (noLim : sh.heap.NoLimit) (noGen : sh.gens = #[])
    (there : sh.heap.get? a = some { cls := .type "list", data := .seq vs.toArray }) (room : Room k callerA)
    (F : ∀ base : Heap, K.In base → base.Ns mainGlobals mg → FnG P w K mg base k fa fd [x] sp) (hbind : ∀ (s : Shared) (u : Value), BindsTo s fd ⟨[u], []⟩ [(x, u)])
    (asked : sp [.ref a] H (fun v _ => v = .bl true) E0) (only : Only H) (hok : HOk P w H sh.heap) (alone : ∀ b u, H b = some u → b = a ∧ K.lookup a = none) :
    codeAny (model P w) callerA (.call (.ref fa) ⟨[.ref a], []⟩) (fun r s' => r = .ok (.ret (.bool true)) ∧ OldK sh.heap s'.heap ∧ s'.os = sh.os ∧ AllBare s'.gens) sh := by
  have untold : ∀ {b : Addr} {o : Obj}, sh.heap.get? b = some o → (b = a → o.cls ≠ .type "list") → H b = none := fun {b o} e ne => by
    cases q : H b with
    | none => rfl
    | some u =>
      have eb := (alone b u q).1
      subst eb
      rw [there] at e
      cases e
      exact absurd rfl (ne rfl)
  have nsKeep : ∀ {b : Addr} {m : Str → Option Value}, sh.heap.Ns b m → (hidT sh.heap H).Ns b m := fun {b m} told => by
    obtain ⟨o, es, ep, e, d, r⟩ := told
    refine ⟨o, es, ep, hidT_get e ?_, d, r⟩
    cases q : H b with
    | none => rfl
    | some u =>
      have eb := (alone b u q).1
      subst eb
      rw [there] at e
      cases e
      exact Data.noConfusion d
  have inK' : K.In (hidT sh.heap H) := fun b o e => hidT_get (inK b o e) (by
    cases q : H b with
    | none => rfl
    | some u =>
      obtain ⟨eb, none⟩ := alone b u q
      rw [eb, none] at e
      cases e)
  obtain ⟨mc, lim1, lim2⟩ := noLim
  have start0 : Env0 P w K mg (hidT sh.heap H) callerA [] sh H :=
    { frames := rfl, mod := ⟨inK', nsKeep nsG, ⟨mb, nsKeep nsB, bltn⟩, ⟨mc, nsKeep lim1, lim2⟩⟩, bs := fun b o e => of_hidT e, bsz := Nat.le_of_eq (hidT_size _ _), funs := trivial, frf := (fun b hb => nomatch hb), hok := hok, bare := .of_eq noGen }
  refine codeAny_mono ((F _ inK' (nsKeep nsG)).goes callerA [] sh H ⟨[.ref a], []⟩ [.ref a] [.ref a] _ _ rfl room start0 (hbind sh (.ref a)) (.cons rfl .nil) asked) fun res s' told => ?_
  match res, told with
  | .error _, told => exact False.elim told
  | .ok .next, told => exact False.elim told
  | .ok .brk, told => exact False.elim told
  | .ok .cont, told => exact False.elim told
  | .ok (.ret u), ⟨v, H', os, bare, un, hok', rv, ev⟩ =>
    have ev' : v = .bl true := ev
    subst ev'
    have eu : u = Value.bool true := rv
    subst eu
    refine ⟨rfl, OldK.of_keep fun b o e => ?_, os, bare⟩
    rcases only b with none | ⟨ob, xs, froz⟩
    · exact un.keep b o e none (fun z => nomatch z) (fun z => nomatch z)
    · have old := (hok b _ froz).1
      have new := (hok' b _ (un.frzs b ob _ froz)).1
      rw [e] at old
      cases old
      exact new
theorem law_goes2 {P : Program} {w : World} {K : PySem.W.Frag} {mg mb : Str → Option Value} {k : Nat} {fa a : Addr} {fd : FuncData} {x : Str} {sp : Sp} {sh : Shared} {vs : List Value} {ns : List Int}
    (inK : K.In sh.heap) (nsG : sh.heap.Ns mainGlobals mg) (nsB : sh.heap.Ns builtinsNs mb) (bltn : ∀ x : Str, x ≠ "__name__" → mb x = bootBuiltins x) (noLim : sh.heap.NoLimit) (noGen : sh.gens = #[])
    (there : sh.heap.get? a = some { cls := .type "list", data := .seq vs.toArray }) (areInts : IntsAre vs ns) (short : ns.length ≤ sizeLine) (room : Room k callerA)
    (F : ∀ base : Heap, K.In base → base.Ns mainGlobals mg → FnG P w K mg base k fa fd [x] sp) (hbind : ∀ (s : Shared) (u : Value), BindsTo s fd ⟨[u], []⟩ [(x, u)])
    (asked : ∀ H : Hp, Only H → SqL K H a (ns.map V.int) → sp [.ref a] H (fun v _ => v = .bl true) E0) :
    codeAny (model P w) callerA (.call (.ref fa) ⟨[.ref a], []⟩) (fun r s' => r = .ok (.ret (.bool true)) ∧ OldK sh.heap s'.heap ∧ s'.os = sh.os ∧ AllBare s'.gens) sh := by
  have vals := vals_ints areInts
  have same := areInts.length
  cases look : K.lookup a with
  | some o =>
    have e := inK a o look
    rw [there] at e
    cases e
    have on : Only fun _ => none := fun _ => .inl rfl
    exact law_goes (ns := ns) inK nsG nsB bltn noLim noGen there room F hbind (asked _ on (.inr ⟨_, vs.toArray, _, look, rfl, rfl, rfl, by rw [List.size_toArray, same]; exact short, vals⟩)) on (fun b u z => nomatch z) (fun b u z => nomatch z)
  | none =>
    let held : HO := .frz { cls := .type "list", data := .seq vs.toArray } (.lst (ns.map V.int))
    have at_ : ∀ b, b = a → (fun c => if c = a then some held else none : Hp) b = some held := fun b e => if_pos e
    have off : ∀ b, b ≠ a → (fun c => if c = a then some held else none : Hp) b = none := fun b e => if_neg e
    have on : Only fun c => if c = a then some held else none := fun b => by
      by_cases eb : b = a
      · exact .inr ⟨_, _, at_ b eb⟩
      · exact .inl (off b eb)
    refine law_goes (ns := ns) inK nsG nsB bltn noLim noGen there room F hbind (asked _ on (.inl (.inr ⟨_, at_ a rfl⟩))) on (fun b u z => ?_) (fun b u z => ?_)
    · by_cases eb : b = a
      · subst eb
        have z2 := (at_ b rfl).symm.trans z
        cases z2
        exact ⟨there, by rw [List.length_map]; exact short, vs, _, vals, there⟩
      · have z2 := (off b eb).symm.trans z
        cases z2
    · by_cases eb : b = a
      · exact ⟨eb, look⟩
      · have z2 := (off b eb).symm.trans z
        cases z2
open PySem.W in
theorem walk_ofG {l : PySem.W.OpenLaw} {n k : Nat} {q : Program} {loose : List Str} {XP : (Str → Option Value) → Heap → Prop} {YP : World → Heap → Prop} {d : DefRec} {K : Params → PySem.W.Frag} {sp : World → Sp} {x : Str}
    (hn : l.most = some n) (hn2 : n ≤ sizeLine) (hdf : d.params.defaults = []) (hr : Room k callerA) (hY : ∀ (w : World) (h : Heap), YP w h → (K w.params).In h)
    (F : ∀ (w : World) (mg : Str → Option Value) (fa : Addr) (h : Heap), (K w.params).In h → h.Ns mainGlobals mg → mg d.name = some (.ref fa) → ∃ fd : FuncData, (∀ (s : Shared) (u : Value), BindsTo s fd ⟨[u], []⟩ [(x, u)]) ∧
        ∀ base : Heap, (K w.params).In base → base.Ns mainGlobals mg → FnG l.prog w (K w.params) mg base k fa fd [x] (sp w))
    (hsp : ∀ (w : World) (H : Hp) (a : Addr) (ns : List Int), ns.length ≤ n → (∀ z ∈ ns, Builtin.Int.intBits z ≤ 1048576) → Only H → SqL (K w.params) H a (ns.map V.int) → sp w [.ref a] H (fun v _ => v = .bl true) E0) :
    PySem.W.WalkO q loose XP YP l.row.toRowW d [] (fun f vs => PySem.call f vs) :=
  Att.attach_callB hn hdf fun w s₀ s₁ mg mb fa o pm cd doc a vs ns G Y ho hd hcd hmg hobj hints hlen hbits hg => by
    obtain ⟨fd, hb, hF⟩ := F w mg fa _ (hY w _ Y) G.T.g hmg
    exact law_goes2 (hY w _ Y) G.T.g G.T.b G.T.builtins G.T.nolimit hg hobj hints (Nat.le_trans hlen hn2) hr hF hb fun H hO hS => hsp w H a ns hlen hbits hO hS
end Lamp
set_option Elab.async false
set_option linter.all false
set_option maxRecDepth 100000
namespace Lamp
open PySem PySem.Spec PyProof.Rows L2
/-! repr of data -/
mutual
theorem dp_nodict {K : PySem.W.Frag} {H : Hp} : ∀ (d : PyData) (v : V), Dp K H v d → d.hasDict = false
  | .none, _, _ => by simp only [PyData.hasDict]
  | .bool _, _, _ => by simp only [PyData.hasDict]
  | .int _, _, _ => by simp only [PyData.hasDict]
  | .str _, _, _ => by simp only [PyData.hasDict]
  | .list ds, _, h => by
    cases h with
    | lst hs ha => simpa only [PyData.hasDict] using dpAll_nodict ds _ ha
  | .tuple ds, _, h => by
    cases h with
    | tup hs ha => simpa only [PyData.hasDict] using dpAll_nodict ds _ ha
  | .dict _, _, h => by cases h
theorem dpAll_nodict {K : PySem.W.Frag} {H : Hp} : ∀ (ds : List PyData) (vs : List V), DpAll K H vs ds → PyData.hasDictAll ds = false
  | [], _, _ => by simp only [PyData.hasDictAll]
  | d :: ds, _, h => by
    cases h with
    | cons h1 h2 => simp only [PyData.hasDictAll, dp_nodict d _ h1, dpAll_nodict ds _ h2, Bool.or_self]
end
/-- the data of a scalar -/
def scalD : V → Option PyData
  | .non => some .none
  | .bl b => some (.bool b)
  | .int i => some (.int i)
  | .str x => some (.str x)
  | _ => none
def keyD : Key → PyData
  | .inl i => .int i
  | .inr x => .str x
/-- a value that shows as data: data without dicts, or a dict of scalars -/
inductive Dq (K : PySem.W.Frag) (H : Hp) : V → PyData → Prop
  | plain {v : V} {d : PyData} : Dp K H v d → Dq K H v d
  | dict {a : Addr} {kvs : List (Key × V)} {es : List (PyData × PyData)} : H a = some (.dK kvs) → kvs.map (fun p => (keyD p.1, scalD p.2)) = es.map (fun p => (p.1, some p.2)) → Dq K H (.ref a) (.dict es)
theorem scal_reads {h : Heap} {v : V} {u : Value} {d : PyData} (e : scalD v = some d) (r : RelV v u) : Reads h u d [] := by
  cases v with
  | non => cases e; cases r; exact .none
  | bl b => cases e; cases r; exact .bool b
  | int i => cases e; obtain ⟨t, rfl⟩ := r; exact .int i t
  | str x => cases e; obtain ⟨t, rfl⟩ := r; exact .str x t
  | byt _ => cases e
  | flt _ => cases e
  | ref _ => cases e
  | ty _ => cases e
theorem key_reads {h : Heap} {k : Key} {u : Value} (e : keyIs k u = true) : Reads h u (keyD k) [] := by
  rcases keyIs_shape e with ⟨i, t, rfl, rfl⟩ | ⟨x, t, rfl, rfl⟩
  · exact .int i t
  · exact .str x t
theorem entries_read {P : Program} {w : World} {h : Heap} : ∀ {ents : List DictEntry} {vs : List (Key × Value)} {kvs : List (Key × V)} {es : List (PyData × PyData)}, Pairs (mixKind P w) ents vs → KV kvs vs →
    kvs.map (fun p => (keyD p.1, scalD p.2)) = es.map (fun p => (p.1, some p.2)) → ReadsAll h (ents.map (·.key)) (es.map (·.1)) [] ∧ ReadsAll h (ents.map (·.val)) (es.map (·.2)) [] := by
  intro ents vs kvs es hp
  induction hp generalizing kvs es with
  | nil =>
    intro hk e
    cases hk
    cases es with
    | nil => exact ⟨.nil, .nil⟩
    | cons _ _ => cases e
  | @cons en kv ents vs hkey hval _ ih =>
    intro hk e
    cases hk with
    | @cons p _ kvs' _ hpq hrest =>
      obtain ⟨ek, ev⟩ := hpq
      cases es with
      | nil => cases e
      | cons q es' =>
        simp only [List.map_cons, List.cons.injEq, Prod.mk.injEq] at e
        obtain ⟨⟨e1, e2⟩, e3⟩ := e
        obtain ⟨r1, r2⟩ := ih hrest e3
        have hkey' : keyIs p.1 en.key = true := by rw [ek]; exact hkey
        have k1 : Reads h en.key q.1 [] := by rw [← e1]; exact key_reads hkey'
        have k2 : Reads h en.val q.2 [] := scal_reads e2 (by rw [hval]; exact ev)
        exact ⟨by simpa using ReadsAll.cons k1 r1, by simpa using ReadsAll.cons k2 r2⟩
theorem dq_reads {X : Cx} {pins : List (Addr × Obj)} {σ : L2.St} {H : Hp} {s : Shared} (I : Inv X pins σ H s) {v : V} {u : Value} {d : PyData} (h : Dq X.K H v d) (r : RelV v u) :
    ∃ as, Reads s.heap u d as ∧ (d.hasDict = true → sysModules ∉ as) := by
  cases h with
  | plain h =>
    obtain ⟨as, q⟩ := Dp.reads I d v u h r
    exact ⟨as, q, fun z => by rw [dp_nodict d v h] at z; cases z⟩
  | @dict a kvs es ha he =>
    have eu : u = Value.ref a := r
    subst eu
    obtain ⟨_, low, vs, hk, o, ents, ep, h1, h2, h3, _, h5, _⟩ := (show ObjOk X.prog X.w H s.heap a (.dK kvs) from I.hok a _ ha)
    obtain ⟨q1, q2⟩ := entries_read (h := s.heap) h5 hk he
    refine ⟨_, Reads.dict h1 h2.1 h3 q1 q2, fun _ hm => ?_⟩
    simp at hm
    rw [← hm] at low
    simp at low
/-- repr(x) of data -/
def rReprD (K : PySem.W.Frag) : List V → Hp → VK → Prop := fun xs H Q => ∃ v d, xs = [v] ∧ Dq K H v d ∧ d.showable = true ∧ d.depth ≤ 60 ∧ d.shown.length ≤ sizeLine ∧ Q (.str d.shown) H
theorem call_reprD {X : Cx} (hgd : X.A.guards = some []) (hu : X.A.units + 64 < cLine) : CallR X (.builtin "repr") (rReprD X.K) := by
  intro pins s σ H xs us Q I r h
  obtain ⟨v, d, rfl, hd, hs, hdep, hlen, q⟩ := h
  obtain ⟨u, rfl, rv⟩ := vals1 r
  obtain ⟨as, hr, hsm⟩ := dq_reads I hd rv
  cases hr with
  | none => exact PySem.P.repr_of_none ⟨.str _, H, I.tok _, ⟨_, rfl⟩, q⟩
  | bool b => exact PySem.P.repr_of_bool ⟨.str _, H, I.tok _, ⟨_, rfl⟩, q⟩
  | int i t => exact PySem.P.repr_of_int (by simpa [PyData.showable] using hs) ⟨.str _, H, I.tok _, ⟨_, rfl⟩, q⟩
  | str x t => exact PySem.P.repr_of_str ⟨.str _, H, I.tok _, ⟨_, rfl⟩, q⟩ (by simpa [PyData.shown] using hlen)
  | list h1 h2 h3 h4 => exact repr_of_reads' (.list h1 h2 h3 h4) hs hsm hgd (by omega) (fun _ _ e => e) (fun h' u tk k => ⟨.str _, H, I.kept k, ⟨_, rfl⟩, q⟩) hlen
  | tuple h1 h2 h3 h4 => exact repr_of_reads' (.tuple h1 h2 h3 h4) hs hsm hgd (by omega) (fun _ _ e => e) (fun h' u tk k => ⟨.str _, H, I.kept k, ⟨_, rfl⟩, q⟩) hlen
  | dict h1 h2 h3 h4 h5 => exact repr_of_reads' (.dict h1 h2 h3 h4 h5) hs hsm hgd (by omega) (fun _ _ e => e) (fun h' u tk k => ⟨.str _, H, I.kept k, ⟨_, rfl⟩, q⟩) hlen
end Lamp
set_option Elab.async false
set_option linter.all false
set_option maxRecDepth 100000
set_option maxHeartbeats 4000000
namespace PySem
namespace LampX
open HandSPX Builtin Builtin.ObjectAttr
/-! an exception class of the program called, with keywords too -/
section
variable {prog : Program} {w : World} {M : Model} {A : Around} {E : Value → Shared → Prop} {R : Result → Shared → Prop} {h : Heap} {g : Array GenState} {d : Drawn} {t : Nat} {os : OsState}
variable {cn cq : Str} {C N : Addr} {bs bm tail : List Value} {hdct : Bool} {sn : List Str} {sub : List Value} {ab : Bool} {col : Option Bool} {dd : Option Addr} {k0 k1 k2 k3 k5 : Option Value} {B newId initId : String} {rest : List Value} {kw : List (Str × Value)}
theorem newChecked (F : ExcBaseFacts B newId initId tail) (hT : ∀ X : String, bm.contains (.type X) = tail.contains (.type X)) {Q : Unit → Shared → Prop}
    (hC : h.get? C = some (excClassObj cn cq C N bs bm hdct sn sub ab col dd k0 k1 k2 k3 k5 newId)) (hq : Q () ⟨h, g, d, t, os⟩) : wpAny M A (checkBuiltinCall newId ⟨.ref C :: rest, kw⟩) Q E ⟨h, g, d, t, os⟩ := by
  have below : (Value.ref C :: bm).contains (.type B) = true := by rw [List.contains_cons, hT, F.hasB, Bool.or_true]
  have plain := F.noStar
  simp only [checkBuiltinCall, F.newKind, F.newSplit, F.newRow]
  repeat (first | refine wpAny_loadPart_at hC ?_ | (refine wpAny_isSubtype_exc hC ?_; rw [below]) | refine wpAny_staticBase_exc hC ?_ | refine wpAny_madeBy_exc hC ?_ | simp only [bne_self_eq_false, Bool.false_eq_true, if_false] | wp_step)
  exact hq
theorem newMade (F : ExcBaseFacts B newId initId tail) (hT : ∀ X : String, bm.contains (.type X) = tail.contains (.type X))
    (hC : h.get? C = some (excClassObj cn cq C N bs bm hdct sn sub ab col dd k0 k1 k2 k3 k5 newId))
    (hq : R (.ok (.ret (.ref (h.objs.size + 1)))) ⟨(h.push (W.kdv_tup rest)).push (excO C h.objs.size), g, d, t, os⟩) (short : rest.length ≤ sizeLine) :
    codeAny (model prog w) A (.builtin newId ⟨.ref C :: rest, kw⟩) R ⟨h, g, d, t, os⟩ := by
  have stops := F.ends
  have isB : (Value.ref C :: bm).contains (.type B) = true := by rw [List.contains_cons, hT, F.hasB, Bool.or_true]
  have notA : (Value.ref C :: bm).contains (.type "AttributeError") = false := by rw [List.contains_cons, hT, F.noAttr] <;> rfl
  have notN : (Value.ref C :: bm).contains (.type "NameError") = false := by rw [List.contains_cons, hT, F.noName] <;> rfl
  refine codeAny_builtinAt F.entry ?_
  unfold Builtin.«BaseException.__new__»
  refine wpAt_bind ?_
  show wpAt _ _ _ (stack >>= _) _ _ _
  refine wpAt_bind (wpAt_stack fun p below => wpAt_of_wpAny ?_)
  wp_walk
  refine wpAt_of_wpAny ?_
  rw [F.owner]
  repeat (first | with_reducible refine wpAny_madeHere_exc F.canon hC ?_ | with_reducible refine wpAny_loadPart_at hC ?_ | (with_reducible refine wpAny_isSubtype_exc hC ?_; first | rw [isB] | rw [notA] | rw [notN]) | wp_step)
  show R _ _
  rw [Heap.size_push]
  exact hq
theorem typeCalled (F : ExcBaseFacts B newId initId tail) (hT : ∀ X : String, bm.contains (.type X) = tail.contains (.type X)) {fI : Addr} {Q : Fin → Shared → Prop}
    (hC : h.get? C = some (excClassObj cn cq C N bs bm hdct sn sub ab col dd k0 k1 k2 k3 k5 newId))
    (hi : W.Looks (model prog w) h (typeLookup (.ref C) "__init__") (some (.ref fI))) (hb : ∀ self, W.Looks (model prog w) h (bindSpecial (.ref fI) self) (.ref fI, [self])) (short : rest.length ≤ sizeLine)
    (hq : codeAny (model prog w) A (.call (.ref fI) ⟨.ref (h.objs.size + 1) :: rest, kw⟩)
      (fun r s' => match r with | .ok (.ret v) => v = .none ∧ Q (.done (.ret (.ref (h.objs.size + 1)))) s' | .ok _ => False | .error e => E e s') ⟨(h.push (W.kdv_tup rest)).push (excO C h.objs.size), g, d, t, os⟩) :
    wpAny (model prog w) A (Builtin.«type.__call__» ⟨.ref C :: rest, kw⟩) Q E ⟨h, g, d, t, os⟩ := by
  repeat (first | with_reducible refine wpAny_loadPart_at hC ?_ | with_reducible refine wpAny_madeBy_exc hC ?_ | wp_step)
  refine codeAny_call_builtin_code (Code.quiet_builtin _ F.quiet) (newChecked F hT hC ?_)
  refine newMade F hT hC ?_ short
  show wpAny _ _ _ _ _ _
  have stays : ∀ b o, h.get? b = some o → ((h.push (W.kdv_tup rest)).push (excO C h.objs.size)).get? b = some o := fun b o e => Heap.get?_push_of_some _ (Heap.get?_push_of_some _ e)
  have classThere := stays _ _ hC
  have newThere : ((h.push (W.kdv_tup rest)).push (excO C h.objs.size)).get? (h.objs.size + 1) = some (excO C h.objs.size) := by heap_get
  have ownClass : (Value.ref C :: bm).contains (.ref C) = true := by simp
  have initLook := hi.keeps stays
  have initBound := (hb (.ref (h.objs.size + 1))).keeps stays
  unfold isInstance
  repeat (first | with_reducible refine wpAny_loadPart_at newThere ?_ | (with_reducible refine wpAny_isSubtype_exc classThere ?_; rw [ownClass]) | wp_step)
  show wpAny _ _ (typeLookup (.ref C) _) _ _ _
  refine initLook.at ?_
  refine wpAny_holding (wpAny_bind (initBound.at ?_))
  refine wpAny_bind (wpAny_call (codeAny_mono hq fun r s' z => ?_))
  rcases r with e | (v | _ | _ | _) <;> first | exact z | exact z.elim | skip
  obtain ⟨rfl, z⟩ := z
  first
    | exact wpAny_pure (wpAny_pure z)
    | (wp_walk; exact z)
theorem typeCallChecked {Q : Unit → Shared → Prop} (hC : h.get? C = some (excClassObj cn cq C N bs bm hdct sn sub ab col dd k0 k1 k2 k3 k5 newId))
    (hq : Q () ⟨h, g, d, t, os⟩) : wpAny M A (checkBuiltinCall "type.__call__" ⟨.ref C :: rest, kw⟩) Q E ⟨h, g, d, t, os⟩ := by
  have isSub := tc_sub
  have isClass : (⟨h, g, d, t, os⟩ : Shared).TypeIs (.ref C) "type" := ⟨_, hC, rfl⟩
  simp only [checkBuiltinCall, tc_kind, tc_split]
  repeat (any_goals (first | assumption | with_reducible refine wpAny_loadPart_at hC ?_ | with_reducible refine wpAny_onRaise ?_ | with_reducible refine wpAny_map ?_ | wp_step))
/-- the class called -/
theorem excCalled (F : ExcBaseFacts B newId initId tail) (hT : ∀ X : String, bm.contains (.type X) = tail.contains (.type X)) {fI : Addr}
    (hC : h.get? C = some (excClassObj cn cq C N bs bm hdct sn sub ab col dd k0 k1 k2 k3 k5 newId))
    (hi : W.Looks (model prog w) h (typeLookup (.ref C) "__init__") (some (.ref fI))) (hb : ∀ self, W.Looks (model prog w) h (bindSpecial (.ref fI) self) (.ref fI, [self])) (short : rest.length ≤ sizeLine)
    (hq : codeAny (model prog w) (A.under (.builtin "type.__call__" ⟨.ref C :: rest, kw⟩)) (.call (.ref fI) ⟨.ref (h.objs.size + 1) :: rest, kw⟩) (W.InitBack (h.objs.size + 1) R) ⟨(h.push (W.kdv_tup rest)).push (excO C h.objs.size), g, d, t, os⟩) :
    codeAny (model prog w) A (.call (.ref C) ⟨rest, kw⟩) R ⟨h, g, d, t, os⟩ := by
  have look := tc_lookup
  have bound := tc_bind (.ref C)
  have isClass : (⟨h, g, d, t, os⟩ : Shared).TypeIs (.ref C) "type" := ⟨_, hC, rfl⟩
  refine codeAny_of_tree ?_
  show wpAny _ _ (callAny (.ref C) _) _ _ _
  repeat (any_goals (first | assumption | with_reducible refine wpAny_loadPart_at hC ?_ | wp_step))
  refine ⟨rfl, ?_⟩
  refine codeAny_call_builtin_at (Code.quiet_builtin _ (by decide +kernel)) entry_typeCall (typeCallChecked hC (typeCalled F hT hC hi hb short ?_))
  refine codeAny_mono hq fun r s' z => ?_
  rcases r with e | (v | _ | _ | _) <;> exact z
end
end LampX
end PySem
set_option Elab.async false
set_option linter.all false
set_option maxRecDepth 100000
set_option maxHeartbeats 4000000
namespace PySem
namespace LampX
open PySem.W Builtin.ObjectAttr
section
variable {prog : Program} {w : World} {A : Around} {s : Shared} {K : Frag} {C : Addr} {B : String} {tail : List Value}
/-- the first field of an exception: its dict is laid -/
theorem firstField {x t : Addr} {name : Str} {tk : Tok} {v : Value} {R : Result → Shared → Prop} (SF : StoreFacts B tail "object.__setattr__" "object") (inK : K.In s.heap) (there : s.heap.get? x = some (excObj C t none .none))
    (over : excOver K C tail = true) (taker : takerIn K C name = some none) (dict : hasDictIn K C = true)
    (hq : ∀ h' tk' dx, (∀ b o, b ≠ x → s.heap.get? b = some o → h'.get? b = some o) → s.heap.objs.size ≤ dx → dx ≠ x → h'.get? x = some (excObj C t (some dx) .none) →
      h'.Ns1 dx (fun y => if y = name then some v else none) → R (.ok (.ret .none)) { s with heap := h', toks := tk' }) :
    codeAny (model prog w) A (.call (.builtin "object.__setattr__") ⟨[.ref x, .str name tk, v], []⟩) R s := by
  have fresh : x ≠ s.heap.objs.size := Nat.ne_of_lt (Heap.lt_size there)
  refine osa_openX (od := none) SF inK ⟨there, rfl, rfl, trivial⟩ over taker fun b => ?_
  obtain ⟨cd, hcd, hdd⟩ := any_some dict
  refine wpAny_bind (wpAny_pure (wpAny_bind (instanceDict_exc there (looks_clsIn inK hcd) hdd ?_)))
  show wpAny _ _ (storeInDict s.heap.objs.size (.str name tk) name v) _ _ _
  have was : (s.heap.push (dictOf [] 0)).get? x = some (excObj C t none .none) := Heap.get?_push_of_some _ there
  refine HandSPX.store_in_new ⟨_, #[], _, (Heap.get?_update_ne _ _ _ _ fresh.symm).trans (Heap.get?_push_at rfl rfl), rfl, fun e he => absurd he (by simp), fun _ => rfl⟩ fun h' tk' named kept => ?_
  refine hq h' tk' s.heap.objs.size (fun b o hb ho => ?_) (Nat.le_refl _) fresh.symm ?_ named
  · exact (kept.2 b (Nat.ne_of_lt (Heap.lt_size ho))).trans ((Heap.get?_update_ne _ _ _ _ hb).trans (Heap.get?_push_of_some _ ho))
  · exact (kept.2 x fresh).trans (Heap.get?_update_self _ was rfl)
end
end LampX
end PySem
namespace Lamp
open PySem PySem.Spec PyProof.Rows L2
/-- what the written part says of an exception class of the program -/
structure EC (K : PySem.W.Frag) (C : Addr) (B newId initId : String) (tail : List Value) : Prop where
  F : ExcBaseFacts B newId initId tail
  S : StoreFacts B tail "object.__setattr__" "object"
  made : PySem.W.excInitIn K C tail newId = true
  over : PySem.W.excOver K C tail = true
  sa : PySem.W.findIn K (.ref C) "__setattr__" = some (some (.builtin "object.__setattr__"))
  ga : PySem.W.findIn K (.ref C) "__getattribute__" = some (some (.builtin "BaseException.__getattribute__"))
  gg : PySem.W.findIn K (.ref C) "__getattr__" = some none
  exC : PySem.W.subIn K (.ref C) (.type "BaseException") = some true
  hd : PySem.W.hasDictIn K C = true
  kp : PySem.W.keepIn K (.ref C) = true
  cls : PySem.W.findIn K (.ref C) "__class__" = some (some (.builtin "object.__class__"))
  obj : PySem.W.mroIn K C (.type "object") = some true
section
variable {X : Cx} {pins : List (Addr × Obj)} {σ : L2.St} {H : Hp} {s : Shared} {a C : Addr} {f : Str} {y : V} {u : Value} {Q : Unit → Shared → Prop} {E : Value → Shared → Prop} {A : Around} {B newId initId : String} {tail : List Value}
theorem store1 (T : EC X.K C B newId initId tail) (I : Inv X pins σ H s) (e : H a = some (exo a C none)) (ht : PySem.W.takerIn X.K C f = some none) (ry : RelV y u)
    (h : ∀ dx s', H dx = none → dx ≠ a → Inv X pins σ (upd (upd H dx (exd dx [(f, y)])) a (exo a C (some dx))) s' → Q () s') : wpAny (model X.prog X.w) A (setAttr (.ref a) f u) Q E s := by
  obtain ⟨t1, there⟩ := exo_at I.hok e
  refine PySem.W.set_plain I.kIn (ox := PySem.W.excObj C t1 none .none) (od := none) ⟨there, rfl, rfl, trivial⟩ T.sa ?_
  refine PySem.LampX.firstField (s := { s with toks := s.toks + 1 }) T.S I.kIn there T.over ht T.hd fun h' tk' dx kept new other now named => ?_
  have free : H dx = none := I.hok.fresh new
  have notNew : ∀ {b : Addr} {o : Obj}, s.heap.get? b = some o → b ≠ dx := fun {b o} q => Nat.ne_of_lt (Nat.lt_of_lt_of_le (Heap.lt_size q) new)
  have notA : ∀ {b : Addr}, H b = none → b ≠ a := fun {b} n z => by rw [z, e] at n; cases n
  have un : Un X.fs [] H (upd (upd H dx (exd dx [(f, y)])) a (exo a C (some dx))) s.heap h' :=
    ⟨fun b o q n _ _ => kept b o (notA n) q, fun b o q n _ _ => ⟨o.slots, kept b o (notA n) q⟩, fun b o q n _ => by rw [upd_ne (notA n), upd_ne (notNew q)]; exact n,
      fun b o q _ => by
        by_cases hb : b = a
        · subst hb; exact ⟨_, now⟩
        · exact ⟨o, kept b o hb q⟩,
      fun b xs q => by rw [upd_ne (at_ne e q exo_tup), upd_ne (ne_of_none q free)]; exact q,
      fun b o v q => by rw [upd_ne (at_ne e q exo_frz), upd_ne (ne_of_none q free)]; exact q,
      fun b ps q => ⟨#[], by rw [upd_ne (at_ne e q exo_tbl), upd_ne (ne_of_none q free), q]; simp⟩⟩
  refine h dx _ free other (I.un (t' := tk') un fun b o q => ?_)
  by_cases hb : b = a
  · subst hb
    rw [upd_same] at q
    cases q
    exact exo_ok now
  · rw [upd_ne hb] at q
    by_cases hbd : b = dx
    · subst hbd
      rw [upd_same] at q
      cases q
      exact exd_ok named (relO_put (fs := []) ry fun g => True.intro)
    · rw [upd_ne hbd] at q
      refine (I.hok b o q).stay (fun c v hc z => kept c v ?_ z) (fun c hc => ?_) fun c xs hc => ?_
      · rcases hc with rfl | hc
        · exact hb
        · exact at_ne e hc exo_own
      · rw [upd_ne (at_ne e hc exo_own), upd_ne (ne_of_none hc free)]; exact hc
      · rw [upd_ne (at_ne e hc exo_tup), upd_ne (ne_of_none hc free)]; exact hc
end
/-- self.f = e in an exception's __init__ -/
def tStore1 (K : PySem.W.Frag) (f : Str) (to te : TE) : TS := fun D σ H => te σ H fun y H1 => to σ H1 fun x H2 => ∃ (a C : Addr), x = .ref a ∧ (∃ (B newId initId : String) (tail : List Value), EC K C B newId initId tail) ∧ PySem.W.takerIn K C f = some none ∧
  H2 a = some (exo a C none) ∧ ∀ dx, H2 dx = none → dx ≠ a → D.nx σ (upd (upd H2 dx (exd dx [(f, y)])) a (exo a C (some dx)))
theorem ps_store1 {X : Cx} {o e : Expr} {to te : TE} {f : Str} {p pos : Pos} (ho : PE X o to) (he : PE X e te) (hs : swapsWith e (some (.Attribute o f p)) pos.line X.env = pure false := by rfl) : PS X (.Assign [.Attribute o f p] e pos) (tStore1 X.K f to te) := by
  refine ⟨fun pins s σ H D I h => plainObj_wpAny_Assign_Attribute (thn (he.run pins s σ H _ I h) fun v s1 ⟨y, H1, I1, r1, q1⟩ => thn (ho.run pins s1 σ H1 _ I1 q1) fun u s2 ⟨x, H2, I2, r2, told⟩ => ?_) hs⟩
  obtain ⟨a, C, ex, ⟨B, newId, initId, tail, T⟩, ht, ea, q⟩ := told
  subst ex
  have eu : u = Value.ref a := r2
  subst eu
  exact store1 T I2 ea ht r1 fun dx s' n ne J => ⟨σ, _, J, q dx n ne⟩
end Lamp
set_option Elab.async false
set_option linter.all false
set_option maxRecDepth 100000
set_option maxHeartbeats 4000000
namespace Lamp
open PySem PySem.Spec PyProof.Rows L2
/-- the promise of an __init__ that keeps its one argument under f -/
def spInit (K : PySem.W.Frag) (C : Addr) (f : Str) : Sp := fun vs H Q _ => ∃ (a : Addr) (y : V), vs = [.ref a, y] ∧ (∃ (B newId initId : String) (tail : List Value), EC K C B newId initId tail) ∧ PySem.W.takerIn K C f = some none ∧ H a = some (exo a C none) ∧
  ∀ dx, H dx = none → dx ≠ a → Q .non (upd (upd H dx (exd dx [(f, y)])) a (exo a C (some dx)))
section
variable {P : Program} {w : World} {K : PySem.W.Frag} {mg : Str → Option Value} {base : Heap}
theorem ok_init {fI C : Addr} {fd : FuncData} {st : Stmt} {qual f : Str} {p1 p2 p3 p4 : Pos} (F : Fun K "__init__" qual st fI fd) (S : FnScope ["self", f] ["self", f] (defScope st))
    (hb : defBody st = [.Assign [.Attribute (.Name "self" p1) f p2] (.Name f p3) p4]) (v0 : (defScope st).names.lookup ("self" : Str) = some NameKind.local) (v1 : (defScope st).names.lookup f = some NameKind.local)
    (d1 : (f == ("__debug__" : Str)) = false) (d2 : (f == ("__classdict__" : Str)) = false) : FnOk P w K mg base CX0 1 fI fd ["self", f] (spInit K C f) := by
  refine F.ok S (fun vs H Q E h => ?_) (fun cdv A outer s H vs Q E hr h => ?_)
  · obtain ⟨a, y, rfl, _⟩ := h
    rfl
  · obtain ⟨a, y, rfl, T, ht, ha, q⟩ := h
    rw [hb]
    refine ⟨_, pss_one (ps_store1 (pv 0 rfl (Or.inl v0)) (pv 1 rfl (Or.inl v1) d1 d2)), ?_⟩
    exact ⟨_, rfl, _, rfl, a, C, rfl, T, ht, ha, q⟩
end
/-- C(e), C(f=e): a new exception with the field f -/
def tMkE (C : Addr) (f : Str) (ta : TE) : TE := fun σ H Q => ta σ H fun y H1 => ∀ a dx, H1 a = none → H1 dx = none → dx ≠ a → Q (.ref a) (upd (upd (upd H1 a (exo a C none)) dx (exd dx [(f, y)])) a (exo a C (some dx)))
section
variable {X : Cx} {C fI : Addr} {fd : FuncData} {f x : Str} {B newId initId : String} {tail : List Value} {p pos kpos : Pos} {e : Expr} {ta : TE}
theorem run_mkE {pins : List (Addr × Obj)} {σ : L2.St} {H : Hp} {s : Shared} {Q : VK} {u : Value} {y : V} {us : List Value} {kw : List (Str × Value)} {k : Nat} (T : EC X.K C B newId initId tail) (iC : PySem.W.findIn X.K (.ref C) "__init__" = some (some (.ref fI))) (tI : PySem.W.typeIn X.K (.ref fI) = some (.type "function"))
    (ht : PySem.W.takerIn X.K C f = some none) (F1 : FnOk X.prog X.w X.K X.mg X.base CX0 k fI fd ["self", f] (spInit X.K C f)) (hr : Room (k + 1) X.A)
    (hb : ∀ (s : Shared) (v : Value), X.K.In s.heap → BindsTo s fd ⟨v :: us, kw⟩ [("self", v), (f, u)]) (I : Inv X pins σ H s) (r : RelV y u) (short : us.length ≤ sizeLine)
    (h : ∀ a dx, H a = none → H dx = none → dx ≠ a → Q (.ref a) (upd (upd (upd H a (exo a C none)) dx (exd dx [(f, y)])) a (exo a C (some dx)))) :
    wpAny (model X.prog X.w) X.A (call (.ref C) us kw) (EP X pins σ Q) X.xe s := by
  obtain ⟨nm, N, qn, bs, bm, hdct, sn, sub, ab, col, dd, k0, k1, k2, k3, k5, hC, hT⟩ := PySem.W.excInit_of I.kIn T.made
  obtain ⟨hp, g, dr, tk, os⟩ := s
  have above : hp.objs.size ≤ hp.objs.size + 1 := Nat.le_succ _
  have new : H (hp.objs.size + 1) = none := I.hok.fresh above
  have kept : ∀ b o, hp.get? b = some o → ((hp.push (PySem.W.kdv_tup us)).push (PySem.HandSPX.excO C hp.objs.size)).get? b = some o := fun b o e => Heap.get?_push_of_some _ (Heap.get?_push_of_some _ e)
  have there : ((hp.push (PySem.W.kdv_tup us)).push (PySem.HandSPX.excO C hp.objs.size)).get? (hp.objs.size + 1) = some (PySem.HandSPX.excO C hp.objs.size) := by heap_get
  have I2 : Inv X pins σ (upd H (hp.objs.size + 1) (exo (hp.objs.size + 1) C none)) ⟨(hp.push (PySem.W.kdv_tup us)).push (PySem.HandSPX.excO C hp.objs.size), g, dr, tk, os⟩ :=
    I.laid (t' := tk) (a := hp.objs.size + 1) (o := exo (hp.objs.size + 1) C none) (h' := (hp.push (PySem.W.kdv_tup us)).push (PySem.HandSPX.excO C hp.objs.size)) kept above (exo_ok there)
  have asked : spInit X.K C f [.ref (hp.objs.size + 1), y] (upd H (hp.objs.size + 1) (exo (hp.objs.size + 1) C none)) (fun v H2 => v = .non ∧ Q (.ref (hp.objs.size + 1)) H2) E0 :=
    ⟨_, y, rfl, ⟨B, newId, initId, tail, T⟩, ht, upd_same, fun dx hn ne => ⟨rfl, h _ dx new (by rw [upd_ne ne] at hn; exact hn) ne⟩⟩
  refine wpAny_call (PySem.LampX.excCalled T.F hT hC (PySem.W.looks_findIn I.kIn iC) (fun self => PySem.W.bind_fn I.kIn self tI) short
    (codeAny_mono (F1.run _ X.stack _ _ ⟨Value.ref (hp.objs.size + 1) :: us, kw⟩ [Value.ref (hp.objs.size + 1), u] _ _ E0 ?rm ?ev (hb _ _ I2.kIn) (.cons (show RelV (V.ref _) (Value.ref _) from rfl) (.cons r .nil)) asked) fun res s' told => ?_))
  case rm => exact hr.make C us kw
  case ev => exact I2.env0.make C us kw
  match res, told with
  | .error _, told => exact False.elim told
  | .ok .next, told => exact False.elim told
  | .ok .brk, told => exact False.elim told
  | .ok .cont, told => exact False.elim told
  | .ok (.ret v), told =>
    obtain ⟨z, H', I3, rv, ez, q3⟩ := I2.after told
    subst ez
    exact ⟨rv, ⟨V.ref (hp.objs.size + 1), H', I3, rfl, q3⟩⟩
theorem pe_mkE {k : Nat} (T : EC X.K C B newId initId tail) (iC : PySem.W.findIn X.K (.ref C) "__init__" = some (some (.ref fI))) (tI : PySem.W.typeIn X.K (.ref fI) = some (.type "function")) (ht : PySem.W.takerIn X.K C f = some none)
    (F1 : FnOk X.prog X.w X.K X.mg X.base CX0 k fI fd ["self", f] (spInit X.K C f)) (hr : Room (k + 1) X.A) (hb : ∀ (s : Shared) (v u : Value), X.K.In s.heap → BindsTo s fd ⟨[v, u], []⟩ [("self", v), (f, u)]) (hg : Gl X x) (hm : X.mg x = some (.ref C))
    (ha : PE X e ta) (hs : starEach [e] X.env = (false, eval e X.env) :: starEach [] X.env := by rfl) (hdb : (x == ("__debug__" : Str)) = false := by decide) : PE X (.Call (.Name x p) [e] [] pos) (tMkE C f ta) := by
  refine ⟨fun pins s σ H Q I h => wpAny_Call_Name_kw (ld_glob I hg hm (PySem.W.callWith_K (h₀ := X.base) I.ok.mod.kin T.kp ?_ hs (by rfl)) hdb)⟩
  rw [hs]
  show wpAny _ _ (spliced ((false, eval e X.env) :: backTo pos (starEach [] X.env))) _ _ s
  refine Calls.spliced_cons (thn (ha.run pins s σ H _ I h) fun u s1 ⟨y, H1, I1, r1, q1⟩ => Calls.spliced_nil ⟨I1.kIn, ?_⟩)
  exact run_mkE (us := [u]) (kw := []) T iC tI ht F1 hr (fun s v hk => hb s v u hk) I1 r1 (by show 1 ≤ sizeLine; decide) q1
/-- the same with keywords: their values, one -/
def tMkK (C : Addr) (f : Str) (tk : TA) : TE := fun σ H Q => tk σ H fun zs H1 => ∃ y, zs = [y] ∧ ∀ a dx, H1 a = none → H1 dx = none → dx ≠ a → Q (.ref a) (upd (upd (upd H1 a (exo a C none)) dx (exd dx [(f, y)])) a (exo a C (some dx)))
theorem pe_mkK {k : Nat} {kws : List Keyword} {tk : TA} (T : EC X.K C B newId initId tail) (iC : PySem.W.findIn X.K (.ref C) "__init__" = some (some (.ref fI))) (tI : PySem.W.typeIn X.K (.ref fI) = some (.type "function")) (ht : PySem.W.takerIn X.K C f = some none)
    (F1 : FnOk X.prog X.w X.K X.mg X.base CX0 k fI fd ["self", f] (spInit X.K C f)) (hr : Room (k + 1) X.A) (hb : ∀ (s : Shared) (v u : Value), X.K.In s.heap → BindsTo s fd ⟨[v], [(f, u)]⟩ [("self", v), (f, u)]) (hg : Gl X x) (hm : X.mg x = some (.ref C))
    (hkw : PK X kws tk) (hall : (backToKw pos (keywordEach kws X.env)).all (·.1.isSome) = true := by rfl) (hks : (backToKw pos (keywordEach kws X.env)).filterMap (·.1) = [f] := by rfl) (hdb : (x == ("__debug__" : Str)) = false := by decide)
    (hpl : ((backTo pos (starEach [] X.env)).any (·.1) || (backToKw pos (keywordEach kws X.env)).any (·.1.isNone)) = false := by rfl) : PE X (.Call (.Name x p) [] kws pos) (tMkK C f tk) := by
  refine ⟨fun pins s σ H Q I h => ?_⟩
  refine wpAny_Call_Name_kw (ld_glob I hg hm ?_ hdb)
  refine PySem.W.callWith_KW0 (h₀ := X.base) I.ok.mod.kin T.kp hall (thn (hkw.run pos pins s σ H _ I h) fun ws s2 told => ?_) hpl
  obtain ⟨zs, H2, I2, rz, y, ez, q2⟩ := told
  subst ez
  rw [hks]
  cases rz with
  | @cons _ u _ us r rest =>
    cases rest
    exact ⟨I2.kIn, run_mkE (us := []) (kw := [(f, u)]) T iC tI ht F1 hr (fun s v hk => hb s v u hk) I2 r (Nat.zero_le _) q2⟩
end
/-- C() where the program gives no __init__: a new exception -/
theorem pe_mk0 {X : Cx} {C : Addr} {x : Str} {B newId initId : String} {tail : List Value} {p pos : Pos} (F : ExcBaseFacts B newId initId tail) (q : PySem.W.excIn X.K C tail newId = true) (gC : X.mg x = some (.ref C)) (kC : PySem.W.keepIn X.K (.ref C) = true) (hg : Gl X x)
    (hdb : (x == ("__debug__" : Str)) = false := by decide) : PE X (.Call (.Name x p) [] [] pos) (fun _ H Q => ∀ a, H a = none → Q (.ref a) (upd H a (exo a C none))) := by
  refine ⟨fun pins s σ H Q I h => wpAny_Call_Name_kw (ld_glob I hg gC (PySem.W.callWith_K0 I.kIn kC ?_) hdb)⟩
  show wpAny _ _ (call (.ref C) []) _ _ _
  obtain ⟨bm, N, nm, qn, bs, hdct, sn, sub, ab, col, dd, k0, k1, k2, k3, k5, mN, hC, hN, hni, T⟩ := exc_obj I.kIn q
  obtain ⟨hp, g, dr, tk, os⟩ := s
  refine wpAny_call_exc_subT F T hC hN hni (fun h' a hm => ?_) (by show 0 ≤ sizeLine; exact Nat.zero_le _)
  have new : H a = none := I.hok.gone hm.new
  obtain ⟨t, there, _, _⟩ := hm.there
  exact ⟨.ref a, upd H a (exo a C none), I.laidN (t' := tk) hm.keeps hm.new new (exo_ok there), rfl, h a new⟩
end Lamp
set_option Elab.async false
set_option linter.all false
set_option maxRecDepth 100000
set_option maxHeartbeats 1000000
namespace Lamp
open PySem PySem.Spec PyProof.Rows L2
/-- an exception of the class at C stands at a -/
def XAt (H : Hp) (a C : Addr) : Prop := H a = some (exo a C none) ∨ ∃ dx fs, H a = some (exo a C (some dx)) ∧ H dx = some (exd dx fs)
/-- .. with its fields -/
def XFld (H : Hp) (a C : Addr) (f : Str) (y : V) : Prop := ∃ dx, H a = some (exo a C (some dx)) ∧ H dx = some (exd dx [(f, y)])
theorem XFld.at {H : Hp} {a C : Addr} {f : Str} {y : V} (h : XFld H a C f y) : XAt H a C := by
  obtain ⟨dx, h1, h2⟩ := h
  exact .inr ⟨dx, _, h1, h2⟩
theorem XFld.same {H H' : Hp} {a C : Addr} {f : Str} {y : V} (h : XFld H a C f y) (s : Same H H') : XFld H' a C f y := by
  obtain ⟨dx, h1, h2⟩ := h
  exact ⟨dx, s _ _ h1, s _ _ h2⟩
theorem XAt.same {H H' : Hp} {a C : Addr} (h : XAt H a C) (s : Same H H') : XAt H' a C := by
  rcases h with h | ⟨dx, fs, h1, h2⟩
  · exact .inl (s _ _ h)
  · exact .inr ⟨dx, fs, s _ _ h1, s _ _ h2⟩
theorem xat_inst {X : Cx} {pins : List (Addr × Obj)} {σ : L2.St} {H : Hp} {s : Shared} {a C : Addr} (I : Inv X pins σ H s) (h : XAt H a C) : ∃ ox od, PySem.W.InstAt s.heap a ox C od := by
  rcases h with h | ⟨dx, fs, h1, h2⟩
  · obtain ⟨t, there⟩ := exo_at I.hok h
    exact ⟨_, none, there, rfl, rfl, trivial⟩
  · obtain ⟨t, there⟩ := exo_at I.hok h1
    obtain ⟨mA, ⟨o, _, _, ho, _⟩, _⟩ := exd_at I.hok h2
    exact ⟨_, some o, there, rfl, rfl, ho⟩
/-- what is asked of object's own __class__ -/
structure ClsG (K : PySem.W.Frag) : Prop where
  get : PySem.W.specialIn K (.builtin "object.__class__") "__get__" = some (some (.builtin "getset_descriptor.__get__"))
  tak : PySem.W.takesIn K (.builtin "object.__class__") = some true
/-- isinstance(e, c), e an exception of the program -/
def rIsX (K : PySem.W.Frag) : List V → Hp → VK → Prop := fun xs H Q => ∃ (a C : Addr) (c : V) (u : Value) (b : Bool), xs = [.ref a, c] ∧ XAt H a C ∧ (∃ (B newId initId : String) (tail : List Value), EC K C B newId initId tail) ∧ ClsV c u ∧ PySem.W.kitOne K (.ref C) u = some b ∧ Q (.bl b) H
theorem call_isX {X : Cx} (G : ClsG X.K) : CallR X (.builtin "isinstance") (rIsX X.K) := by
  intro pins s σ H xs us Q I r h
  obtain ⟨a, C, c, cv, b, rfl, hx, ⟨B, newId, initId, tail, T⟩, hc, hk, q⟩ := h
  obtain ⟨u1, u2, rfl, r1, r2⟩ := vals2 r
  have e1 : u1 = Value.ref a := r1
  subst e1
  have e2 := hc.eq r2
  subst e2
  obtain ⟨ox, od, J⟩ := xat_inst I hx
  have isCls : (PySem.W.clsIn X.K C).isSome = true := by
    obtain ⟨cd, hcd, _⟩ := PySem.W.any_some T.hd
    rw [hcd]
    rfl
  exact PySem.W.kia_one (PySem.W.kitx_exc isCls T.ga T.gg T.exC T.cls G.get G.tak T.obj) I.kIn J hk (fun z => nomatch z) fun tk => ⟨.bl b, H, I.tok tk, rfl, q⟩
/-- e.f -/
def tXFld (K : PySem.W.Frag) (f : Str) (te : TE) : TE := fun σ H Q => te σ H fun x H1 => ∃ (a C : Addr) (y : V), x = .ref a ∧ XFld H1 a C f y ∧ (∃ (B newId initId : String) (tail : List Value), EC K C B newId initId tail) ∧ PySem.W.findIn K (.ref C) f = some none ∧ Q y H1
theorem pe_xfld {X : Cx} {e : Expr} {te : TE} {pos : Pos} {f : Str} (he : PE X e te) (hb : attributeBase e f X.env (eval e X.env) = eval e X.env := by rfl) : PE X (.Attribute e f pos) (tXFld X.K f te) := by
  refine ⟨fun pins s σ H Q I h => attr_of hb (thn (he.run pins s σ H _ I h) fun u s1 ⟨x, H1, I1, r1, told⟩ => ?_)⟩
  obtain ⟨a, C, y, ex, ⟨dx, h1, h2⟩, ⟨B, newId, initId, tail, T⟩, hno, q⟩ := told
  subst ex
  have eu : u = Value.ref a := r1
  subst eu
  obtain ⟨t, there⟩ := exo_at I1.hok h1
  obtain ⟨mA, named, rel⟩ := exd_at I1.hok h2
  obtain ⟨od, hod, look⟩ := lookIn_ns named
  have rf := rel f
  rw [lookup_put, if_pos rfl] at rf
  obtain ⟨v, hv, rv⟩ := RelO.some_of (v := y) (o := mA f) rf
  have J : PySem.W.InstAt s1.heap a _ C (some od) := ⟨there, rfl, rfl, hod⟩
  exact HandSPX.exc_get I1.kIn J T.ga T.gg T.exC (PySem.W.findObj_own T.hd hno rfl (by rw [look, hv])) (handed_of rv) ⟨y, H1, I1.tok _, rv, q⟩
end Lamp
set_option Elab.async false
set_option linter.all false
set_option maxRecDepth 100000
set_option maxHeartbeats 1000000
namespace Lamp
open PySem PySem.Spec PyProof.Rows L2
theorem same_of {q : Addr} {H : Hp} {o : HO} (h : H q = none) : Same H (upd H q o) := fun b u e => by rw [upd_ne (ne_of_none e h)]; exact e
theorem same_seqT {K : PySem.W.Frag} {H H' : Hp} {a : Addr} {xs : List V} (e : Same H H') (h : SqT K H a xs) : SqT K H' a xs := by
  rcases h with (h | ⟨o, h⟩) | h
  · exact .inl (.inl (e _ _ h))
  · exact .inl (.inr ⟨o, e _ _ h⟩)
  · exact .inr h
mutual
theorem dp_same {K : PySem.W.Frag} {H H' : Hp} (e : Same H H') : ∀ (d : PyData) (v : V), Dp K H v d → Dp K H' v d
  | .none, _, h => by cases h; exact .non
  | .bool _, _, h => by cases h; exact .bl _
  | .int _, _, h => by cases h; exact .int _
  | .str _, _, h => by cases h; exact .str _
  | .list ds, _, h => by
    cases h with
    | lst hs ha => exact .lst (e.seq hs) (dpAll_same e ds _ ha)
  | .tuple ds, _, h => by
    cases h with
    | tup hs ha => exact .tup (same_seqT e hs) (dpAll_same e ds _ ha)
  | .dict _, _, h => by cases h
theorem dpAll_same {K : PySem.W.Frag} {H H' : Hp} (e : Same H H') : ∀ (ds : List PyData) (vs : List V), DpAll K H vs ds → DpAll K H' vs ds
  | [], _, h => by cases h; exact .nil
  | d :: ds, _, h => by
    cases h with
    | cons h1 h2 => exact .cons (dp_same e d _ h1) (dpAll_same e ds _ h2)
end
theorem dq_same {K : PySem.W.Frag} {H H' : Hp} (e : Same H H') {d : PyData} {v : V} (h : Dq K H v d) : Dq K H' v d := by
  cases h with
  | plain h => exact .plain (dp_same e d v h)
  | dict h1 h2 => exact .dict (e _ _ h1) h2
theorem dpAll_len {K : PySem.W.Frag} {H : Hp} : ∀ {ds : List PyData} {vs : List V}, DpAll K H vs ds → vs.length = ds.length
  | [], _, h => by cases h; rfl
  | d :: ds, _, h => by
    cases h with
    | cons h1 h2 => rw [List.length_cons, List.length_cons, dpAll_len h2]
/-! the drawing list, and all else -/
/-- at p: the drawing list of a case -/
def Pail (H : Hp) (p : Addr) : Prop := ∃ x y z : Int, H p = some (.lst [.int x, .int y, .int z]) ∧ 0 ≤ x ∧ 0 ≤ y ∧ y < 2147483648
/-- all but p stands as it stood -/
def But (p : Addr) (H H' : Hp) : Prop := ∀ b o, b ≠ p → H b = some o → H' b = some o
theorem But.refl (p : Addr) (H : Hp) : But p H H := fun _ _ _ h => h
theorem But.trans {p : Addr} {H H1 H2 : Hp} (a : But p H H1) (b : But p H1 H2) : But p H H2 := fun c o n h => b c o n (a c o n h)
theorem But.of {p : Addr} {H H1 : Hp} (a : Same H H1) : But p H H1 := fun b o _ h => a b o h
theorem But.at {p : Addr} {H : Hp} {o : HO} : But p H (upd H p o) := fun b u n h => by rw [upd_ne n]; exact h
theorem But.new {p q : Addr} {H : Hp} {o : HO} (h : H q = none) : But p H (upd H q o) := fun b u _ e => by
  rw [upd_ne (ne_of_none e h)]
  exact e
theorem Pail.same {H H' : Hp} {p : Addr} (h : Pail H p) (s : Same H H') : Pail H' p := by
  obtain ⟨x, y, z, e, r⟩ := h
  exact ⟨x, y, z, s _ _ e, r⟩
theorem Pail.ne {H : Hp} {p q : Addr} (h : Pail H p) (e : H q = none) : q ≠ p := by
  obtain ⟨x, y, z, hp, _⟩ := h
  intro z
  rw [z, hp] at e
  cases e
theorem But.del {p : Addr} {H H' : Hp} (b : But p H H') : Same (delH H p) (delH H' p) := fun a o h => by
  by_cases e : a = p
  · rw [e, delH_same] at h; cases h
  · rw [delH_ne e] at h ⊢
    exact b a o e h
theorem del_sub {p : Addr} {H : Hp} : Same (delH H p) H := fun a o h => by
  by_cases e : a = p
  · rw [e, delH_same] at h; cases h
  · rw [delH_ne e] at h
    exact h
/-! data made, beside the drawing list at p -/
section
variable (K : PySem.W.Frag) (p : Addr)
def EvP (te : TE) (d : PyData) : Prop := ∀ (σ : L2.St) (H : Hp), Pail H p → ∀ Q : VK, (∀ v H', Same H H' → Dp K (delH H' p) v d → Q v H') → te σ H Q
def EvPs (ta : TA) (ds : List PyData) : Prop := ∀ (σ : L2.St) (H : Hp), Pail H p → ∀ Q : List V → Hp → Prop, (∀ vs H', Same H H' → DpAll K (delH H' p) vs ds → Q vs H') → ta σ H Q
def EvQ (te : TE) (d : PyData) : Prop := ∀ (σ : L2.St) (H : Hp), Pail H p → ∀ Q : VK, (∀ v H', Same H H' → Dq K (delH H' p) v d → Q v H') → te σ H Q
def EvQs (ta : TA) (ds : List PyData) : Prop := ∀ (σ : L2.St) (H : Hp), Pail H p → ∀ Q : List V → Hp → Prop, (∀ vs H', Same H H' → Paired (Dq K (delH H' p)) vs ds → Q vs H') → ta σ H Q
end
section
variable {K : PySem.W.Frag} {p : Addr} {te : TE} {ta : TA} {d : PyData} {ds : List PyData}
theorem evp_non : EvP K p (tC .non) .none := fun σ H _ Q q => q _ H (Same.refl H) .non
theorem evp_bl {b : Bool} : EvP K p (tC (.bl b)) (.bool b) := fun σ H _ Q q => q _ H (Same.refl H) (.bl b)
theorem evp_int {i : Int} : EvP K p (tC (.int i)) (.int i) := fun σ H _ Q q => q _ H (Same.refl H) (.int i)
theorem evp_str {x : Str} : EvP K p (tC (.str x)) (.str x) := fun σ H _ Q q => q _ H (Same.refl H) (.str x)
theorem evp_neg {i : Int} (h : EvP K p te (.int i)) : EvP K p (tUn (rU fun i => .int (-i)) te) (.int (-i)) := fun σ H hp Q q => h σ H hp _ fun v H' s hd => by
  cases hd
  exact ⟨i, rfl, q _ H' s (.int _)⟩
theorem evp_pow {i j : Int} (hc : CPow i j) : EvP K p (tOp (rI CPow fun i j => .int (i ^ j.toNat)) (tC (.int i)) (tC (.int j))) (.int (i ^ j.toNat)) := fun σ H hp Q q => ⟨i, j, rfl, rfl, hc, q _ H (Same.refl H) (.int _)⟩
theorem evps_nil : EvPs K p tNil [] := fun σ H _ Q q => q _ H (Same.refl H) .nil
theorem evps_cons (h1 : EvP K p te d) (h2 : EvPs K p ta ds) : EvPs K p (tCons te ta) (d :: ds) := fun σ H hp Q q => h1 σ H hp _ fun v H1 s1 d1 => h2 σ H1 (hp.same s1) _ fun vs H2 s2 d2 =>
  q _ H2 (s1.trans s2) (.cons (dp_same (But.of s2).del d v d1) d2)
theorem evp_tup (h : EvPs K p ta ds) (hl : ds.length ≤ 100) : EvP K p (tTup ta) (.tuple ds) := fun σ H hp Q q => h σ H hp _ fun vs H1 s1 d1 => by
  have hlen := dpAll_len d1
  refine ⟨Nat.le_of_lt (small1000 (by omega)), fun r hr => ?_⟩
  have ne := (hp.same s1).ne hr
  have s2 : Same H1 (upd H1 r (.tup vs)) := same_of hr
  exact q _ _ (s1.trans s2) (.tup (.inl (.inl (by rw [delH_ne ne, upd_same]))) (dpAll_same (But.of s2).del ds vs d1))
theorem evp_lst (h : EvPs K p ta ds) (hl : ds.length ≤ 100) : EvP K p (tLst ta) (.list ds) := fun σ H hp Q q => h σ H hp _ fun vs H1 s1 d1 => by
  have hlen := dpAll_len d1
  refine ⟨Nat.le_of_lt (small1000 (by omega)), fun r hr => ?_⟩
  have ne := (hp.same s1).ne hr
  have s2 : Same H1 (upd H1 r (.lst vs)) := same_of hr
  exact q _ _ (s1.trans s2) (.lst (.inl (.inl (by rw [delH_ne ne, upd_same]))) (dpAll_same (But.of s2).del ds vs d1))
theorem evq_of (h : EvP K p te d) : EvQ K p te d := fun σ H hp Q q => h σ H hp Q fun v H' s hd => q v H' s (.plain hd)
theorem evq_d0 : EvQ K p tDNewK (.dict []) := fun σ H hp Q q r hr => q _ _ (same_of hr) (.dict (kvs := []) (by rw [delH_ne (hp.ne hr), upd_same]) rfl)
theorem evq_d1 {k : Str} {i : Int} : EvQ K p (tDisp [(tC (.str k), tC (.int i))]) (.dict [(.str k, .int i)]) := fun σ H hp Q q r hr => by
  refine ⟨upd_same, [(Sum.inr k, V.int i)], rfl, (by show 1 ≤ 15; decide), q _ _ (fun b o e => ?_) (.dict (kvs := [(Sum.inr k, V.int i)]) ?_ rfl)⟩
  · rw [upd_ne (ne_of_none e hr), upd_ne (ne_of_none e hr)]; exact e
  · rw [delH_ne (hp.ne hr), upd_same]
    rfl
theorem evqs_nil : EvQs K p tNil [] := fun σ H _ Q q => q _ H (Same.refl H) .nil
theorem paired_same {H H' : Hp} (e : Same H H') {vs : List V} {ds : List PyData} (h : Paired (Dq K H) vs ds) : Paired (Dq K H') vs ds := L2.Paired.mapP h fun _ _ x => dq_same e x
theorem evqs_cons (h1 : EvQ K p te d) (h2 : EvQs K p ta ds) : EvQs K p (tCons te ta) (d :: ds) := fun σ H hp Q q => h1 σ H hp _ fun v H1 s1 d1 => h2 σ H1 (hp.same s1) _ fun vs H2 s2 d2 =>
  q _ H2 (s1.trans s2) (.cons (dq_same (But.of s2).del d1) d2)
theorem paired_app {α β : Type} {R : α → β → Prop} : ∀ {xs ys : List α} {us ws : List β}, Paired R xs us → Paired R ys ws → Paired R (xs ++ ys) (us ++ ws)
  | _, _, _, _, .nil, s => s
  | _, _, _, _, .cons r t, s => .cons r (paired_app t s)
theorem paired_mem {α β : Type} {R : α → β → Prop} : ∀ {xs : List α} {us : List β} {x : α}, Paired R xs us → x ∈ xs → ∃ u, u ∈ us ∧ R x u
  | _, _, _, .nil, h => by cases h
  | _, _, _, .cons r t, h => by
    rcases List.mem_cons.mp h with e | e
    · subst e; exact ⟨_, List.mem_cons_self .., r⟩
    · obtain ⟨u, h1, h2⟩ := paired_mem t e
      exact ⟨u, List.mem_cons_of_mem _ h1, h2⟩
end
/-- what repr shows of it fits -/
def okD (d : PyData) : Bool := d.showable && decide (d.depth ≤ 60) && decide (d.shown.length ≤ sizeLine)
theorem okD_of {d : PyData} (h : okD d = true) : d.showable = true ∧ d.depth ≤ 60 ∧ d.shown.length ≤ sizeLine := by
  unfold okD at h
  simp only [Bool.and_eq_true, decide_eq_true_eq] at h
  exact ⟨h.1.1, h.1.2, h.2⟩
end Lamp
set_option Elab.async false
set_option linter.all false
set_option maxRecDepth 100000
namespace Lamp
open PySem PySem.Spec PyProof.Rows L2
def top (i : Nat) : Stmt := PySem.Challenge.pw_lamprounds_k01_limits_and_errors.main.body.getD i (.Pass ⟨0, 0, 0, 0⟩)
abbrev sBegun : Stmt := top 35
abbrev sCast : Stmt := top 36
abbrev sAny : Stmt := top 37

def spBegun (K : PySem.W.Frag) : Sp := fun vs H Q _ => ∃ (a : Addr) (ns : List Int) (t : Int), vs = [.ref a, .int t] ∧ SqL K H a (ns.map V.int) ∧ ns.length ≤ 63 ∧ (∀ z ∈ ns, Builtin.Int.intBits z ≤ 1048576) ∧ 0 ≤ t ∧ t ≤ 100 ∧
  ∀ H' p, Same H H' → H p = none → Pail H' p → Q (.ref p) H'
def spCast : Sp := fun vs H Q _ => ∃ (p : Addr) (m : Int), vs = [.ref p, .int m] ∧ 0 < m ∧ m < 1073741824 ∧ Pail H p ∧ ∀ (r : Int) H', 0 ≤ r → r < m → Pail H' p → But p H H' → Q (.int r) H'

theorem ints_at {ns : List Int} {i : Nat} {y : V} (h : (ns.map V.int)[i]? = some y) : ∃ z, ns[i]? = some z ∧ y = .int z := by
  rw [List.getElem?_map] at h
  cases e : ns[i]? with
  | none => rw [e] at h; cases h
  | some z => rw [e] at h; exact ⟨z, rfl, (Option.some.inj h).symm⟩

theorem cut_ints (ns : List Int) (lo hi : Option Int) : ∃ ms : List Int, cutV (ns.map V.int) lo hi = ms.map V.int := by
  unfold cutV
  exact ⟨_, by rw [← List.map_drop, ← List.map_take]⟩
/-! reading a term without allocation -/
section
variable {σ : L2.St} {H : Hp} {K : PySem.W.Frag} {ta tb : TE} {i j : Int} {x y z : V}
theorem lv_I0 {g : Int → Int → V} : ∀ Q : VK, Q (g i j) H → rI0 g (.int i) (.int j) H Q := fun _ q => ⟨i, j, rfl, rfl, q⟩
theorem lv_I {C : Int → Int → Prop} {g : Int → Int → V} (h : C i j) : ∀ Q : VK, Q (g i j) H → rI C g (.int i) (.int j) H Q := fun _ q => ⟨i, j, rfl, rfl, h, q⟩
theorem lv_ix {p : Addr} {xs : List V} (h : H p = some (.lst xs)) (e : atI xs i = some z) : ∀ Q : VK, Q z H → rIxL K (.ref p) (.int i) H Q := fun _ q => ⟨p, xs, i, z, rfl, rfl, SqL.of h, e, q⟩
theorem lv_int (h : Val ta σ H (.int i)) : Val (tCB (fun xs H Q => (∃ i, xs = [.int i] ∧ Q (.int i) H) ∨ ∃ k, xs = [.bl k] ∧ Q (.int (if k then 1 else 0)) H) (tCons ta tNil)) σ H (.int i) := fun Q q => h _ (Or.inl ⟨i, rfl, q⟩)
theorem lv_ixS {p : Addr} {xs : List V} (h : SqL K H p xs) (e : atI xs i = some z) : ∀ Q : VK, Q z H → rIxL K (.ref p) (.int i) H Q := fun _ q => ⟨p, xs, i, z, rfl, rfl, h, e, q⟩
theorem lv_if {t : TT} {b : Bool} (h : Ans t σ H b) (h1 : b = true → Val ta σ H x) (h2 : b = false → Val tb σ H x) : Val (tIf t ta tb) σ H x := by
  intro Q q
  refine h _ ?_
  cases b with
  | true => exact h1 rfl Q q
  | false => exact h2 rfl Q q
theorem lv_len {p : Addr} {ys : List V} (h : Val ta σ H (.ref p)) (hs : SqL K H p ys) : Val (tCB (fun xs H Q => ∃ p ys, xs = [.ref p] ∧ (SqL K H p ys ∨ SqT K H p ys) ∧ Q (.int ys.length) H) (tCons ta tNil)) σ H (.int ys.length) :=
  fun Q q => h _ ⟨p, ys, rfl, .inl hs, q⟩
theorem lv_abs (h : Val ta σ H (.int i)) : Val (tCB (fun xs H Q => ∃ i, xs = [.int i] ∧ Q (.int (if i < 0 then -i else i)) H) (tCons ta tNil)) σ H (.int (if i < 0 then -i else i)) := fun Q q => h _ ⟨i, rfl, q⟩
theorem lv_lst3 {tc : TE} {D : Ends} (h1 : Val ta σ H x) (h2 : Val tb σ H y) (h3 : Val tc σ H z) (q : ∀ p, H p = none → D.rt (.ref p) (upd H p (.lst [x, y, z]))) : tRet (tLst (tCons ta (tCons tb (tCons tc tNil)))) D σ H :=
  h1 _ (h2 _ (h3 _ ⟨by show 3 ≤ sizeLine; decide, q⟩))
theorem lv_op1 {r : R2} (ha : Val ta σ H x) (hb : Val tb σ H y) (hr : ∀ Q : VK, Q z H → r x y H Q) : Val (tOp r ta tb) σ H z := val_op ha hb hr
end
section
variable {σ : L2.St} {H : Hp} {D : Ends} {te ta tb : TE} {t1 t2 t3 : TS} {c : TT} {v : V} {i : Nat}
theorem sq_no (h : Ans c σ H false) (q : t2 D σ H) : tSeq (tIfS c t1 tNext) t2 D σ H := st_seq (st_no h q)
theorem sq_yes (h : Ans c σ H true) (q : t1 { D with nx := t2 D } σ H) : tSeq (tIfS c t1 t3) t2 D σ H := st_seq (st_yes h q)
theorem sq_set (h : Val te σ H v) (q : t2 D (σ.set i (some v)) H) : tSeq (tAsg te (gName i)) t2 D σ H := st_seq (st_set h q)
theorem sq_setL {p : Addr} {xs : List V} {k : Int} {j : Nat} (h : Val te σ H v) (ha : Val ta σ H (.ref p)) (hb : Val tb σ H (.int k)) (hp : H p = some (.lst xs)) (hj : ixN xs.length k = some j)
    (q : t2 D σ (upd H p (.lst (xs.set j v)))) : tSeq (tAsg te (gSub ta tb rSetL)) t2 D σ H := h _ (ha _ (hb _ ⟨p, xs, k, j, rfl, rfl, hp, hj, q⟩))
theorem sq_for {K : PySem.W.Frag} {g : TG} (P : Addr → Hp → Prop) (h : ∀ Q : VK, (∀ a H1, P a H1 → Q (.ref a) H1) → te σ H Q)
    (k : ∀ a H1, P a H1 → ∃ (xs : List V) (Pv : Nat → L2.St → Hp → Prop), SqL K H1 a xs ∧ Pv 0 σ H1 ∧ (∀ i σ H, i ≤ xs.length → Pv i σ H → SqL K H a xs) ∧ (∀ i x σ H, xs[i]? = some x → Pv i σ H → g x σ H fun σ2 H2 => t1 { D with nx := Pv (i + 1), ct := Pv (i + 1), bk := t2 D } σ2 H2) ∧ ∀ σ H, Pv xs.length σ H → t2 D σ H) :
    tSeq (tFor (iList K te) g t1) t2 D σ H := h _ fun a H1 p => by
  obtain ⟨xs, Pv, h1, h2, h3, h4, h5⟩ := k a H1 p
  exact ⟨a, rfl, ⟨xs, h1⟩, for_list (D := { D with nx := t2 D }) Pv h2 h3 h4 h5⟩
theorem an_gt {x y : Int} {b : Bool} (ha : Val ta σ H (.int x)) (hb : Val tb σ H (.int y)) (e : decide (y < x) = b) : Ans (tTest (tOp (rI0 fun i j => .bl (decide (j < i))) ta tb)) σ H b :=
  ans_cmp ha hb fun Q q => ⟨x, y, rfl, rfl, (show Q (.bl (decide (y < x))) H by rw [e]; exact q)⟩
theorem an_lt {x y : Int} {b : Bool} (ha : Val ta σ H (.int x)) (hb : Val tb σ H (.int y)) (e : decide (x < y) = b) : Ans (tTest (tOp (rI0 fun i j => .bl (decide (i < j))) ta tb)) σ H b :=
  ans_cmp ha hb fun Q q => ⟨x, y, rfl, rfl, (show Q (.bl (decide (x < y))) H by rw [e]; exact q)⟩
theorem an_ge {x y : Int} {b : Bool} (ha : Val ta σ H (.int x)) (hb : Val tb σ H (.int y)) (e : decide (y ≤ x) = b) : Ans (tTest (tOp (rI0 fun i j => .bl (decide (j ≤ i))) ta tb)) σ H b :=
  ans_cmp ha hb fun Q q => ⟨x, y, rfl, rfl, (show Q (.bl (decide (y ≤ x))) H by rw [e]; exact q)⟩
end
theorem mulR {i j : Int} (h : j < 2 ^ 64 ∧ -(2 ^ 64) < j) : CMul i j := .inr ⟨h.2, h.1⟩
theorem mulL {i j : Int} (h : i < 2 ^ 64 ∧ -(2 ^ 64) < i) : CMul i j := .inl ⟨h.2, h.1⟩
local macro_rules | `(tactic| walk_at "lv") => `(tactic| first
  | exact val_var rfl
  | exact val_c
  | (refine' lv_int ?ha; (case ha => walk_at "lv"))
  | (refine' lv_op1 ?ha ?hb ?hr; (case ha => walk_at "lv"); (case hb => walk_at "lv"); (case hr => first | exact fun _ q => ⟨_, _, rfl, rfl, q⟩ | (refine' lv_ix ?hh ?ee; (case hh => assumption); (case ee => rfl)) | exact fun _ q => ⟨_, _, rfl, rfl, mulR ⟨by decide, by decide⟩, q⟩ | exact fun _ q => ⟨_, _, rfl, rfl, mulL ⟨by decide, by decide⟩, q⟩ | exact fun _ q => ⟨_, _, rfl, rfl, (show CDiv _ _ from ⟨by omega, by omega⟩), q⟩ | exact fun _ q => ⟨_, _, rfl, rfl, mulL (by omega), q⟩ | exact fun _ q => ⟨_, _, rfl, rfl, mulR (by omega), q⟩ | exact fun _ q => ⟨_, _, rfl, rfl, (show (0 : Int) < _ by omega), q⟩)))
section
variable {P : Program} {w : World} {K : PySem.W.Frag} {mg : Str → Option Value} {base : Heap}
theorem pyl {x m : Int} (h0 : 0 < m) (h1 : m < 1073741824) : Builtin.divisionGoesByPylong x m = false := by
  have hl : m.natAbs.log2 < 30 := PySem.Flt.log2_lt_of (by decide) (by omega)
  have hm : ¬ ((if (m == 0) = true then 0 else m.natAbs.log2 / 30 + 1) > 300) := by
    split
    · decide
    · omega
  show (decide ((if (m == 0) = true then 0 else m.natAbs.log2 / 30 + 1) > 300) && _) = false
  rw [decide_eq_false hm, Bool.false_and]
theorem scBegun : FnScope ["_law_script", "_law_turn", "_law_own", "_law_state", "_law_cell"] ["_law_script", "_law_turn"] (defScope sBegun) := ⟨rfl, rfl, rfl, by decide +kernel, rfl, by decide +kernel, by decide +kernel⟩
theorem scCast : FnScope ["_law_pail", "_law_many", "_law_figure", "_law_state"] ["_law_pail", "_law_many"] (defScope sCast) := ⟨rfl, rfl, rfl, by decide +kernel, rfl, by decide +kernel, by decide +kernel⟩

theorem ok_cast {f : Addr} {fd : FuncData} {k : Nat} (F : Fun K "_law_cast" "_law_cast" sCast f fd) (mi : mg "int" = none) (md : mg "divmod" = none) : FnOk P w K mg base CX0 (k + 1) f fd ["_law_pail", "_law_many"] spCast := by
  refine F.ok scCast (fun vs H Q E h => ?_) (fun cdv A outer s H vs Q E hr h => ?_)
  · obtain ⟨p, m, rfl, _⟩ := h
    rfl
  · obtain ⟨p, m, rfl, h0, h1, ⟨x, y, z, hp, hx, hy, hy2⟩, q⟩ := h
    refine ⟨_, pss_cons (ps_if (pt_cmpR op_gt (pe_ix ix_list (pv 0) pe_int (fun _ _ => rfl)) pe_int (nomark _))
        (pss_cons (ps_asg (pe_callB call_divmodW (by rfl) md (by decide +kernel) (pa_cons (pe_ix ix_list (pv 0) pe_int (fun _ _ => rfl)) (pa_cons (pv 1) pa_nil)))
            (pg_tup rfl (pgs_cons (pg_sub (pv 0) pe_int set_list) (pgs_cons (pg_name (i := 2) scCast.nd rfl (.inl rfl)) pgs_nil))))
          (pss_one (ps_ret (pv 2)))) pss_nil)
      (pss_cons (ps_asg (pe_op op_add (pe_ix ix_list (pv 0) pe_int (fun _ _ => rfl)) pe_int) (pg_sub (pv 0) pe_int set_list))
      (pss_cons (ps_set (i := 3) scCast.nd rfl (.inl rfl) (pe_op op_mod (pe_callTy call_int1 (by rfl) mi (by decide +kernel) (pa_cons (pe_op op_add (pe_op op_add (pe_op op_mul (pe_ix ix_list (pv 0) pe_int (fun _ _ => rfl)) (pe_op op_add pe_int (pe_op op_mul pe_int (pe_ix ix_list (pv 0) pe_int (fun _ _ => rfl))))) (pe_op op_mul pe_int (pe_ix ix_list (pv 0) pe_int (fun _ _ => rfl)))) pe_int) pa_nil)) pe_int))
      (pss_cons (ps_asg (pe_op op_mod (pe_callTy call_int1 (by rfl) mi (by decide +kernel) (pa_cons (pe_op op_add (pe_op op_add (pe_op op_mul (pv 3) pe_int) (pe_op op_mul pe_int (pe_ix ix_list (pv 0) pe_int (fun _ _ => rfl)))) pe_int) pa_nil)) pe_int) (pg_sub (pv 0) pe_int set_list))
      (pss_one (ps_ret (pe_op op_mod (pe_callTy call_int1 (by rfl) mi (by decide +kernel) (pa_cons (pe_op op_fdiv (pe_ix ix_list (pv 0) pe_int (fun _ _ => rfl)) pe_int) pa_nil)) (pv 1))))))), ?_⟩
    by_cases hx0 : 0 < x
    · refine sq_yes (an_gt (x := x) (by walk_at "lv") val_c (decide_eq_true hx0)) ?_
      refine ⟨.ref p, rfl, p, _, 0, .int x, rfl, rfl, SqL.of hp, rfl, _, rfl, x, m, rfl, ⟨h0, pyl h0 h1⟩, fun t nt => ?_⟩
      have ntp : p ≠ t := ne_of_none hp nt
      refine ⟨t, _, rfl, SqT.of upd_same, rfl, _, _, rfl, ?_⟩
      refine ⟨.ref p, rfl, p, [.int x, .int y, .int z], 0, 0, rfl, rfl, (by rw [upd_ne ntp]; exact hp), rfl, ?_⟩
      refine ⟨_, _, rfl, rfl, ?_⟩
      refine ⟨_, rfl, ?_⟩
      refine q _ _ (Int.emod_nonneg _ (by omega)) (Int.emod_lt_of_pos _ h0) ⟨_, _, _, upd_same, Int.ediv_nonneg hx (by omega), hy, hy2⟩ ?_
      exact (But.new nt).trans But.at
    · refine sq_no (an_gt (x := x) (by walk_at "lv") val_c (decide_eq_false hx0)) ?_
      refine sq_setL (by walk_at "lv") (val_var rfl) val_c hp rfl ?_
      have hp1 : (upd H p (.lst [.int x, .int y, .int (z + 1)])) p = some (.lst [.int x, .int y, .int (z + 1)]) := upd_same
      refine sq_set (by walk_at "lv") ?_
      obtain ⟨Y, hY⟩ : ∃ Y : Int, ((y * (36809 + 2 * (z + 1)) + 5303 * (z + 1) + 7) % 2147483629 * 45413 + 3 * (z + 1) + 1) % 2147483587 = Y := ⟨_, rfl⟩
      refine sq_setL (v := .int Y) (j := 1) ?hv (val_var rfl) val_c hp1 rfl ?_
      case hv =>
        rw [← hY]
        walk_at "lv"
      have hY0 : 0 ≤ Y := by rw [← hY]; exact Int.emod_nonneg _ (by decide)
      have hY1 : Y < 2147483587 := by rw [← hY]; exact Int.emod_lt_of_pos _ (by decide)
      have hp2 : (upd (upd H p (.lst [.int x, .int y, .int (z + 1)])) p (.lst [.int x, .int Y, .int (z + 1)])) p = some (.lst [.int x, .int Y, .int (z + 1)]) := upd_same
      refine st_ret (v := .int (Y / 256 % m)) ?_ ?_
      · walk_at "lv"
      · exact q _ _ (Int.emod_nonneg _ (by omega)) (Int.emod_lt_of_pos _ h0) ⟨_, _, _, upd_same, hx, hY0, by omega⟩ (But.at.trans But.at)
theorem ok_begun {f : Addr} {fd : FuncData} {k : Nat} (F : Fun K "_law_begun" "_law_begun" sBegun f fd) (mi : mg "int" = none) (ml : mg "len" = none) (ma : mg "abs" = none) : FnOk P w K mg base CX0 (k + 1) f fd ["_law_script", "_law_turn"] (spBegun K) := by
  refine F.ok scBegun (fun vs H Q E h => ?_) (fun cdv A outer s H vs Q E hr h => ?_)
  · obtain ⟨a, ns, t, rfl, _⟩ := h
    rfl
  · obtain ⟨a, ns, t, rfl, hS, hlen, hbits, ht0, ht1, q⟩ := h
    refine ⟨_, pss_cons (ps_set (i := 2) scBegun.nd rfl (.inl rfl) (pe_ifExp (pt_cmpR op_lt (pv 1) (pe_callB call_len_seq (by rfl) ml PySem.boot_len (pa_cons (pv 0) pa_nil)) (nomark _)) (pe_ix ix_list (pv 0) (pv 1) (fun _ _ => rfl)) pe_int))
      (pss_cons (ps_set (i := 3) scBegun.nd rfl (.inl rfl) (pe_op op_add pe_int (pe_op op_mul pe_int (pv 1))))
      (pss_cons (ps_for PassesOwn.never rfl (pi_list (pe_slice sl_list (pv 0) po_none (po_some pe_int))) (pg_name (i := 4) scBegun.nd rfl (.inl rfl))
        (pss_one (ps_set (i := 3) scBegun.nd rfl (.inl rfl) (pe_op op_mod (pe_callTy call_int1 (by rfl) mi (by decide +kernel) (pa_cons (pe_op op_add (pe_op op_add (pe_op op_mul (pv 3) pe_int) (pe_op op_mul (pv 4) pe_int)) pe_int) pa_nil)) pe_int))))
      (pss_one (ps_ret (pe_lst (pa_cons (pe_ifExp (PW.pt (pw_or (pt_cmpR op_lt (pv 2) pe_int (nomark _)) (pw_or1 (pt_cmpR op_ge (pv 2) (pe_op op_pow pe_int pe_int) (nomark _))))) (pe_callB call_abs (by rfl) ma (by decide +kernel) (pa_cons (pv 2) pa_nil)) pe_int)
        (pa_cons (pe_op op_mod (pe_callTy call_int1 (by rfl) mi (by decide +kernel) (pa_cons (pe_op op_add (pe_op op_add (pe_op op_mul (pv 3) pe_int) (pe_op op_mulX (pv 2) (pv 2))) (pe_op op_mul pe_int (pv 1))) pa_nil)) pe_int)
          (pa_cons pe_int pa_nil)))))))), ?_⟩
    -- own
    have hown : ∃ own : Int, Builtin.Int.intBits own ≤ 1048576 ∧ ∀ hlt : Bool, decide (t < (ns.length : Int)) = hlt → (hlt = true → atI (ns.map V.int) t = some (.int own)) ∧ (hlt = false → own = 0) := by
      by_cases hl : t < (ns.length : Int)
      · have hj : t.toNat < ns.length := by omega
        refine ⟨ns[t.toNat], hbits _ (List.getElem_mem hj), fun b hb => ⟨fun _ => ?_, fun e => ?_⟩⟩
        · exact L2.at_of (j := t.toNat) (by omega) (by rw [List.getElem?_map, List.getElem?_eq_getElem hj]; rfl)
        · rw [decide_eq_true hl] at hb
          rw [e] at hb
          cases hb
      · refine ⟨0, by decide, fun b hb => ⟨fun e => ?_, fun _ => rfl⟩⟩
        rw [decide_eq_false hl] at hb
        rw [e] at hb
        cases hb
    obtain ⟨own, hob, how⟩ := hown
    obtain ⟨b, hb⟩ : ∃ b, decide (t < (ns.length : Int)) = b := ⟨_, rfl⟩
    have how := how b hb
    refine sq_set (v := .int own) (lv_if (b := b) (an_lt (val_var rfl) (lv_len (val_var rfl) hS) (by rw [List.length_map]; exact hb)) (fun e => val_op (val_var rfl) (val_var rfl) (lv_ixS hS (how.1 e))) (fun e => by rw [how.2 e]; exact val_c)) ?_
    refine sq_set (by walk_at "lv") ?_
    -- the loop
    refine sq_for (fun c H1 => H c = none ∧ H1 = upd H c (.lst (cutV (ns.map V.int) none (some 6)))) (fun Q q => ⟨.ref a, rfl, 6, rfl, a, ns.map V.int, rfl, hS, fun c nc => q c _ ⟨nc, rfl⟩⟩) ?_
    rintro c H1 ⟨nc, rfl⟩
    obtain ⟨ms, hms⟩ := cut_ints ns none (some 6)
    have sm : Same H (upd H c (.lst (cutV (ns.map V.int) none (some 6)))) := fun b o e => by rw [upd_ne (ne_of_none e nc)]; exact e
    rw [hms] at sm ⊢
    refine ⟨ms.map V.int, fun i σ H' => ∃ (st : Int) (v4 : Option V), σ = [some (.ref a), some (.int t), some (.int own), some (.int st), v4] ∧ 0 ≤ st ∧ st < 2147483648 ∧ H' = upd H c (.lst (ms.map V.int)), SqL.of upd_same,
      ⟨60013 + 7727 * t, none, rfl, by omega, by omega, rfl⟩, (fun i σ H' _ ⟨_, _, _, _, _, e⟩ => by rw [e]; exact SqL.of upd_same), ?_, ?_⟩
    · rintro i y σ H' hi ⟨st, v4, rfl, hs0, hs1, rfl⟩
      obtain ⟨z, hz, rfl⟩ := ints_at hi
      show tAsg _ _ _ _ _
      refine st_set (v := .int ((st * 30269 + z * 7 + 13) % 2147483629)) (by walk_at "lv") ?_
      exact ⟨_, _, rfl, Int.emod_nonneg _ (by decide), Int.lt_of_lt_of_le (Int.emod_lt_of_pos _ (by decide)) (by decide), rfl⟩
    · rintro σ H' ⟨st, v4, rfl, hs0, hs1, rfl⟩
      have hX : ∃ X : Int, 0 ≤ X ∧ ((own < 0 ∧ X = -own) ∨ (¬ own < 0 ∧ (10 : Int) ^ 18 ≤ own ∧ X = own) ∨ (¬ own < 0 ∧ ¬ (10 : Int) ^ 18 ≤ own ∧ X = 0)) := by
        by_cases h1 : own < 0
        · exact ⟨-own, by omega, .inl ⟨h1, rfl⟩⟩
        · by_cases h2 : (10 : Int) ^ 18 ≤ own
          · exact ⟨own, by omega, .inr (.inl ⟨h1, h2, rfl⟩)⟩
          · exact ⟨0, by omega, .inr (.inr ⟨h1, h2, rfl⟩)⟩
      obtain ⟨X, hX0, hX⟩ := hX
      refine lv_lst3 (x := .int X) (y := .int ((st * 53 + own * own + 17 * t) % 2147483629)) (z := .int 0) ?_ ?_ val_c ?_
      · rcases hX with ⟨h1, e⟩ | ⟨h1, h2, e⟩ | ⟨h1, h2, e⟩
        · refine lv_if (b := true) (ans_or1 (an_lt (val_var rfl) val_c (decide_eq_true h1))) (fun _ => ?_) (fun z => Bool.noConfusion z)
          have e2 : (if own < 0 then -own else own) = X := by rw [if_pos h1, e]
          rw [← e2]
          exact lv_abs (val_var rfl)
        · refine lv_if (b := true) (ans_or (an_lt (val_var rfl) val_c (decide_eq_false h1)) (an_ge (y := 10 ^ 18) (val_var rfl) ?_ (decide_eq_true h2))) (fun _ => ?_) (fun z => Bool.noConfusion z)
          · exact val_op val_c val_c fun _ q => ⟨_, _, rfl, rfl, ⟨by decide, by decide, by decide⟩, q⟩
          · have e2 : (if own < 0 then -own else own) = X := by rw [if_neg h1, e]
            rw [← e2]
            exact lv_abs (val_var rfl)
        · refine lv_if (b := false) (ans_or (an_lt (val_var rfl) val_c (decide_eq_false h1)) (an_ge (y := 10 ^ 18) (val_var rfl) ?_ (decide_eq_false h2))) (fun z => Bool.noConfusion z) (fun _ => ?_)
          · exact val_op val_c val_c fun _ q => ⟨_, _, rfl, rfl, ⟨by decide, by decide, by decide⟩, q⟩
          · rw [e]
            exact val_c
      · refine val_op (lv_int (val_op (val_op (by walk_at "lv") (val_op (val_var rfl) (val_var rfl) (fun _ q => ⟨_, _, rfl, rfl, (show (Builtin.Int.intBits own : Int) + (Builtin.Int.intBits own : Int) ≤ 134217728 by omega), q⟩)) (fun _ q => ⟨_, _, rfl, rfl, q⟩)) (by walk_at "lv") (fun _ q => ⟨_, _, rfl, rfl, q⟩))) val_c (fun _ q => ⟨_, _, rfl, rfl, (show (0 : Int) < _ by decide), q⟩)
      · intro p np
        refine q _ p (fun b o e => ?_) (sm.free np) ⟨_, _, _, upd_same, hX0, Int.emod_nonneg _ (by decide), Int.lt_of_lt_of_le (Int.emod_lt_of_pos _ (by decide)) (by decide)⟩
        rw [upd_ne (ne_of_none (sm b o e) np)]
        exact sm b o e
end
end Lamp
set_option Elab.async false
set_option linter.all false
set_option maxRecDepth 100000
set_option maxHeartbeats 1000000
namespace Lamp
open PySem PySem.Spec PyProof.Rows L2
/-- all that the walk asks of an exception class whose __init__ keeps f -/
structure XC (P : Program) (w : World) (K : PySem.W.Frag) (mg : Str → Option Value) (C : Addr) (x f : Str) : Prop where
  T : ∃ (B newId initId : String) (tail : List Value), EC K C B newId initId tail
  hm : mg x = some (.ref C)
  nf : PySem.W.findIn K (.ref C) f = some none
  made : ∃ (fI : Addr) (fd : FuncData), PySem.W.findIn K (.ref C) "__init__" = some (some (.ref fI)) ∧ PySem.W.typeIn K (.ref fI) = some (.type "function") ∧ PySem.W.takerIn K C f = some none ∧
    (∀ base : Heap, FnOk P w K mg base CX0 1 fI fd ["self", f] (spInit K C f)) ∧ (∀ (s : Shared) (v u : Value), K.In s.heap → BindsTo s fd ⟨[v, u], []⟩ [("self", v), (f, u)]) ∧ (∀ (s : Shared) (v u : Value), K.In s.heap → BindsTo s fd ⟨[v], [(f, u)]⟩ [("self", v), (f, u)])
/-- .. that has no __init__ of the program -/
structure XN (K : PySem.W.Frag) (mg : Str → Option Value) (C : Addr) (x : Str) : Prop where
  T : ∃ (B newId initId : String) (tail : List Value), EC K C B newId initId tail ∧ PySem.W.excIn K C tail newId = true
  hm : mg x = some (.ref C)
section
variable {X : Cx} {C : Addr} {x f : Str} {p pos : Pos} {e : Expr} {ta : TE}
theorem pe_xc (Z : XC X.prog X.w X.K X.mg C x f) (hr : Room 2 X.A) (hg : Gl X x) (ha : PE X e ta) (hs : starEach [e] X.env = (false, eval e X.env) :: starEach [] X.env := by rfl) (hdb : (x == ("__debug__" : Str)) = false := by decide) :
    PE X (.Call (.Name x p) [e] [] pos) (tMkE C f ta) := by
  obtain ⟨fI, fd, h1, h2, h3, h4, h5, _⟩ := Z.made
  obtain ⟨B, newId, initId, tail, T⟩ := Z.T
  exact pe_mkE T h1 h2 h3 (h4 _) hr h5 hg Z.hm ha hs hdb
theorem pe_xk {kws : List Keyword} {tk : TA} (Z : XC X.prog X.w X.K X.mg C x f) (hr : Room 2 X.A) (hg : Gl X x) (hkw : PK X kws tk) (hall : (backToKw pos (keywordEach kws X.env)).all (·.1.isSome) = true := by rfl) (hks : (backToKw pos (keywordEach kws X.env)).filterMap (·.1) = [f] := by rfl)
    (hdb : (x == ("__debug__" : Str)) = false := by decide) (hpl : ((backTo pos (starEach [] X.env)).any (·.1) || (backToKw pos (keywordEach kws X.env)).any (·.1.isNone)) = false := by rfl) : PE X (.Call (.Name x p) [] kws pos) (tMkK C f tk) := by
  obtain ⟨fI, fd, h1, h2, h3, h4, _, h6⟩ := Z.made
  obtain ⟨B, newId, initId, tail, T⟩ := Z.T
  exact pe_mkK T h1 h2 h3 (h4 _) hr h6 hg Z.hm hkw hall hks hdb hpl
/-- C() -/
def tMkN (C : Addr) : TE := fun _ H Q => ∀ a, H a = none → Q (.ref a) (upd H a (exo a C none))
theorem pe_xn (Z : XN X.K X.mg C x) (hg : Gl X x) (hdb : (x == ("__debug__" : Str)) = false := by decide) : PE X (.Call (.Name x p) [] [] pos) (tMkN C) := by
  obtain ⟨B, newId, initId, tail, T, q⟩ := Z.T
  exact pe_mk0 T.F q Z.hm T.kp hg hdb
end
/-! rows of exceptions made -/
/-- a class with the field that its exceptions have -/
abbrev XSpec := Addr × Option Str
def XHas (H : Hp) (y : V) (a : Addr) (s : XSpec) : Prop := match s.2 with
  | some f => XFld H a s.1 f y
  | none => XAt H a s.1
theorem XHas.same {H H' : Hp} {y : V} {a : Addr} {s : XSpec} (h : XHas H y a s) (e : Same H H') : XHas H' y a s := by
  obtain ⟨C, f⟩ := s
  cases f with
  | none => exact XAt.same h e
  | some f => exact XFld.same h e
theorem XHas.at {H : Hp} {y : V} {a : Addr} {s : XSpec} (h : XHas H y a s) : XAt H a s.1 := by
  obtain ⟨C, f⟩ := s
  cases f with
  | none => exact h
  | some f => exact XFld.at h
def EvX (y : V) (te : TE) (σ : L2.St) (s : XSpec) : Prop := ∀ (H : Hp) (Q : VK), (∀ a H', Same H H' → XHas H' y a s → Q (.ref a) H') → te σ H Q
def EvXs (y : V) (ta : TA) (σ : L2.St) (ss : List XSpec) : Prop := ∀ (H : Hp) (Q : List V → Hp → Prop), (∀ (as : List Addr) H', Same H H' → Paired (XHas H' y) as ss → Q (as.map V.ref) H') → ta σ H Q
section
variable {y : V} {te : TE} {ta : TA} {σ : L2.St} {s : XSpec} {ss : List XSpec} {C : Addr} {f : Str}
theorem made_same {H : Hp} {a dx : Addr} (h1 : H a = none) (h2 : H dx = none) (ne : dx ≠ a) : Same H (upd (upd (upd H a (exo a C none)) dx (exd dx [(f, y)])) a (exo a C (some dx))) := fun b o e => by
  rw [upd_ne (ne_of_none e h1), upd_ne (ne_of_none e h2), upd_ne (ne_of_none e h1)]
  exact e
theorem made_has {H : Hp} {a dx : Addr} (ne : dx ≠ a) : XFld (upd (upd (upd H a (exo a C none)) dx (exd dx [(f, y)])) a (exo a C (some dx))) a C f y :=
  ⟨dx, upd_same, by rw [upd_ne ne, upd_same]⟩
theorem evx_e {i : Nat} (h : σ[i]? = some (some y)) : EvX y (tMkE C f (tVar i)) σ (C, some f) := fun H Q q => ⟨y, h, fun a dx h1 h2 ne => q a _ (made_same h1 h2 ne) (made_has ne)⟩
theorem evx_k {i : Nat} (h : σ[i]? = some (some y)) : EvX y (tMkK C f (tCons (tVar i) tNil)) σ (C, some f) := fun H Q q => ⟨y, h, y, rfl, fun a dx h1 h2 ne => q a _ (made_same h1 h2 ne) (made_has ne)⟩
theorem evx_n : EvX y (tMkN C) σ (C, none) := fun H Q q a h => q a _ (same_of h) (.inl upd_same)
theorem evxs_nil : EvXs y tNil σ [] := fun H Q q => q [] H (Same.refl H) .nil
theorem evxs_cons (h1 : EvX y te σ s) (h2 : EvXs y ta σ ss) : EvXs y (tCons te ta) σ (s :: ss) := fun H Q q => h1 H _ fun a H1 s1 x1 => h2 H1 _ fun as H2 s2 x2 => q (a :: as) H2 (s1.trans s2) (.cons (x1.same s2) x2)
theorem xs_same {H H' : Hp} (e : Same H H') {as : List Addr} (h : Paired (XHas H y) as ss) : Paired (XHas H' y) as ss := L2.Paired.mapP h fun _ _ x => x.same e
variable {t2 : TS} {D : Ends} {H : Hp} {i : Nat} {ss0 : List XSpec}
theorem sq_lstX (h : EvXs y ta σ ss) (hl : ss.length ≤ 100) (k : ∀ l (as : List Addr) H', H' l = some (.lst (as.map V.ref)) → Same H H' → Paired (XHas H' y) as ss → t2 D (σ.set i (some (.ref l))) H') : tSeq (tAsg (tLst ta) (gName i)) t2 D σ H :=
  h H _ fun as H1 s1 x1 => by
    have hlen := Paired.length x1
    refine ⟨Nat.le_of_lt (small1000 (by rw [List.length_map]; omega)), fun r hr => ?_⟩
    exact k r as _ upd_same (s1.trans (same_of hr)) (xs_same (same_of hr) x1)
theorem cat_X {as0 : List Addr} {l0 : Addr} {Q : VK} (hx : σ[i]? = some (some (.ref l0))) (h0 : H l0 = some (.lst (as0.map V.ref))) (x0 : Paired (XHas H y) as0 ss0) (h : EvXs y ta σ ss) (hl : ss.length ≤ 100) (hl0 : ss0.length ≤ 100)
    (k : ∀ l (as : List Addr) H', H' l = some (.lst (as.map V.ref)) → Same H H' → Paired (XHas H' y) as (ss0 ++ ss) → Q (.ref l) H') : tOp rCat (tVar i) (tLst ta) σ H Q := by
  refine ⟨_, hx, h H _ fun as H1 s1 x1 => ?_⟩
  have hlen := Paired.length x1
  have hlen0 := Paired.length x0
  refine ⟨Nat.le_of_lt (small1000 (by rw [List.length_map]; omega)), fun r hr => ?_⟩
  have s2 : Same H1 (upd H1 r (.lst (as.map V.ref))) := same_of hr
  refine ⟨l0, r, as0.map V.ref, as.map V.ref, rfl, rfl, s2 _ _ (s1 _ _ h0), upd_same, Nat.le_of_lt (small1000 (by rw [List.length_map, List.length_map]; omega)), fun r2 hr2 => ?_⟩
  have s3 : Same (upd H1 r (.lst (as.map V.ref))) (upd (upd H1 r (.lst (as.map V.ref))) r2 (.lst (as0.map V.ref ++ as.map V.ref))) := same_of hr2
  exact k r2 (as0 ++ as) _ (by rw [List.map_append, upd_same]) ((s1.trans s2).trans s3) (paired_app (xs_same ((s1.trans s2).trans s3) x0) (xs_same (s2.trans s3) x1))
theorem sq_catX {as0 : List Addr} {l0 : Addr} (hx : σ[i]? = some (some (.ref l0))) (h0 : H l0 = some (.lst (as0.map V.ref))) (x0 : Paired (XHas H y) as0 ss0) (h : EvXs y ta σ ss) (hl : ss.length ≤ 100) (hl0 : ss0.length ≤ 100)
    (k : ∀ l (as : List Addr) H', H' l = some (.lst (as.map V.ref)) → Same H H' → Paired (XHas H' y) as (ss0 ++ ss) → t2 D (σ.set i (some (.ref l))) H') : tSeq (tAsg (tOp rCat (tVar i) (tLst ta)) (gName i)) t2 D σ H := cat_X hx h0 x0 h hl hl0 k
theorem st_catX {as0 : List Addr} {l0 : Addr} (hx : σ[i]? = some (some (.ref l0))) (h0 : H l0 = some (.lst (as0.map V.ref))) (x0 : Paired (XHas H y) as0 ss0) (h : EvXs y ta σ ss) (hl : ss.length ≤ 100) (hl0 : ss0.length ≤ 100)
    (k : ∀ l (as : List Addr) H', H' l = some (.lst (as.map V.ref)) → Same H H' → Paired (XHas H' y) as (ss0 ++ ss) → D.rt (.ref l) H') : tRet (tOp rCat (tVar i) (tLst ta)) D σ H := cat_X hx h0 x0 h hl hl0 k
end
end Lamp
set_option Elab.async false
set_option linter.all false
set_option maxRecDepth 100000
set_option maxHeartbeats 1000000
namespace Lamp
open PySem PySem.Spec PyProof.Rows L2
abbrev sThing : Stmt := top 38
def spAny : Sp := fun vs H Q _ => ∃ (p l : Addr) (xs : List V), vs = [.ref p, .ref l] ∧ l ≠ p ∧ H l = some (.lst xs) ∧ 0 < xs.length ∧ xs.length < 1000000 ∧ Pail H p ∧ ∀ (v : V) H', v ∈ xs → Pail H' p → But p H H' → Q v H'
section
variable {P : Program} {w : World} {K : PySem.W.Frag} {mg : Str → Option Value} {base : Heap}
theorem scAny : FnScope ["_law_pail", "_law_some"] ["_law_pail", "_law_some"] (defScope sAny) := ⟨rfl, rfl, rfl, by decide +kernel, rfl, by decide +kernel, by decide +kernel⟩
theorem ok_any {f fC : Addr} {fd fdC : FuncData} {k : Nat} (F : Fun K "_law_any_of" "_law_any_of" sAny f fd) (G : FnOk P w K mg base CX0 k fC fdC ["_law_pail", "_law_many"] spCast) (bC : Binds K fdC ["_law_pail", "_law_many"] []) (mC : mg "_law_cast" = some (.ref fC)) (kC : PySem.W.keepIn K (.ref fC) = true) (ml : mg "len" = none) :
    FnOk P w K mg base CX0 (k + 1) f fd ["_law_pail", "_law_some"] spAny := by
  refine F.ok scAny (fun vs H Q E h => ?_) (fun cdv A outer s H vs Q E hr h => ?_)
  · obtain ⟨p, l, xs, rfl, _⟩ := h
    rfl
  · obtain ⟨p, l, xs, rfl, hne, hl, h0, h1, hp, q⟩ := h
    refine ⟨_, pss_one (ps_ret (pe_ix ix_list (pv 1) (pe_call G hr rfl mC kC bC .nil pass0 (pa_cons (pv 0) (pa_cons (pe_callB call_len_seq (by rfl) ml PySem.boot_len (pa_cons (pv 1) pa_nil)) pa_nil))) (fun _ _ => rfl))), ?_⟩
    refine ⟨_, rfl, _, rfl, _, rfl, l, xs, rfl, .inl (SqL.of hl), p, (xs.length : Int), rfl, by omega, by omega, hp, fun r H' r0 r1 hp' bt => ?_⟩
    obtain ⟨j, ej⟩ : ∃ j : Nat, r = (j : Int) := ⟨r.toNat, by omega⟩
    have hj : j < xs.length := by omega
    have hl' : H' l = some (.lst xs) := bt l _ hne hl
    exact ⟨l, xs, r, xs[j], rfl, rfl, SqL.of hl', L2.at_of ej (List.getElem?_eq_getElem hj), q _ _ (List.getElem_mem hj) hp' bt⟩
/-! the things -/
def things : List PyData := [.none, .bool true, .bool false, .int 0, .int 1, .int (-1), .int 2, .int 4, .int (-(10 ^ (39 : Int).toNat)), .str "", .str "a", .str "levels 2 end 0 dark", .tuple [], .tuple [.int 0], .tuple [.int 0, .int 1], .str "A"] ++
  [.list [], .list [.int 1], .dict [], .dict [(.str "a", .int 1)], .tuple [.tuple [.int 0, .int 1]], .tuple [.tuple [.int 1, .int 1], .tuple [.int 0, .int 1]], .tuple [.str "step", .int 1], .tuple [.none], .str "abcdefghi", .str "+>", .int 11]
theorem things_ok : things.all okD = true := by decide +kernel
def spThing (K : PySem.W.Frag) : Sp := fun vs H Q _ => ∃ (p : Addr), vs = [.ref p] ∧ Pail H p ∧ ∀ (v : V) (d : PyData) H', Dq K (delH H' p) v d → okD d = true → Pail H' p → But p H H' → Q v H'
theorem sq_lstQ {ta : TA} {ds : List PyData} {t2 : TS} {D : Ends} {σ : L2.St} {H : Hp} {i : Nat} {p : Addr} (h : EvQs K p ta ds) (hp : Pail H p) (hl : ds.length ≤ 100)
    (k : ∀ l vs H', H' l = some (.lst vs) → l ≠ p → Same H H' → Paired (Dq K (delH H' p)) vs ds → t2 D (σ.set i (some (.ref l))) H') : tSeq (tAsg (tLst ta) (gName i)) t2 D σ H := h σ H hp _ fun vs H1 s1 d1 => by
  have hlen := Paired.length d1
  refine ⟨Nat.le_of_lt (small1000 (by omega)), fun r hr => ?_⟩
  have s2 : Same H1 (upd H1 r (.lst vs)) := same_of hr
  exact k r vs _ upd_same ((hp.same s1).ne hr) (s1.trans s2) (paired_same (But.of s2).del d1)
theorem sq_catQ {ta : TA} {ds ds0 : List PyData} {vs0 : List V} {t2 : TS} {D : Ends} {σ : L2.St} {H : Hp} {i : Nat} {p l0 : Addr} (hx : σ[i]? = some (some (.ref l0))) (h0 : H l0 = some (.lst vs0)) (ne0 : l0 ≠ p) (d0 : Paired (Dq K (delH H p)) vs0 ds0) (h : EvQs K p ta ds) (hp : Pail H p) (hl : ds.length ≤ 100) (hl0 : ds0.length ≤ 100)
    (k : ∀ l vs H', H' l = some (.lst vs) → l ≠ p → Same H H' → Paired (Dq K (delH H' p)) vs (ds0 ++ ds) → t2 D (σ.set i (some (.ref l))) H') : tSeq (tAsg (tOp rCat (tVar i) (tLst ta)) (gName i)) t2 D σ H := by
  refine ⟨_, hx, h σ H hp _ fun vs H1 s1 d1 => ?_⟩
  have hlen := Paired.length d1
  have hlen0 := Paired.length d0
  refine ⟨Nat.le_of_lt (small1000 (by omega)), fun r hr => ?_⟩
  have s2 : Same H1 (upd H1 r (.lst vs)) := same_of hr
  refine ⟨l0, r, vs0, vs, rfl, rfl, s2 _ _ (s1 _ _ h0), upd_same, Nat.le_of_lt (small1000 (by omega)), fun r2 hr2 => ?_⟩
  have s3 : Same (upd H1 r (.lst vs)) (upd (upd H1 r (.lst vs)) r2 (.lst (vs0 ++ vs))) := same_of hr2
  exact k r2 _ _ upd_same (((hp.same s1).same s2).ne hr2) ((s1.trans s2).trans s3) (paired_app (paired_same (But.of ((s1.trans s2).trans s3)).del d0) (paired_same (But.of (s2.trans s3)).del d1))
theorem scThing : FnScope ["_law_pail", "_law_menu"] ["_law_pail"] (defScope sThing) := ⟨rfl, rfl, rfl, by decide +kernel, rfl, by decide +kernel, by decide +kernel⟩
local macro_rules | `(tactic| walk_at "pe") => `(tactic| first
  | exact pe_non
  | exact pe_bl
  | exact pe_int
  | exact pe_str
  | (refine' pe_un un_neg ?ha; (case ha => walk_at "pe"))
  | (refine' pe_op op_pow ?ha ?hb; (case ha => walk_at "pe"); (case hb => walk_at "pe"))
  | (refine' pe_tup ?ha; (case ha => walk_at "pa"))
  | (refine' pe_lst ?ha; (case ha => walk_at "pa"))
  | exact pe_dnewK
  | exact pe_disp (pps_cons pe_str pe_int pps_nil) (by rfl) (by rfl) (fun z => by cases z) (by decide))
local macro_rules | `(tactic| walk_at "pa") => `(tactic| first
  | exact pa_nil
  | (refine' pa_cons ?ha ?hb; (case ha => walk_at "pe"); (case hb => walk_at "pa")))
local macro_rules | `(tactic| walk_at "evp") => `(tactic| first
  | exact evp_non
  | exact evp_bl
  | exact evp_int
  | exact evp_str
  | (refine' evp_neg ?ha; (case ha => walk_at "evp"))
  | exact evp_pow ⟨by decide, by decide, by decide⟩
  | (refine' evp_tup ?ha ?hb; (case ha => walk_at "evps"); (case hb => decide))
  | (refine' evp_lst ?ha ?hb; (case ha => walk_at "evps"); (case hb => decide)))
local macro_rules | `(tactic| walk_at "evps") => `(tactic| first
  | exact evps_nil
  | (refine' evps_cons ?ha ?hb; (case ha => walk_at "evp"); (case hb => walk_at "evps")))
local macro_rules | `(tactic| walk_at "evqs") => `(tactic| first
  | exact evqs_nil
  | (refine' evqs_cons ?ha ?hb; (case ha => first | exact evq_d0 | exact evq_d1 | (refine' evq_of ?hc; (case hc => walk_at "evp"))); (case hb => walk_at "evqs")))
theorem ok_thing {f fA : Addr} {fd fdA : FuncData} {k : Nat} (F : Fun K "_law_thing" "_law_thing" sThing f fd) (G : FnOk P w K mg base CX0 k fA fdA ["_law_pail", "_law_some"] spAny) (bA : Binds K fdA ["_law_pail", "_law_some"] []) (mA : mg "_law_any_of" = some (.ref fA)) (kA : PySem.W.keepIn K (.ref fA) = true) :
    FnOk P w K mg base CX0 (k + 1) f fd ["_law_pail"] (spThing K) := by
  refine F.ok scThing (fun vs H Q E h => ?_) (fun cdv A outer s H vs Q E hr h => ?_)
  · obtain ⟨p, rfl, _⟩ := h
    rfl
  · obtain ⟨p, rfl, hp, q⟩ := h
    refine ⟨_, pss_cons (ps_set (i := 1) scThing.nd rfl (.inl rfl) (pe_lst (by walk_at "pa")))
      (pss_cons (ps_set (i := 1) scThing.nd rfl (.inl rfl) (pe_op op_cat (pv 1) (pe_lst (by walk_at "pa"))))
      (pss_one (ps_ret (pe_call G hr rfl mA kA bA .nil pass0 (pa_cons (pv 0) (pa_cons (pv 1) pa_nil)))))), ?_⟩
    refine sq_lstQ (K := K) (ds := things.take 16) (by walk_at "evqs") hp (by decide) fun l0 vs0 H0 hl0 ne0 s0 d0 => ?_
    refine sq_catQ (K := K) (ds := things.drop 16) (l0 := l0) rfl hl0 ne0 d0 (by walk_at "evqs") (hp.same s0) (by decide) (by decide) fun l1 vs1 H1 hl1 ne1 s1 d1 => ?_
    have hlen : vs1.length = 27 := by rw [Paired.length d1]; decide
    refine ⟨_, rfl, _, rfl, p, l1, vs1, rfl, ne1, hl1, by omega, by omega, (hp.same s0).same s1, fun v H2 hv hp2 bt => ?_⟩
    obtain ⟨d, hd, hdq⟩ := paired_mem d1 hv
    refine q v d H2 (dq_same bt.del hdq) ?_ hp2 ((But.of (s0.trans s1)).trans bt)
    have hall := things_ok
    rw [List.all_eq_true] at hall
    exact hall d (by rw [← List.take_append_drop 16 things]; exact hd)
end
end Lamp
set_option Elab.async false
set_option linter.all false
set_option maxRecDepth 100000
set_option maxHeartbeats 1000000
namespace Lamp
open PySem PySem.Spec PyProof.Rows L2
/-! argument lists that make nothing -/
def VA (ta : TA) (σ : L2.St) (H : Hp) (vs : List V) : Prop := ∀ Q : List V → Hp → Prop, Q vs H → ta σ H Q
section
variable {K : PySem.W.Frag} {te : TE} {ta : TA} {σ : L2.St} {H : Hp} {v : V} {vs vs0 : List V} {t2 : TS} {D : Ends} {i : Nat} {l0 : Addr}
theorem va_nil : VA tNil σ H [] := fun Q q => q
theorem va_cons (h1 : Val te σ H v) (h2 : VA ta σ H vs) : VA (tCons te ta) σ H (v :: vs) := fun Q q => h1 _ (h2 _ q)
theorem sq_lstV (h : VA ta σ H vs) (hl : vs.length ≤ 100) (k : ∀ l H', H' l = some (.lst vs) → Same H H' → t2 D (σ.set i (some (.ref l))) H') : tSeq (tAsg (tLst ta) (gName i)) t2 D σ H :=
  h _ ⟨Nat.le_of_lt (small1000 (by omega)), fun r hr => k r _ upd_same (same_of hr)⟩
theorem cat_V {Q : VK} (hx : σ[i]? = some (some (.ref l0))) (h0 : H l0 = some (.lst vs0)) (h : VA ta σ H vs) (hl : vs.length ≤ 100) (hl0 : vs0.length ≤ 100)
    (k : ∀ l H', H' l = some (.lst (vs0 ++ vs)) → Same H H' → Q (.ref l) H') : tOp rCat (tVar i) (tLst ta) σ H Q := by
  refine ⟨_, hx, h _ ⟨Nat.le_of_lt (small1000 (by omega)), fun r hr => ?_⟩⟩
  have s2 : Same H (upd H r (.lst vs)) := same_of hr
  exact ⟨l0, r, vs0, vs, rfl, rfl, s2 _ _ h0, upd_same, Nat.le_of_lt (small1000 (by omega)), fun r2 hr2 => k r2 _ upd_same (s2.trans (same_of hr2))⟩
theorem sq_catV (hx : σ[i]? = some (some (.ref l0))) (h0 : H l0 = some (.lst vs0)) (h : VA ta σ H vs) (hl : vs.length ≤ 100) (hl0 : vs0.length ≤ 100)
    (k : ∀ l H', H' l = some (.lst (vs0 ++ vs)) → Same H H' → t2 D (σ.set i (some (.ref l))) H') : tSeq (tAsg (tOp rCat (tVar i) (tLst ta)) (gName i)) t2 D σ H := cat_V hx h0 h hl hl0 k
theorem st_catV (hx : σ[i]? = some (some (.ref l0))) (h0 : H l0 = some (.lst vs0)) (h : VA ta σ H vs) (hl : vs.length ≤ 100) (hl0 : vs0.length ≤ 100)
    (k : ∀ l H', H' l = some (.lst (vs0 ++ vs)) → Same H H' → D.rt (.ref l) H') : tRet (tOp rCat (tVar i) (tLst ta)) D σ H := cat_V hx h0 h hl hl0 k
theorem v_isX {a C D' : Addr} {b : Bool} (h : σ[i]? = some (some (.ref a))) (hx : XAt H a C) (T : ∃ (B newId initId : String) (tail : List Value), EC K C B newId initId tail) (hk : PySem.W.kitOne K (.ref C) (.ref D') = some b) :
    Val (tCB (rIsX K) (tCons (tVar i) (tCons (tC (.ref D')) tNil))) σ H (.bl b) := fun Q q => ⟨_, h, a, C, _, _, b, rfl, hx, T, .own D', hk, q⟩
theorem v_isT {a C : Addr} {n : String} {b : Bool} (h : σ[i]? = some (some (.ref a))) (hx : XAt H a C) (T : ∃ (B newId initId : String) (tail : List Value), EC K C B newId initId tail) (hk : PySem.W.kitOne K (.ref C) (.type n) = some b) :
    Val (tCB (rIsX K) (tCons (tVar i) (tCons (tC (.ty n)) tNil))) σ H (.bl b) := fun Q q => ⟨_, h, a, C, _, _, b, rfl, hx, T, .ty n, hk, q⟩
end
end Lamp
set_option Elab.async false
set_option linter.all false
set_option maxRecDepth 100000
set_option maxHeartbeats 1000000
namespace Lamp
open PySem PySem.Spec PyProof.Rows L2
abbrev sPlaced : Stmt := top 39
abbrev sNamed : Stmt := top 40
/-- the classes of errors, with the field that each keeps -/
def specs (cs : Nat → Addr) : List XSpec := [(cs 0, some "given"), (cs 1, some "given"), (cs 2, some "given"), (cs 3, some "given"), (cs 4, some "given"), (cs 5, some "given"), (cs 6, some "given"), (cs 7, some "given"), (cs 8, some "index"), (cs 9, some "index"), (cs 10, some "index"), (cs 11, some "index"), (cs 12, some "index"), (cs 13, some "index"), (cs 14, some "given"), (cs 15, some "index"), (cs 16, some "given"), (cs 17, some "given"), (cs 18, some "given"), (cs 19, none), (cs 20, some "index")]
/-- the classes' facts -/
structure All (P : Program) (w : World) (K : PySem.W.Frag) (mg : Str → Option Value) (cs : Nat → Addr) : Prop where
  c0 : XC P w K mg (cs 0) "InvalidText" "given"
  c1 : XC P w K mg (cs 1) "InvalidName" "given"
  c2 : XC P w K mg (cs 2) "InvalidIndex" "given"
  c3 : XC P w K mg (cs 3) "InvalidLevels" "given"
  c4 : XC P w K mg (cs 4) "InvalidNumber" "given"
  c5 : XC P w K mg (cs 5) "InvalidWish" "given"
  c6 : XC P w K mg (cs 6) "NotRound" "given"
  c7 : XC P w K mg (cs 7) "NotLot" "given"
  c8 : XC P w K mg (cs 8) "InvalidLamps" "index"
  c9 : XC P w K mg (cs 9) "InvalidRounds" "index"
  c10 : XC P w K mg (cs 10) "InvalidSteps" "index"
  c11 : XC P w K mg (cs 11) "InvalidPlan" "index"
  c12 : XC P w K mg (cs 12) "InvalidChanges" "index"
  c13 : XC P w K mg (cs 13) "InvalidWishes" "index"
  c14 : XC P w K mg (cs 14) "UnknownName" "given"
  c15 : XC P w K mg (cs 15) "InUse" "index"
  c16 : XC P w K mg (cs 16) "OtherLevels" "given"
  c17 : XC P w K mg (cs 17) "TooMany" "given"
  c18 : XC P w K mg (cs 18) "TooFar" "given"
  c19 : XN K mg (cs 19) "NothingToUndo"
  c20 : XC P w K mg (cs 20) "Broken" "index"
def spErrors (cs : Nat → Addr) : Sp := fun vs H Q _ => ∃ (y : V), vs = [y] ∧ ∀ (l : Addr) (as : List Addr) H', H' l = some (.lst (as.map V.ref)) → Same H H' → Paired (XHas H' y) as (specs cs) → Q (.ref l) H'
section
variable {P : Program} {w : World} {K : PySem.W.Frag} {mg : Str → Option Value} {base : Heap}
theorem scPlaced : FnScope ["_law_thing_here", "_law_found"] ["_law_thing_here"] (defScope sPlaced) := ⟨rfl, rfl, rfl, by decide +kernel, rfl, by decide +kernel, by decide +kernel⟩
theorem scNamed : FnScope ["_law_thing_here", "_law_found"] ["_law_thing_here"] (defScope sNamed) := ⟨rfl, rfl, rfl, by decide +kernel, rfl, by decide +kernel, by decide +kernel⟩
theorem ok_placed {cs : Nat → Addr} {f : Addr} {fd : FuncData} (F : Fun K "_law_placed" "_law_placed" sPlaced f fd) (A : All P w K mg cs) : FnOk P w K mg base CX0 3 f fd ["_law_thing_here"] (spErrors cs) := by
  refine F.ok scPlaced (fun vs H Q E h => ?_) (fun cdv Ar outer s H vs Q E hr h => ?_)
  · obtain ⟨y, rfl, _⟩ := h
    rfl
  · obtain ⟨y, rfl, q⟩ := h
    have hr2 : Room 2 _ := hr
    refine ⟨_, pss_cons (ps_set (i := 1) scPlaced.nd rfl (.inl rfl) (pe_lst (pa_cons (pe_xc A.c0 hr2 (by rfl) (pv 0)) (pa_cons (pe_xc A.c1 hr2 (by rfl) (pv 0)) (pa_cons (pe_xc A.c2 hr2 (by rfl) (pv 0)) (pa_cons (pe_xc A.c3 hr2 (by rfl) (pv 0)) (pa_cons (pe_xc A.c4 hr2 (by rfl) (pv 0)) pa_nil)))))))
      (pss_cons (ps_set (i := 1) scPlaced.nd rfl (.inl rfl) (pe_op op_cat (pv 1) (pe_lst (pa_cons (pe_xc A.c5 hr2 (by rfl) (pv 0)) (pa_cons (pe_xc A.c6 hr2 (by rfl) (pv 0)) (pa_cons (pe_xc A.c7 hr2 (by rfl) (pv 0)) (pa_cons (pe_xc A.c8 hr2 (by rfl) (pv 0)) (pa_cons (pe_xc A.c9 hr2 (by rfl) (pv 0)) pa_nil))))))))
      (pss_cons (ps_set (i := 1) scPlaced.nd rfl (.inl rfl) (pe_op op_cat (pv 1) (pe_lst (pa_cons (pe_xc A.c10 hr2 (by rfl) (pv 0)) (pa_cons (pe_xc A.c11 hr2 (by rfl) (pv 0)) (pa_cons (pe_xc A.c12 hr2 (by rfl) (pv 0)) (pa_cons (pe_xc A.c13 hr2 (by rfl) (pv 0)) pa_nil)))))))
      (pss_cons (ps_set (i := 1) scPlaced.nd rfl (.inl rfl) (pe_op op_cat (pv 1) (pe_lst (pa_cons (pe_xc A.c14 hr2 (by rfl) (pv 0)) (pa_cons (pe_xc A.c15 hr2 (by rfl) (pv 0)) (pa_cons (pe_xc A.c16 hr2 (by rfl) (pv 0)) (pa_cons (pe_xc A.c17 hr2 (by rfl) (pv 0)) (pa_cons (pe_xc A.c18 hr2 (by rfl) (pv 0)) pa_nil))))))))
      (pss_one (ps_ret (pe_op op_cat (pv 1) (pe_lst (pa_cons (pe_xn A.c19 (by rfl)) (pa_cons (pe_xc A.c20 hr2 (by rfl) (pv 0)) pa_nil))))))))), ?_⟩
    refine sq_lstX (y := y) (ss := (((specs cs).drop 0).take 5)) (by exact (evxs_cons (evx_e rfl) (evxs_cons (evx_e rfl) (evxs_cons (evx_e rfl) (evxs_cons (evx_e rfl) (evxs_cons (evx_e rfl) evxs_nil)))))) (Nat.le_trans (List.length_take_le _ _) (by decide)) fun l0 as0 H0 h0 s0 x0 => ?_
    refine sq_catX (y := y) (ss0 := (specs cs).take 5) (ss := (((specs cs).drop 5).take 5)) rfl h0 x0 (by exact (evxs_cons (evx_e rfl) (evxs_cons (evx_e rfl) (evxs_cons (evx_e rfl) (evxs_cons (evx_e rfl) (evxs_cons (evx_e rfl) evxs_nil)))))) (by show 5 ≤ 100; decide) (by show 5 ≤ 100; decide) fun l1 as1 H1 h1 s1 x1 => ?_
    refine sq_catX (y := y) (ss0 := (specs cs).take 10) (ss := (((specs cs).drop 10).take 4)) rfl h1 x1 (by exact (evxs_cons (evx_e rfl) (evxs_cons (evx_e rfl) (evxs_cons (evx_e rfl) (evxs_cons (evx_e rfl) evxs_nil))))) (by show 4 ≤ 100; decide) (by show 10 ≤ 100; decide) fun l2 as2 H2 h2 s2 x2 => ?_
    refine sq_catX (y := y) (ss0 := (specs cs).take 14) (ss := (((specs cs).drop 14).take 5)) rfl h2 x2 (by exact (evxs_cons (evx_e rfl) (evxs_cons (evx_e rfl) (evxs_cons (evx_e rfl) (evxs_cons (evx_e rfl) (evxs_cons (evx_e rfl) evxs_nil)))))) (by show 5 ≤ 100; decide) (by show 14 ≤ 100; decide) fun l3 as3 H3 h3 s3 x3 => ?_
    refine st_catX (y := y) (ss0 := (specs cs).take 19) (ss := (((specs cs).drop 19).take 2)) rfl h3 x3 (by exact (evxs_cons evx_n (evxs_cons (evx_e rfl) evxs_nil))) (by show 2 ≤ 100; decide) (by show 19 ≤ 100; decide) fun l4 as4 H4 h4 s4 x4 => ?_
    exact q l4 as4 H4 h4 ((((s0.trans s1).trans s2).trans s3).trans s4) x4

theorem ok_named {cs : Nat → Addr} {f : Addr} {fd : FuncData} (F : Fun K "_law_named" "_law_named" sNamed f fd) (A : All P w K mg cs) : FnOk P w K mg base CX0 3 f fd ["_law_thing_here"] (spErrors cs) := by
  refine F.ok scNamed (fun vs H Q E h => ?_) (fun cdv Ar outer s H vs Q E hr h => ?_)
  · obtain ⟨y, rfl, _⟩ := h
    rfl
  · obtain ⟨y, rfl, q⟩ := h
    have hr2 : Room 2 _ := hr
    refine ⟨_, pss_cons (ps_set (i := 1) scNamed.nd rfl (.inl rfl) (pe_lst (pa_cons (pe_xk A.c0 hr2 (by rfl) (pk_cons (pv 0) pk_nil)) (pa_cons (pe_xk A.c1 hr2 (by rfl) (pk_cons (pv 0) pk_nil)) (pa_cons (pe_xk A.c2 hr2 (by rfl) (pk_cons (pv 0) pk_nil)) (pa_cons (pe_xk A.c3 hr2 (by rfl) (pk_cons (pv 0) pk_nil)) pa_nil))))))
      (pss_cons (ps_set (i := 1) scNamed.nd rfl (.inl rfl) (pe_op op_cat (pv 1) (pe_lst (pa_cons (pe_xk A.c4 hr2 (by rfl) (pk_cons (pv 0) pk_nil)) (pa_cons (pe_xk A.c5 hr2 (by rfl) (pk_cons (pv 0) pk_nil)) (pa_cons (pe_xk A.c6 hr2 (by rfl) (pk_cons (pv 0) pk_nil)) (pa_cons (pe_xk A.c7 hr2 (by rfl) (pk_cons (pv 0) pk_nil)) pa_nil)))))))
      (pss_cons (ps_set (i := 1) scNamed.nd rfl (.inl rfl) (pe_op op_cat (pv 1) (pe_lst (pa_cons (pe_xk A.c8 hr2 (by rfl) (pk_cons (pv 0) pk_nil)) (pa_cons (pe_xk A.c9 hr2 (by rfl) (pk_cons (pv 0) pk_nil)) (pa_cons (pe_xk A.c10 hr2 (by rfl) (pk_cons (pv 0) pk_nil)) pa_nil))))))
      (pss_cons (ps_set (i := 1) scNamed.nd rfl (.inl rfl) (pe_op op_cat (pv 1) (pe_lst (pa_cons (pe_xk A.c11 hr2 (by rfl) (pk_cons (pv 0) pk_nil)) (pa_cons (pe_xk A.c12 hr2 (by rfl) (pk_cons (pv 0) pk_nil)) (pa_cons (pe_xk A.c13 hr2 (by rfl) (pk_cons (pv 0) pk_nil)) pa_nil))))))
      (pss_cons (ps_set (i := 1) scNamed.nd rfl (.inl rfl) (pe_op op_cat (pv 1) (pe_lst (pa_cons (pe_xk A.c14 hr2 (by rfl) (pk_cons (pv 0) pk_nil)) (pa_cons (pe_xk A.c15 hr2 (by rfl) (pk_cons (pv 0) pk_nil)) (pa_cons (pe_xk A.c16 hr2 (by rfl) (pk_cons (pv 0) pk_nil)) (pa_cons (pe_xk A.c17 hr2 (by rfl) (pk_cons (pv 0) pk_nil)) pa_nil)))))))
      (pss_one (ps_ret (pe_op op_cat (pv 1) (pe_lst (pa_cons (pe_xk A.c18 hr2 (by rfl) (pk_cons (pv 0) pk_nil)) (pa_cons (pe_xn A.c19 (by rfl)) (pa_cons (pe_xk A.c20 hr2 (by rfl) (pk_cons (pv 0) pk_nil)) pa_nil))))))))))), ?_⟩
    refine sq_lstX (y := y) (ss := (((specs cs).drop 0).take 4)) (by exact (evxs_cons (evx_k rfl) (evxs_cons (evx_k rfl) (evxs_cons (evx_k rfl) (evxs_cons (evx_k rfl) evxs_nil))))) (Nat.le_trans (List.length_take_le _ _) (by decide)) fun l0 as0 H0 h0 s0 x0 => ?_
    refine sq_catX (y := y) (ss0 := (specs cs).take 4) (ss := (((specs cs).drop 4).take 4)) rfl h0 x0 (by exact (evxs_cons (evx_k rfl) (evxs_cons (evx_k rfl) (evxs_cons (evx_k rfl) (evxs_cons (evx_k rfl) evxs_nil))))) (by show 4 ≤ 100; decide) (by show 4 ≤ 100; decide) fun l1 as1 H1 h1 s1 x1 => ?_
    refine sq_catX (y := y) (ss0 := (specs cs).take 8) (ss := (((specs cs).drop 8).take 3)) rfl h1 x1 (by exact (evxs_cons (evx_k rfl) (evxs_cons (evx_k rfl) (evxs_cons (evx_k rfl) evxs_nil)))) (by show 3 ≤ 100; decide) (by show 8 ≤ 100; decide) fun l2 as2 H2 h2 s2 x2 => ?_
    refine sq_catX (y := y) (ss0 := (specs cs).take 11) (ss := (((specs cs).drop 11).take 3)) rfl h2 x2 (by exact (evxs_cons (evx_k rfl) (evxs_cons (evx_k rfl) (evxs_cons (evx_k rfl) evxs_nil)))) (by show 3 ≤ 100; decide) (by show 11 ≤ 100; decide) fun l3 as3 H3 h3 s3 x3 => ?_
    refine sq_catX (y := y) (ss0 := (specs cs).take 14) (ss := (((specs cs).drop 14).take 4)) rfl h3 x3 (by exact (evxs_cons (evx_k rfl) (evxs_cons (evx_k rfl) (evxs_cons (evx_k rfl) (evxs_cons (evx_k rfl) evxs_nil))))) (by show 4 ≤ 100; decide) (by show 14 ≤ 100; decide) fun l4 as4 H4 h4 s4 x4 => ?_
    refine st_catX (y := y) (ss0 := (specs cs).take 18) (ss := (((specs cs).drop 18).take 3)) rfl h4 x4 (by exact (evxs_cons (evx_k rfl) (evxs_cons evx_n (evxs_cons (evx_k rfl) evxs_nil)))) (by show 3 ≤ 100; decide) (by show 18 ≤ 100; decide) fun l5 as5 H5 h5 s5 x5 => ?_
    exact q l5 as5 H5 h5 (((((s0.trans s1).trans s2).trans s3).trans s4).trans s5) x5

end
end Lamp
set_option Elab.async false
set_option linter.all false
set_option maxRecDepth 100000
set_option maxHeartbeats 1000000
namespace Lamp
open PySem PySem.Spec PyProof.Rows L2
abbrev sFlags : Stmt := top 41
abbrev sBases : Stmt := top 42
abbrev sHeld : Stmt := top 43
theorem All.ec {P : Program} {w : World} {K : PySem.W.Frag} {mg : Str → Option Value} {cs : Nat → Addr} (A : All P w K mg cs) : ∀ k, k < 21 → ∃ (B newId initId : String) (tail : List Value), EC K (cs k) B newId initId tail
  | 0, _ => A.c0.T
  | 1, _ => A.c1.T
  | 2, _ => A.c2.T
  | 3, _ => A.c3.T
  | 4, _ => A.c4.T
  | 5, _ => A.c5.T
  | 6, _ => A.c6.T
  | 7, _ => A.c7.T
  | 8, _ => A.c8.T
  | 9, _ => A.c9.T
  | 10, _ => A.c10.T
  | 11, _ => A.c11.T
  | 12, _ => A.c12.T
  | 13, _ => A.c13.T
  | 14, _ => A.c14.T
  | 15, _ => A.c15.T
  | 16, _ => A.c16.T
  | 17, _ => A.c17.T
  | 18, _ => A.c18.T
  | 19, _ => by obtain ⟨B, n, i, t, T, _⟩ := A.c19.T; exact ⟨B, n, i, t, T⟩
  | 20, _ => A.c20.T
  | k + 21, h => absurd h (by omega)
/-- the base classes -/
structure Bases (K : PySem.W.Frag) (mg : Str → Option Value) (bs : Nat → Addr) : Prop where
  b0 : XN K mg (bs 0) "WrongValue"
  b1 : XN K mg (bs 1) "WrongName"
  b2 : XN K mg (bs 2) "NotPossible"
/-- the class at C stands under the b-th base class alone -/
structure Under (K : PySem.W.Frag) (bs : Nat → Addr) (C : Addr) (b : Nat) : Prop where
  o0 : PySem.W.kitOne K (.ref C) (.ref (bs 0)) = some (0 == b)
  o1 : PySem.W.kitOne K (.ref C) (.ref (bs 1)) = some (1 == b)
  o2 : PySem.W.kitOne K (.ref C) (.ref (bs 2)) = some (2 == b)
  t0 : PySem.W.kitOne K (.ref C) (.type "ValueError") = some (0 == b)
  t1 : PySem.W.kitOne K (.ref C) (.type "LookupError") = some (1 == b)
  t2 : PySem.W.kitOne K (.ref C) (.type "ArithmeticError") = some (2 == b)
def flagsV (k : Nat) : List V := (List.range 21).map fun j => V.bl (j == k)
def basesV (b : Nat) : List V := [.bl (0 == b), .bl (1 == b), .bl (2 == b), .bl (0 == b), .bl (1 == b), .bl (2 == b)]
def spFlags (cs : Nat → Addr) : Sp := fun vs H Q _ => ∃ (a : Addr) (k : Nat), vs = [.ref a] ∧ k < 21 ∧ XAt H a (cs k) ∧ ∀ l H', H' l = some (.lst (flagsV k)) → Same H H' → Q (.ref l) H'
def spBases (K : PySem.W.Frag) (bs : Nat → Addr) : Sp := fun vs H Q _ => ∃ (a C : Addr) (b : Nat), vs = [.ref a] ∧ XAt H a C ∧ (∃ (B newId initId : String) (tail : List Value), EC K C B newId initId tail) ∧ Under K bs C b ∧ ∀ l H', H' l = some (.lst (basesV b)) → Same H H' → Q (.ref l) H'
section
variable {P : Program} {w : World} {K : PySem.W.Frag} {mg : Str → Option Value} {base : Heap}
theorem scFlags : FnScope ["_law_e", "_law_found"] ["_law_e"] (defScope sFlags) := ⟨rfl, rfl, rfl, by decide +kernel, rfl, by decide +kernel, by decide +kernel⟩
theorem scBases : FnScope ["_law_e", "_law_found"] ["_law_e"] (defScope sBases) := ⟨rfl, rfl, rfl, by decide +kernel, rfl, by decide +kernel, by decide +kernel⟩
theorem ok_flags {cs : Nat → Addr} {f : Addr} {fd : FuncData} (F : Fun K "_law_flags" "_law_flags" sFlags f fd) (A : All P w K mg cs) (G : ClsG K) (mis : mg "isinstance" = none)
    (hk : ∀ k j, k < 21 → j < 21 → PySem.W.kitOne K (.ref (cs k)) (.ref (cs j)) = some (j == k)) : FnOk P w K mg base CX0 1 f fd ["_law_e"] (spFlags cs) := by
  refine F.ok scFlags (fun vs H Q E h => ?_) (fun cdv Ar outer s H vs Q E hr h => ?_)
  · obtain ⟨a, k, rfl, _⟩ := h
    rfl
  · obtain ⟨a, k, rfl, hk0, hx, q⟩ := h
    have T := A.ec k hk0
    refine ⟨_, pss_cons (ps_set (i := 1) scFlags.nd rfl (.inl rfl) (pe_lst (pa_cons (pe_callB (call_isX G) (by rfl) mis (by decide +kernel) (pa_cons (pv 0) (pa_cons (pe_glob (v := .ref (cs 0)) rfl A.c0.hm rfl) pa_nil))) (pa_cons (pe_callB (call_isX G) (by rfl) mis (by decide +kernel) (pa_cons (pv 0) (pa_cons (pe_glob (v := .ref (cs 1)) rfl A.c1.hm rfl) pa_nil))) (pa_cons (pe_callB (call_isX G) (by rfl) mis (by decide +kernel) (pa_cons (pv 0) (pa_cons (pe_glob (v := .ref (cs 2)) rfl A.c2.hm rfl) pa_nil))) pa_nil)))))
      (pss_cons (ps_set (i := 1) scFlags.nd rfl (.inl rfl) (pe_op op_cat (pv 1) (pe_lst (pa_cons (pe_callB (call_isX G) (by rfl) mis (by decide +kernel) (pa_cons (pv 0) (pa_cons (pe_glob (v := .ref (cs 3)) rfl A.c3.hm rfl) pa_nil))) (pa_cons (pe_callB (call_isX G) (by rfl) mis (by decide +kernel) (pa_cons (pv 0) (pa_cons (pe_glob (v := .ref (cs 4)) rfl A.c4.hm rfl) pa_nil))) (pa_cons (pe_callB (call_isX G) (by rfl) mis (by decide +kernel) (pa_cons (pv 0) (pa_cons (pe_glob (v := .ref (cs 5)) rfl A.c5.hm rfl) pa_nil))) pa_nil))))))
      (pss_cons (ps_set (i := 1) scFlags.nd rfl (.inl rfl) (pe_op op_cat (pv 1) (pe_lst (pa_cons (pe_callB (call_isX G) (by rfl) mis (by decide +kernel) (pa_cons (pv 0) (pa_cons (pe_glob (v := .ref (cs 6)) rfl A.c6.hm rfl) pa_nil))) (pa_cons (pe_callB (call_isX G) (by rfl) mis (by decide +kernel) (pa_cons (pv 0) (pa_cons (pe_glob (v := .ref (cs 7)) rfl A.c7.hm rfl) pa_nil))) (pa_cons (pe_callB (call_isX G) (by rfl) mis (by decide +kernel) (pa_cons (pv 0) (pa_cons (pe_glob (v := .ref (cs 8)) rfl A.c8.hm rfl) pa_nil))) pa_nil))))))
      (pss_cons (ps_set (i := 1) scFlags.nd rfl (.inl rfl) (pe_op op_cat (pv 1) (pe_lst (pa_cons (pe_callB (call_isX G) (by rfl) mis (by decide +kernel) (pa_cons (pv 0) (pa_cons (pe_glob (v := .ref (cs 9)) rfl A.c9.hm rfl) pa_nil))) (pa_cons (pe_callB (call_isX G) (by rfl) mis (by decide +kernel) (pa_cons (pv 0) (pa_cons (pe_glob (v := .ref (cs 10)) rfl A.c10.hm rfl) pa_nil))) (pa_cons (pe_callB (call_isX G) (by rfl) mis (by decide +kernel) (pa_cons (pv 0) (pa_cons (pe_glob (v := .ref (cs 11)) rfl A.c11.hm rfl) pa_nil))) pa_nil))))))
      (pss_cons (ps_set (i := 1) scFlags.nd rfl (.inl rfl) (pe_op op_cat (pv 1) (pe_lst (pa_cons (pe_callB (call_isX G) (by rfl) mis (by decide +kernel) (pa_cons (pv 0) (pa_cons (pe_glob (v := .ref (cs 12)) rfl A.c12.hm rfl) pa_nil))) (pa_cons (pe_callB (call_isX G) (by rfl) mis (by decide +kernel) (pa_cons (pv 0) (pa_cons (pe_glob (v := .ref (cs 13)) rfl A.c13.hm rfl) pa_nil))) (pa_cons (pe_callB (call_isX G) (by rfl) mis (by decide +kernel) (pa_cons (pv 0) (pa_cons (pe_glob (v := .ref (cs 14)) rfl A.c14.hm rfl) pa_nil))) pa_nil))))))
      (pss_cons (ps_set (i := 1) scFlags.nd rfl (.inl rfl) (pe_op op_cat (pv 1) (pe_lst (pa_cons (pe_callB (call_isX G) (by rfl) mis (by decide +kernel) (pa_cons (pv 0) (pa_cons (pe_glob (v := .ref (cs 15)) rfl A.c15.hm rfl) pa_nil))) (pa_cons (pe_callB (call_isX G) (by rfl) mis (by decide +kernel) (pa_cons (pv 0) (pa_cons (pe_glob (v := .ref (cs 16)) rfl A.c16.hm rfl) pa_nil))) (pa_cons (pe_callB (call_isX G) (by rfl) mis (by decide +kernel) (pa_cons (pv 0) (pa_cons (pe_glob (v := .ref (cs 17)) rfl A.c17.hm rfl) pa_nil))) (pa_cons (pe_callB (call_isX G) (by rfl) mis (by decide +kernel) (pa_cons (pv 0) (pa_cons (pe_glob (v := .ref (cs 18)) rfl A.c18.hm rfl) pa_nil))) pa_nil)))))))
      (pss_one (ps_ret (pe_op op_cat (pv 1) (pe_lst (pa_cons (pe_callB (call_isX G) (by rfl) mis (by decide +kernel) (pa_cons (pv 0) (pa_cons (pe_glob (v := .ref (cs 19)) rfl A.c19.hm rfl) pa_nil))) (pa_cons (pe_callB (call_isX G) (by rfl) mis (by decide +kernel) (pa_cons (pv 0) (pa_cons (pe_glob (v := .ref (cs 20)) rfl A.c20.hm rfl) pa_nil))) pa_nil))))))))))), ?_⟩
    refine sq_lstV (vs := [.bl (0 == k), .bl (1 == k), .bl (2 == k)]) (by exact (va_cons (v_isX rfl hx T (hk k 0 hk0 (by decide))) (va_cons (v_isX rfl hx T (hk k 1 hk0 (by decide))) (va_cons (v_isX rfl hx T (hk k 2 hk0 (by decide))) va_nil)))) (by show 3 ≤ 100; decide) fun l0 H0 h0 s0 => ?_
    have S0 := s0
    refine sq_catV (vs := [.bl (3 == k), .bl (4 == k), .bl (5 == k)]) rfl h0 (by exact (va_cons (v_isX rfl (hx.same S0) T (hk k 3 hk0 (by decide))) (va_cons (v_isX rfl (hx.same S0) T (hk k 4 hk0 (by decide))) (va_cons (v_isX rfl (hx.same S0) T (hk k 5 hk0 (by decide))) va_nil)))) (by show 3 ≤ 100; decide) (by show 3 ≤ 100; decide) fun l1 H1 h1 s1 => ?_
    have S1 := S0.trans s1
    refine sq_catV (vs := [.bl (6 == k), .bl (7 == k), .bl (8 == k)]) rfl h1 (by exact (va_cons (v_isX rfl (hx.same S1) T (hk k 6 hk0 (by decide))) (va_cons (v_isX rfl (hx.same S1) T (hk k 7 hk0 (by decide))) (va_cons (v_isX rfl (hx.same S1) T (hk k 8 hk0 (by decide))) va_nil)))) (by show 3 ≤ 100; decide) (by show 6 ≤ 100; decide) fun l2 H2 h2 s2 => ?_
    have S2 := S1.trans s2
    refine sq_catV (vs := [.bl (9 == k), .bl (10 == k), .bl (11 == k)]) rfl h2 (by exact (va_cons (v_isX rfl (hx.same S2) T (hk k 9 hk0 (by decide))) (va_cons (v_isX rfl (hx.same S2) T (hk k 10 hk0 (by decide))) (va_cons (v_isX rfl (hx.same S2) T (hk k 11 hk0 (by decide))) va_nil)))) (by show 3 ≤ 100; decide) (by show 9 ≤ 100; decide) fun l3 H3 h3 s3 => ?_
    have S3 := S2.trans s3
    refine sq_catV (vs := [.bl (12 == k), .bl (13 == k), .bl (14 == k)]) rfl h3 (by exact (va_cons (v_isX rfl (hx.same S3) T (hk k 12 hk0 (by decide))) (va_cons (v_isX rfl (hx.same S3) T (hk k 13 hk0 (by decide))) (va_cons (v_isX rfl (hx.same S3) T (hk k 14 hk0 (by decide))) va_nil)))) (by show 3 ≤ 100; decide) (by show 12 ≤ 100; decide) fun l4 H4 h4 s4 => ?_
    have S4 := S3.trans s4
    refine sq_catV (vs := [.bl (15 == k), .bl (16 == k), .bl (17 == k), .bl (18 == k)]) rfl h4 (by exact (va_cons (v_isX rfl (hx.same S4) T (hk k 15 hk0 (by decide))) (va_cons (v_isX rfl (hx.same S4) T (hk k 16 hk0 (by decide))) (va_cons (v_isX rfl (hx.same S4) T (hk k 17 hk0 (by decide))) (va_cons (v_isX rfl (hx.same S4) T (hk k 18 hk0 (by decide))) va_nil))))) (by show 4 ≤ 100; decide) (by show 15 ≤ 100; decide) fun l5 H5 h5 s5 => ?_
    have S5 := S4.trans s5
    refine st_catV (vs := [.bl (19 == k), .bl (20 == k)]) rfl h5 (by exact (va_cons (v_isX rfl (hx.same S5) T (hk k 19 hk0 (by decide))) (va_cons (v_isX rfl (hx.same S5) T (hk k 20 hk0 (by decide))) va_nil))) (by show 2 ≤ 100; decide) (by show 19 ≤ 100; decide) fun l6 H6 h6 s6 => ?_
    have S6 := S5.trans s6
    exact q l6 H6 h6 S6
theorem ok_bases {bs : Nat → Addr} {f : Addr} {fd : FuncData} (F : Fun K "_law_bases" "_law_bases" sBases f fd) (B : Bases K mg bs) (G : ClsG K) (mis : mg "isinstance" = none) (mValueError : mg "ValueError" = none) (mLookupError : mg "LookupError" = none) (mArithmeticError : mg "ArithmeticError" = none) :
    FnOk P w K mg base CX0 1 f fd ["_law_e"] (spBases K bs) := by
  refine F.ok scBases (fun vs H Q E h => ?_) (fun cdv Ar outer s H vs Q E hr h => ?_)
  · obtain ⟨a, C, b, rfl, _⟩ := h
    rfl
  · obtain ⟨a, C, b, rfl, hx, T, Z, q⟩ := h
    refine ⟨_, pss_cons (ps_set (i := 1) scBases.nd rfl (.inl rfl) (pe_lst (pa_cons (pe_callB (call_isX G) (by rfl) mis (by decide +kernel) (pa_cons (pv 0) (pa_cons (pe_glob (v := .ref (bs 0)) rfl B.b0.hm rfl) pa_nil))) (pa_cons (pe_callB (call_isX G) (by rfl) mis (by decide +kernel) (pa_cons (pv 0) (pa_cons (pe_glob (v := .ref (bs 1)) rfl B.b1.hm rfl) pa_nil))) (pa_cons (pe_callB (call_isX G) (by rfl) mis (by decide +kernel) (pa_cons (pv 0) (pa_cons (pe_glob (v := .ref (bs 2)) rfl B.b2.hm rfl) pa_nil))) pa_nil)))))
      (pss_one (ps_ret (pe_op op_cat (pv 1) (pe_lst (pa_cons (pe_callB (call_isX G) (by rfl) mis (by decide +kernel) (pa_cons (pv 0) (pa_cons (pe_bltn (v := .ty "ValueError") (by rfl) mValueError (by decide +kernel) rfl) pa_nil))) (pa_cons (pe_callB (call_isX G) (by rfl) mis (by decide +kernel) (pa_cons (pv 0) (pa_cons (pe_bltn (v := .ty "LookupError") (by rfl) mLookupError (by decide +kernel) rfl) pa_nil))) (pa_cons (pe_callB (call_isX G) (by rfl) mis (by decide +kernel) (pa_cons (pv 0) (pa_cons (pe_bltn (v := .ty "ArithmeticError") (by rfl) mArithmeticError (by decide +kernel) rfl) pa_nil))) pa_nil))))))), ?_⟩
    refine sq_lstV (vs := [.bl (0 == b), .bl (1 == b), .bl (2 == b)]) (by exact (va_cons (v_isX rfl hx T Z.o0) (va_cons (v_isX rfl hx T Z.o1) (va_cons (v_isX rfl hx T Z.o2) va_nil)))) (by show 3 ≤ 100; decide) fun l0 H0 h0 s0 => ?_
    refine st_catV (vs := [.bl (0 == b), .bl (1 == b), .bl (2 == b)]) rfl h0 (by exact (va_cons (v_isT rfl (hx.same s0) T Z.t0) (va_cons (v_isT rfl (hx.same s0) T Z.t1) (va_cons (v_isT rfl (hx.same s0) T Z.t2) va_nil)))) (by show 3 ≤ 100; decide) (by show 3 ≤ 100; decide) fun l1 H1 h1 s1 => ?_
    exact q l1 H1 h1 (s0.trans s1)

end
end Lamp
set_option Elab.async false
set_option linter.all false
set_option maxRecDepth 100000
set_option maxHeartbeats 1000000
namespace Lamp
open PySem PySem.Spec PyProof.Rows L2
abbrev sSome : Stmt := top 44
abbrev sRight : Stmt := top 45
abbrev sLaw : Stmt := top 46
def idxV : List V := [.int 8, .int 9, .int 10, .int 11, .int 12, .int 13, .int 15, .int 20]
def isIdx (k : Nat) : Bool := [8, 9, 10, 11, 12, 13, 15, 20].contains k
def fieldOf (k : Nat) : Str := if isIdx k then "index" else "given"
theorem in_idx : ∀ k : Nat, k < 21 → inV (.int (k : Int)) idxV = isIdx k := by decide +kernel
section
variable {P : Program} {w : World} {K : PySem.W.Frag} {mg : Str → Option Value} {base : Heap} {cs : Nat → Addr}
theorem All.nf (A : All P w K mg cs) : ∀ k, k < 21 → k ≠ 19 → PySem.W.findIn K (.ref (cs k)) (fieldOf k) = some none
  | 0, _, _ => A.c0.nf
  | 1, _, _ => A.c1.nf
  | 2, _, _ => A.c2.nf
  | 3, _, _ => A.c3.nf
  | 4, _, _ => A.c4.nf
  | 5, _, _ => A.c5.nf
  | 6, _, _ => A.c6.nf
  | 7, _, _ => A.c7.nf
  | 8, _, _ => A.c8.nf
  | 9, _, _ => A.c9.nf
  | 10, _, _ => A.c10.nf
  | 11, _, _ => A.c11.nf
  | 12, _, _ => A.c12.nf
  | 13, _, _ => A.c13.nf
  | 14, _, _ => A.c14.nf
  | 15, _, _ => A.c15.nf
  | 16, _, _ => A.c16.nf
  | 17, _, _ => A.c17.nf
  | 18, _, _ => A.c18.nf
  | 19, _, h => absurd rfl h
  | 20, _, _ => A.c20.nf
  | k + 21, h, _ => absurd h (by omega)
theorem specs_at : ∀ k, k < 21 → k ≠ 19 → (specs cs)[k]? = some (cs k, some (fieldOf k))
  | 0, _, _ => rfl
  | 1, _, _ => rfl
  | 2, _, _ => rfl
  | 3, _, _ => rfl
  | 4, _, _ => rfl
  | 5, _, _ => rfl
  | 6, _, _ => rfl
  | 7, _, _ => rfl
  | 8, _, _ => rfl
  | 9, _, _ => rfl
  | 10, _, _ => rfl
  | 11, _, _ => rfl
  | 12, _, _ => rfl
  | 13, _, _ => rfl
  | 14, _, _ => rfl
  | 15, _, _ => rfl
  | 16, _, _ => rfl
  | 17, _, _ => rfl
  | 18, _, _ => rfl
  | 19, _, h => absurd rfl h
  | 20, _, _ => rfl
  | k + 21, h, _ => absurd h (by omega)
theorem specs_in : ∀ k, k < 21 → ∃ f, (specs cs)[k]? = some (cs k, f)
  | 0, _ => ⟨_, rfl⟩
  | 1, _ => ⟨_, rfl⟩
  | 2, _ => ⟨_, rfl⟩
  | 3, _ => ⟨_, rfl⟩
  | 4, _ => ⟨_, rfl⟩
  | 5, _ => ⟨_, rfl⟩
  | 6, _ => ⟨_, rfl⟩
  | 7, _ => ⟨_, rfl⟩
  | 8, _ => ⟨_, rfl⟩
  | 9, _ => ⟨_, rfl⟩
  | 10, _ => ⟨_, rfl⟩
  | 11, _ => ⟨_, rfl⟩
  | 12, _ => ⟨_, rfl⟩
  | 13, _ => ⟨_, rfl⟩
  | 14, _ => ⟨_, rfl⟩
  | 15, _ => ⟨_, rfl⟩
  | 16, _ => ⟨_, rfl⟩
  | 17, _ => ⟨_, rfl⟩
  | 18, _ => ⟨_, rfl⟩
  | 19, _ => ⟨_, rfl⟩
  | 20, _ => ⟨_, rfl⟩
  | k + 21, h => absurd h (by omega)
theorem scHeld : FnScope ["_law_e", "_law_at"] ["_law_e", "_law_at"] (defScope sHeld) := ⟨rfl, rfl, rfl, by decide +kernel, rfl, by decide +kernel, by decide +kernel⟩
def spHeld (cs : Nat → Addr) : Sp := fun vs H Q _ => ∃ (a : Addr) (k : Nat) (y : V), vs = [.ref a, .int (k : Int)] ∧ k < 21 ∧ k ≠ 19 ∧ XFld H a (cs k) (fieldOf k) y ∧ ∀ H', Same H H' → Q y H'
theorem ok_held {f : Addr} {fd : FuncData} (F : Fun K "_law_held" "_law_held" sHeld f fd) (A : All P w K mg cs) : FnOk P w K mg base CX0 1 f fd ["_law_e", "_law_at"] (spHeld cs) := by
  refine F.ok scHeld (fun vs H Q E h => ?_) (fun cdv Ar outer s H vs Q E hr h => ?_)
  · obtain ⟨a, k, y, rfl, _⟩ := h
    rfl
  · obtain ⟨a, k, y, rfl, hk, h19, hx, q⟩ := h
    refine ⟨_, pss_one (ps_ret (pe_ifExp (pt_cmpR op_in_seq (pv 1) (pe_lst (pa_cons pe_int (pa_cons pe_int (pa_cons pe_int (pa_cons pe_int (pa_cons pe_int (pa_cons pe_int (pa_cons pe_int (pa_cons pe_int pa_nil)))))))))
      (by rfl)) (pe_xfld (pv 0)) (pe_xfld (pv 0)))), ?_⟩
    refine ⟨_, rfl, (by show 8 ≤ sizeLine; decide), fun r hr => ⟨r, idxV, rfl, .inl (SqL.of upd_same), rfl, rfl, isIdx k, ?_, ?_⟩⟩
    · show V.bl (inV (.int (k : Int)) idxV) = _
      rw [in_idx k hk]
    · have sm : Same H (upd H r (.lst idxV)) := same_of hr
      have T := A.ec k hk
      have nf := A.nf k hk h19
      have hx' := hx.same sm
      unfold fieldOf at nf hx'
      cases e : isIdx k with
      | true =>
        rw [e] at nf hx'
        exact ⟨_, rfl, a, cs k, y, rfl, hx', T, nf, q _ sm⟩
      | false =>
        rw [e] at nf hx'
        exact ⟨_, rfl, a, cs k, y, rfl, hx', T, nf, q _ sm⟩
end
/-! [b(k) for k in range(n)] -/
theorem lc_row {σ : L2.St} {H : Hp} {n : Nat} {j : Nat} {te : TE} {Q : VK} (b : Nat → V) (hn : n ≤ 1000) (he : ∀ (i : Nat) (H' : Hp), i < n → Val te ((σ.set j none).set j (some (.int (i : Int)))) H' (b i))
    (k : ∀ D, H D = none → Q (.ref D) (upd H D (.lst ((List.range n).map b)))) : tLc (iRng1 (tCons (tC (.int (n : Int))) tNil)) (gName j) tYes te [j] σ H Q := by
  refine ⟨(n : Int), rfl, by omega, by omega, fun D hD => ?_⟩
  have e0 : ((n : Int)).toNat = n := by omega
  rw [e0]
  refine lc_range (lo := 0) (n := n) (fun i H' => H' = upd H D (.lst ((List.range i).map b))) rfl (fun i H' hi e => ?_) (fun H' e => by rw [e]; exact k D hD)
  subst e
  have e1 : (0 : Int) + (i : Int) = (i : Int) := Int.zero_add _
  rw [e1]
  refine ⟨?_, ?_⟩
  · show ((σ.set j none).set j (some (V.int (i : Int)))).set j none = σ.set j none
    rw [List.set_set, List.set_set]
  · show te _ _ _
    refine he i _ hi _ ⟨_, upd_same, ?_, ?_⟩
    · rw [List.length_map, List.length_range]
      exact small1000 (by omega)
    · rw [upd_upd, List.range_succ, List.map_append]
      rfl
theorem dp_bools {K : PySem.W.Frag} {H : Hp} : ∀ bs : List Bool, DpAll K H (bs.map V.bl) (bs.map PyData.bool)
  | [] => .nil
  | b :: bs => .cons (.bl b) (dp_bools bs)
def flagsB (k : Nat) : List Bool := (List.range 21).map fun j => j == k
def basesB (b : Nat) : List Bool := [0 == b, 1 == b, 2 == b, 0 == b, 1 == b, 2 == b]
theorem flags_eq : ∀ k, k < 21 → PyData.eqv (.list ((flagsB k).map PyData.bool)) (.list ((flagsB k).map PyData.bool)) = true ∧ SeqAt.shaped (.list ((flagsB k).map PyData.bool)) = true := by decide +kernel
theorem bases_eq : ∀ k, k < 3 → PyData.eqv (.list ((basesB k).map PyData.bool)) (.list ((basesB k).map PyData.bool)) = true ∧ SeqAt.shaped (.list ((basesB k).map PyData.bool)) = true := by decide +kernel
theorem flagsV_eq (k : Nat) : flagsV k = (flagsB k).map V.bl := by
  unfold flagsV flagsB
  rw [List.map_map]
  rfl
theorem basesV_eq (k : Nat) : basesV k = (basesB k).map V.bl := rfl
end Lamp
set_option Elab.async false
set_option linter.all false
set_option maxRecDepth 100000
set_option maxHeartbeats 1000000
namespace Lamp
open PySem PySem.Spec PyProof.Rows L2
section
variable {σ : L2.St} {H : Hp} {D : Ends} {t1 t2 : TS} {c : TT} {j : Nat}
theorem sq_forR {n : Nat} (hn : n ≤ 1000) (Pv : Nat → L2.St → Hp → Prop) (h0 : Pv 0 σ H) (hs : ∀ (i : Nat) (σ' : L2.St) (H' : Hp), i < n → Pv i σ' H' → t1 { D with nx := Pv (i + 1), ct := Pv (i + 1), bk := t2 D } (σ'.set j (some (.int (i : Int)))) H')
    (hd : ∀ σ' H', Pv n σ' H' → t2 D σ' H') : tSeq (tFor (iRng1 (tCons (tC (.int (n : Int))) tNil)) (gName j) t1) t2 D σ H := by
  refine ⟨(n : Int), rfl, by omega, by omega, ?_⟩
  have e0 : ((n : Int)).toNat = n := by omega
  rw [e0]
  refine for_range (D := { D with nx := t2 D }) (lo := 0) (n := n) Pv h0 (fun i σ' H' hi p => ?_) hd
  have e1 : (0 : Int) + (i : Int) = (i : Int) := Int.zero_add _
  rw [e1]
  exact hs i σ' H' hi p
theorem sq_ifF (h : ∀ Q : Bool → Hp → Prop, (∀ H', Same H H' → Q false H') → c σ H Q) (k : ∀ H', Same H H' → t2 D σ H') : tSeq (tIfS c t1 tNext) t2 D σ H := h _ fun H' s => k H' s
theorem st_ifF (h : ∀ Q : Bool → Hp → Prop, (∀ H', Same H H' → Q false H') → c σ H Q) (k : ∀ H', Same H H' → D.nx σ H') : tIfS c t1 tNext D σ H := h _ fun H' s => k H' s
end
theorem int_eqb (i j : Nat) : decide (V.int (i : Int) = V.int (j : Int)) = (i == j) := by
  by_cases e : i = j
  · subst e; simp
  · have h : ¬ (V.int (i : Int) = V.int (j : Int)) := fun q => e (by have := V.int.inj q; omega)
    rw [decide_eq_false h]
    exact (beq_eq_false_iff_ne.mpr e).symm
theorem paired_at {α β : Type} {R : α → β → Prop} : ∀ {xs : List α} {us : List β} {i : Nat} {u : β}, Paired R xs us → us[i]? = some u → ∃ x, xs[i]? = some x ∧ R x u
  | _, _, _, _, .nil, h => by simp at h
  | _, _, 0, _, .cons r t, h => by simp at h; subst h; exact ⟨_, rfl, r⟩
  | _, _, i + 1, _, .cons r t, h => by
    obtain ⟨x, h1, h2⟩ := paired_at (i := i) t (by simpa using h)
    exact ⟨x, by simpa using h1, h2⟩
section
variable {P : Program} {w : World} {K : PySem.W.Frag} {mg : Str → Option Value} {base : Heap} {cs bs : Nat → Addr}
theorem scSome : FnScope ["_law_some", "_law_thing_here", "_law_at", "_law_base", "_law_k"] ["_law_some", "_law_thing_here"] (defScope sSome) := ⟨rfl, rfl, rfl, by decide +kernel, rfl, by decide +kernel, by decide +kernel⟩
def spSome (K : PySem.W.Frag) (cs : Nat → Addr) : Sp := fun vs H Q _ => ∃ (l : Addr) (as : List Addr) (y : V) (d : PyData), vs = [.ref l, y] ∧ H l = some (.lst (as.map V.ref)) ∧ Paired (XHas H y) as (specs cs) ∧ Dq K H y d ∧ okD d = true ∧ ∀ H', Same H H' → Q (.bl true) H'
/-- which base class the k-th class stands under -/
def baseOf (k : Nat) : Nat := if k < 14 then 0 else if k < 16 then 1 else 2
theorem base_lt (k : Nat) : baseOf k < 3 := by
  unfold baseOf
  by_cases h : k < 14
  · rw [if_pos h]; decide
  · rw [if_neg h]
    by_cases h2 : k < 16
    · rw [if_pos h2]; decide
    · rw [if_neg h2]; decide
theorem ok_some {f fF fB fH : Addr} {fd fdF fdB fdH : FuncData} (F : Fun K "_law_some_right" "_law_some_right" sSome f fd) (A : All P w K mg cs)
    (GF : FnOk P w K mg base CX0 1 fF fdF ["_law_e"] (spFlags cs)) (bF : Binds K fdF ["_law_e"] []) (mF : mg "_law_flags" = some (.ref fF)) (kF : PySem.W.keepIn K (.ref fF) = true)
    (GB : FnOk P w K mg base CX0 1 fB fdB ["_law_e"] (spBases K bs)) (bB : Binds K fdB ["_law_e"] []) (mB : mg "_law_bases" = some (.ref fB)) (kB : PySem.W.keepIn K (.ref fB) = true)
    (GH : FnOk P w K mg base CX0 1 fH fdH ["_law_e", "_law_at"] (spHeld cs)) (bH : Binds K fdH ["_law_e", "_law_at"] []) (mH : mg "_law_held" = some (.ref fH)) (kH : PySem.W.keepIn K (.ref fH) = true)
    (mr : mg "range" = none) (mp : mg "repr" = none) (ml : mg "len" = none) (hU : ∀ k, k < 21 → Under K bs (cs k) (baseOf k)) :
    FnG P w K mg base 2 f fd ["_law_some", "_law_thing_here"] (spSome K cs) := by
  refine okG F scSome (fun vs H Q E h => ?_) (fun cdv Ar outer s H vs Q E hgd hr h => ?_)
  · obtain ⟨l, as, y, d, rfl, _⟩ := h
    rfl
  · obtain ⟨l, as, y, d, rfl, hl, hx, hd, hok, q⟩ := h
    have hu64 := hr.units
    refine ⟨_, pss_cons (ps_for PassesOwn.never rfl (pi_range1 rfl mr (pa_cons pe_int pa_nil)) (pg_name (i := 2) scSome.nd rfl (Or.inr rfl))
        (pss_cons (ps_set (i := 3) scSome.nd rfl (Or.inr rfl) (pe_ifExp (pt_cmpR op_lt (pv 2) pe_int (nomark _)) pe_int (pe_ifExp (pt_cmpR op_lt (pv 2) pe_int (nomark _)) pe_int pe_int)))
        (pss_cons (ps_if (pt_cmpR (op_neD hu64) (pe_call GF hr rfl mF kF bF .nil pass0 (pa_cons (pe_ix ix_list (pv 0) (pv 2) (fun _ _ => rfl)) pa_nil))
            (pe_lc (own := [("_law_k", 4)]) (g := gName 4) (tt := tYes) rfl scSome.nd (pi_range1 rfl mr (pa_cons pe_int pa_nil)) (blkOk_by (own := [("_law_k", 4)]) (N := ["_law_some", "_law_thing_here", "_law_at", "_law_base", "_law_k"]) (sc := defScope sSome) (by decide +kernel)) (fun _ _ _ _ _ => pg_name (i := 4) scSome.nd rfl (Or.inl rfl)) (fun _ _ _ _ _ => pts_nil) (fun _ _ _ _ _ => pe_cmpR op_eq (pv 4) (pv 2) (nomark _))) (by rfl))
          (pss_one (ps_ret pe_bl)) pss_nil)
        (pss_cons (ps_if (pt_cmpR (op_neD hu64) (pe_call GB hr rfl mB kB bB .nil pass0 (pa_cons (pe_ix ix_list (pv 0) (pv 2) (fun _ _ => rfl)) pa_nil))
            (pe_op op_rep (pe_lc (own := [("_law_k", 4)]) (g := gName 4) (tt := tYes) rfl scSome.nd (pi_range1 rfl mr (pa_cons pe_int pa_nil)) (blkOk_by (own := [("_law_k", 4)]) (N := ["_law_some", "_law_thing_here", "_law_at", "_law_base", "_law_k"]) (sc := defScope sSome) (by decide +kernel)) (fun _ _ _ _ _ => pg_name (i := 4) scSome.nd rfl (Or.inl rfl)) (fun _ _ _ _ _ => pts_nil) (fun _ _ _ _ _ => pe_cmpR op_eq (pv 4) (pv 3) (nomark _))) pe_int) (by rfl))
          (pss_one (ps_ret pe_bl)) pss_nil)
        (pss_one (ps_if (PW.pt (pw_and (pt_cmpR op_ne (pv 2) pe_int (nomark _)) (pw_and1 (pt_cmpR op_ne (pe_callB (call_reprD hgd hu64) (by rfl) mp (by decide +kernel) (pa_cons (pe_call GH hr rfl mH kH bH .nil pass0 (pa_cons (pe_ix ix_list (pv 0) (pv 2) (fun _ _ => rfl)) (pa_cons (pv 2) pa_nil))) pa_nil))
            (pe_callB (call_reprD hgd hu64) (by rfl) mp (by decide +kernel) (pa_cons (pv 1) pa_nil)) (nomark _))))) (pss_one (ps_ret pe_bl)) pss_nil))))))
      (pss_one (ps_ret (pe_cmpR op_eq (pe_callB call_len_seq (by rfl) ml PySem.boot_len (pa_cons (pv 0) pa_nil)) pe_int (nomark _)))), ?_⟩
    refine sq_forR (n := 21) (by decide) (fun i σ' H' => ∃ a b c : Option V, σ' = [some (.ref l), some y, a, b, c] ∧ Same H H') ⟨none, none, none, rfl, Same.refl H⟩ ?_ ?_
    · rintro i σ' H0 hi ⟨a0, b0, c0, rfl, s0⟩
      show tSeq _ _ _ [some (.ref l), some y, some (.int (i : Int)), b0, c0] _
      -- base
      refine sq_set (v := .int (baseOf i : Nat)) ?_ ?_
      · refine lv_if (b := decide ((i : Int) < 14)) (an_lt (val_var rfl) val_c rfl) (fun e => ?_) (fun e => ?_)
        · have e' := of_decide_eq_true e
          have eb : baseOf i = 0 := if_pos (by omega)
          rw [eb]
          exact val_c
        · have e' := of_decide_eq_false e
          refine lv_if (b := decide ((i : Int) < 16)) (an_lt (val_var rfl) val_c rfl) (fun e2 => ?_) (fun e2 => ?_)
          · have e2' := of_decide_eq_true e2
            have eb : baseOf i = 1 := by unfold baseOf; rw [if_neg (by omega), if_pos (by omega)]
            rw [eb]
            exact val_c
          · have e2' := of_decide_eq_false e2
            have eb : baseOf i = 2 := by unfold baseOf; rw [if_neg (by omega), if_neg (by omega)]
            rw [eb]
            exact val_c
      show tSeq _ _ _ [some (.ref l), some y, some (.int (i : Int)), some (.int (baseOf i : Nat)), c0] _
      obtain ⟨fo, hspec⟩ := specs_in (cs := cs) i hi
      obtain ⟨ai, hai, hxi⟩ := paired_at hx hspec
      have hb3 : baseOf i < 3 := base_lt i
      have item : atI (as.map V.ref) (i : Int) = some (.ref ai) := L2.at_of rfl (by rw [List.getElem?_map, hai]; rfl)
      have T := A.ec i hi
      -- flags
      refine sq_ifF (fun Q' q' => ?_) fun H1 s1 => ?_
      · refine ⟨.ref l, rfl, .int i, rfl, l, as.map V.ref, i, .ref ai, rfl, rfl, SqL.of (s0 _ _ hl), item, ai, i, rfl, hi, (hxi.same s0).at, fun lf H1 hlf s1 => ?_⟩
        refine lc_row (n := 21) (fun j => .bl (j == i)) (by decide) (fun j H' hj => ?_) (fun Dn hD => ?_)
        · refine val_op (val_var rfl) (val_var rfl) fun Q2 q2 => ⟨rfl, ?_⟩
          rw [int_eqb]
          exact q2
        · have s2 := same_of (o := .lst ((List.range 21).map fun j => V.bl (j == i))) hD
          have e1 := flags_eq i hi
          refine ⟨_, _, .lst (SqL.of (by rw [s2 _ _ hlf, flagsV_eq])) (dp_bools (flagsB i)), .lst (SqL.of (by rw [upd_same, ← flagsV_eq]; rfl)) (dp_bools (flagsB i)), e1.2, e1.2, false, ?_, q' _ (s1.trans s2)⟩
          rw [e1.1]
          rfl
      -- bases
      have s01 := s0.trans s1
      refine sq_ifF (fun Q' q' => ?_) fun H2 s2 => ?_
      · refine ⟨.ref l, rfl, .int i, rfl, l, as.map V.ref, i, .ref ai, rfl, rfl, SqL.of (s01 _ _ hl), item, ai, cs i, baseOf i, rfl, (hxi.same s01).at, T, hU i hi, fun lf H2 hlf s2 => ?_⟩
        refine lc_row (n := 3) (fun j => .bl (j == baseOf i)) (by decide) (fun j H' hj => ?_) (fun Dn hD => ?_)
        · refine val_op (val_var rfl) (val_var rfl) fun Q2 q2 => ⟨rfl, ?_⟩
          rw [int_eqb]
          exact q2
        · have s3 := same_of (o := .lst ((List.range 3).map fun j => V.bl (j == baseOf i))) hD
          refine ⟨Dn, 2, (List.range 3).map fun j => V.bl (j == baseOf i), rfl, rfl, upd_same, by decide, by decide, (by show 3 * 2 ≤ sizeLine; decide), fun Dm hDm => ?_⟩
          have s4 := same_of (o := .lst (List.replicate (2 : Int).toNat ((List.range 3).map fun j => V.bl (j == baseOf i))).flatten) hDm
          have e1 := bases_eq (baseOf i) hb3
          refine ⟨_, _, .lst (SqL.of (by rw [s4 _ _ (s3 _ _ hlf), basesV_eq])) (dp_bools (basesB (baseOf i))), .lst (SqL.of (by rw [upd_same, ← basesV_eq]; rfl)) (dp_bools (basesB (baseOf i))), e1.2, e1.2, false, ?_, q' _ ((s2.trans s3).trans s4)⟩
          rw [e1.1]
          rfl
      have s02 := s01.trans s2
      refine st_ifF (fun Q' q' => ?_) fun H3 s3 => ⟨_, _, _, rfl, s02.trans s3⟩
      by_cases h19 : i = 19
      · refine ⟨_, rfl, rfl, false, ?_, ?_⟩
        · subst h19
          rfl
        · exact q' _ (Same.refl _)
      · refine ⟨_, rfl, rfl, true, ?_, ?_⟩
        · have : ¬ (V.int (i : Int) = V.int 19) := fun z => h19 (by have := V.int.inj z; omega)
          show V.bl (!decide (V.int (i : Int) = V.int 19)) = V.bl true
          rw [decide_eq_false this]
          rfl
        · have hsp := specs_at (cs := cs) i hi h19
          rw [hspec] at hsp
          have efo : fo = some (fieldOf i) := (Prod.mk.inj (Option.some.inj hsp)).2
          subst efo
          have hfld : XFld H ai (cs i) (fieldOf i) y := hxi
          obtain ⟨ok1, ok2, ok3⟩ := okD_of hok
          refine iteT ?_
          refine ⟨.ref l, rfl, .int i, rfl, l, as.map V.ref, i, .ref ai, rfl, rfl, SqL.of (s02 _ _ hl), item, .int i, rfl, ai, i, y, rfl, hi, h19, hfld.same s02, fun H4 s4 => ?_⟩
          refine ⟨y, d, rfl, dq_same (s02.trans s4) hd, ok1, ok2, ok3, _, rfl, y, d, rfl, dq_same (s02.trans s4) hd, ok1, ok2, ok3, rfl, false, ?_, q' _ s4⟩
          show V.bl (!decide (V.str d.shown = V.str d.shown)) = V.bl false
          rw [decide_eq_true rfl]
          rfl
    · rintro σ' H0 ⟨a0, b0, c0, rfl, s0⟩
      have hlen : as.length = 21 := by rw [Paired.length hx]; rfl
      refine ⟨_, rfl, l, _, rfl, .inl (SqL.of (s0 _ _ hl)), rfl, ?_⟩
      show Q (V.bl (decide (V.int ((as.map V.ref).length : Nat) = V.int 21))) _
      rw [List.length_map, hlen]
      exact q _ s0
end
end Lamp
set_option Elab.async false
set_option linter.all false
set_option maxRecDepth 100000
set_option maxHeartbeats 1000000
namespace Lamp
open PySem PySem.Spec PyProof.Rows L2
def b3 (j : Nat) : List V := [.bl (0 == j), .bl (1 == j), .bl (2 == j)]
def b3B (j : Nat) : List Bool := [0 == j, 1 == j, 2 == j]
theorem cut3 (j : Nat) : cutV (basesV j) none (some 3) = b3 j := rfl
theorem paired_snoc {α β : Type} {R : α → β → Prop} {xs : List α} {us : List β} {x : α} {u : β} (h : Paired R xs us) (r : R x u) : Paired R (xs ++ [x]) (us ++ [u]) := paired_app h (.cons r .nil)
def toldD : PyData := .list [.list ((b3B 0).map PyData.bool), .list ((b3B 1).map PyData.bool), .list ((b3B 2).map PyData.bool)]
def dueD : PyData := .list [.list [.bool true, .bool false, .bool false], .list [.bool false, .bool true, .bool false], .list [.bool false, .bool false, .bool true]]
theorem told_ok : SeqAt.shaped toldD = true ∧ SeqAt.shaped dueD = true ∧ PyData.eqv toldD dueD = true := by decide +kernel
theorem sq_setR {σ : L2.St} {H : Hp} {te : TE} {t2 : TS} {D : Ends} {i : Nat} (R : V → Hp → Prop) (h : ∀ Q : VK, (∀ v H', R v H' → Q v H') → te σ H Q) (k : ∀ v H', R v H' → t2 D (σ.set i (some v)) H') : tSeq (tAsg te (gName i)) t2 D σ H := h _ fun v H' r => k v H' r
theorem notF {σ : L2.St} {H : Hp} {te : TE} (h : ∀ Q : VK, (∀ H', Same H H' → Q (.bl true) H') → te σ H Q) : ∀ Q : Bool → Hp → Prop, (∀ H', Same H H' → Q false H') → tNot (tB te) σ H Q := fun Q q => h _ fun H' s => ⟨true, rfl, q H' s⟩
theorem orF {σ : L2.St} {H : Hp} {t u : TT} (h1 : ∀ Q : Bool → Hp → Prop, (∀ H', Same H H' → Q false H') → t σ H Q) (h2 : ∀ H1, Same H H1 → ∀ Q : Bool → Hp → Prop, (∀ H', Same H1 H' → Q false H') → u σ H1 Q) :
    ∀ Q : Bool → Hp → Prop, (∀ H', Same H H' → Q false H') → tOr t u σ H Q := fun Q q => h1 _ fun H1 s1 => by
  show (if false = true then Q true H1 else u σ H1 Q)
  rw [if_neg Bool.false_ne_true]
  exact h2 H1 s1 Q fun H' s2 => q H' (s1.trans s2)
section
variable {P : Program} {w : World} {K : PySem.W.Frag} {mg : Str → Option Value} {base : Heap} {cs bs : Nat → Addr}
theorem Bases.ec (B : Bases K mg bs) : ∀ k, k < 3 → ∃ (N newId initId : String) (tail : List Value), EC K (bs k) N newId initId tail
  | 0, _ => by obtain ⟨N, n, i, t, T, _⟩ := B.b0.T; exact ⟨N, n, i, t, T⟩
  | 1, _ => by obtain ⟨N, n, i, t, T, _⟩ := B.b1.T; exact ⟨N, n, i, t, T⟩
  | 2, _ => by obtain ⟨N, n, i, t, T, _⟩ := B.b2.T; exact ⟨N, n, i, t, T⟩
  | k + 3, h => absurd h (by omega)
theorem scRight : FnScope ["_law_pail", "_law_turn", "_law_thing_here", "_law_told", "_law_e"] ["_law_pail"] (defScope sRight) := ⟨rfl, rfl, rfl, by decide +kernel, rfl, by decide +kernel, by decide +kernel⟩
def spRight : Sp := fun vs H Q _ => ∃ (p : Addr), vs = [.ref p] ∧ Pail H p ∧ ∀ H', But p H H' → Q (.bl true) H'
theorem ok_right {f fT fS fP fN fB : Addr} {fd fdT fdS fdP fdN fdB : FuncData} (F : Fun K "_law_right" "_law_right" sRight f fd) (B : Bases K mg bs)
    (GT : FnOk P w K mg base CX0 3 fT fdT ["_law_pail"] (spThing K)) (bT : Binds K fdT ["_law_pail"] []) (mT : mg "_law_thing" = some (.ref fT)) (kT : PySem.W.keepIn K (.ref fT) = true)
    (GS : FnG P w K mg base 2 fS fdS ["_law_some", "_law_thing_here"] (spSome K cs)) (bS : Binds K fdS ["_law_some", "_law_thing_here"] []) (mS : mg "_law_some_right" = some (.ref fS)) (kS : PySem.W.keepIn K (.ref fS) = true)
    (GP : FnOk P w K mg base CX0 3 fP fdP ["_law_thing_here"] (spErrors cs)) (bP : Binds K fdP ["_law_thing_here"] []) (mP : mg "_law_placed" = some (.ref fP)) (kP : PySem.W.keepIn K (.ref fP) = true)
    (GN : FnOk P w K mg base CX0 3 fN fdN ["_law_thing_here"] (spErrors cs)) (bN : Binds K fdN ["_law_thing_here"] []) (mN : mg "_law_named" = some (.ref fN)) (kN : PySem.W.keepIn K (.ref fN) = true)
    (GB : FnOk P w K mg base CX0 1 fB fdB ["_law_e"] (spBases K bs)) (bB : Binds K fdB ["_law_e"] []) (mB : mg "_law_bases" = some (.ref fB)) (kB : PySem.W.keepIn K (.ref fB) = true)
    (mr : mg "range" = none) (hB : ∀ k, k < 3 → Under K bs (bs k) k) :
    FnG P w K mg base 4 f fd ["_law_pail"] spRight := by
  refine okG F scRight (fun vs H Q E h => ?_) (fun cdv Ar outer s H vs Q E hgd hr h => ?_)
  · obtain ⟨p, rfl, _⟩ := h
    rfl
  · obtain ⟨p, rfl, hp, q⟩ := h
    have hu64 := hr.units
    have hr1 : Room 1 _ := hr.mono (by decide)
    refine ⟨_, pss_cons (ps_for PassesOwn.never rfl (pi_range1 rfl mr (pa_cons pe_int pa_nil)) (pg_name (i := 1) scRight.nd rfl (Or.inl rfl))
        (pss_cons (ps_set (i := 2) scRight.nd rfl (Or.inl rfl) (pe_call GT hr rfl mT kT bT .nil pass0 (pa_cons (pv 0) pa_nil)))
        (pss_one (ps_if (PW.pt (pw_or (pt_not (pt_val (pe_callG (GS.up (by decide : 2 ≤ 3)) hgd hr rfl mS kS bS (pa_cons (pe_call GP hr rfl mP kP bP .nil pass0 (pa_cons (pv 2) pa_nil)) (pa_cons (pv 2) pa_nil)))))
            (pw_or1 (pt_not (pt_val (pe_callG (GS.up (by decide : 2 ≤ 3)) hgd hr rfl mS kS bS (pa_cons (pe_call GN hr rfl mN kN bN .nil pass0 (pa_cons (pv 2) pa_nil)) (pa_cons (pv 2) pa_nil)))))))) (pss_one (ps_ret pe_bl)) pss_nil))))
      (pss_cons (ps_setLc (i := 3) (own := [("_law_e", 4)]) (g := gName 4) (tt := tYes) rfl scRight.nd rfl rfl (sw_true rfl rfl rfl (by decide +kernel)) (pi_list (pe_lst (pa_cons (pe_xn B.b0 (by rfl)) (pa_cons (pe_xn B.b1 (by rfl)) (pa_cons (pe_xn B.b2 (by rfl)) pa_nil)))))
          (blkOk_by (own := [("_law_e", 4)]) (N := ["_law_pail", "_law_turn", "_law_thing_here", "_law_told", "_law_e"]) (sc := defScope sRight) (by decide +kernel)) (fun _ _ _ _ _ => pg_name (i := 4) scRight.nd rfl (Or.inl rfl)) (fun _ _ _ _ _ => pts_nil)
          (fun _ _ _ _ _ => pe_slice (r := rSlL K) sl_list (pe_call GB hr1 rfl mB kB bB .nil pass0 (pa_cons (pv 4) pa_nil)) po_none (po_some pe_int)))
      (pss_one (ps_ret (pe_cmpR (op_eqD hu64) (pv 3) (pe_lst (pa_cons (pe_lst (pa_cons pe_bl (pa_cons pe_bl (pa_cons pe_bl pa_nil)))) (pa_cons (pe_lst (pa_cons pe_bl (pa_cons pe_bl (pa_cons pe_bl pa_nil)))) (pa_cons (pe_lst (pa_cons pe_bl (pa_cons pe_bl (pa_cons pe_bl pa_nil)))) pa_nil)))) (by rfl))))), ?_⟩
    refine sq_forR (n := 4) (by decide) (fun i σ' H' => ∃ a b : Option V, σ' = [some (.ref p), a, b, none, none] ∧ Pail H' p ∧ But p H H') ⟨none, none, rfl, hp, But.refl p H⟩ ?_ ?_
    · rintro i σ' H0 hi ⟨a0, b0, rfl, hp0, bt0⟩
      show tSeq _ _ _ [some (.ref p), some (.int (i : Int)), b0, none, none] _
      refine sq_setR (fun v H1 => ∃ d, Dq K (delH H1 p) v d ∧ okD d = true ∧ Pail H1 p ∧ But p H0 H1) (fun Q' q' => ⟨_, rfl, p, rfl, hp0, fun v d H1 hd hok hp1 bt1 => q' v H1 ⟨d, hd, hok, hp1, bt1⟩⟩) ?_
      rintro v H1 ⟨d, hd, hok, hp1, bt1⟩
      have one : ∀ H2, Same H1 H2 → ∀ Q' : VK, (∀ H', Same H2 H' → Q' (.bl true) H') → ∀ (l : Addr) (as : List Addr) H3, H3 l = some (.lst (as.map V.ref)) → Same H2 H3 → Paired (XHas H3 v) as (specs cs) → spSome K cs [.ref l, v] H3 Q' E0 :=
        fun H2 s2 Q' q' l as H3 hl s3 hx => ⟨l, as, v, d, rfl, hl, hx, dq_same del_sub (dq_same (But.of (s2.trans s3)).del hd), hok, fun H4 s4 => q' H4 (s3.trans s4)⟩
      refine st_ifF (orF (notF fun Q' q' => ?_) fun H2 s2 => notF fun Q' q' => ?_) fun H2 s2 => ⟨_, _, rfl, hp1.same s2, (bt0.trans bt1).trans (But.of s2)⟩
      · exact ⟨_, rfl, v, rfl, fun l as H3 hl s3 hx => ⟨_, rfl, one H1 (Same.refl H1) Q' q' l as H3 hl s3 hx⟩⟩
      · exact ⟨_, rfl, v, rfl, fun l as H3 hl s3 hx => ⟨_, rfl, one H2 s2 Q' q' l as H3 hl s3 hx⟩⟩
    · rintro σ' H0 ⟨a0, b0, rfl, hp0, bt0⟩
      -- the base classes' own
      refine sq_setR (fun v H' => ∃ (D : Addr) (ls : List Addr), v = .ref D ∧ But p H0 H' ∧ H' D = some (.lst (ls.map V.ref)) ∧ Paired (fun c j => H' c = some (.lst (b3 j))) ls [0, 1, 2]) (fun Q' q' => ?_) ?_
      · intro x0 n0 x1 n1 x2 n2
        refine ⟨by show 3 ≤ sizeLine; decide, fun l hl => ⟨l, rfl, ⟨_, SqL.of upd_same⟩, fun D hD => ?_⟩⟩
        have r0 := same_of (o := exo x0 (bs 0) none) n0
        have r1 := same_of (o := exo x1 (bs 1) none) n1
        have r2 := same_of (o := exo x2 (bs 2) none) n2
        have r3 := same_of (o := .lst [V.ref x0, V.ref x1, V.ref x2]) hl
        have r4 := same_of (o := .lst []) hD
        have at0 : XAt (upd (upd (upd (upd H0 x0 (exo x0 (bs 0) none)) x1 (exo x1 (bs 1) none)) x2 (exo x2 (bs 2) none)) l (.lst [V.ref x0, V.ref x1, V.ref x2])) x0 (bs 0) := .inl (r3 _ _ (r2 _ _ (r1 _ _ upd_same)))
        have at1 : XAt (upd (upd (upd (upd H0 x0 (exo x0 (bs 0) none)) x1 (exo x1 (bs 1) none)) x2 (exo x2 (bs 2) none)) l (.lst [V.ref x0, V.ref x1, V.ref x2])) x1 (bs 1) := .inl (r3 _ _ (r2 _ _ upd_same))
        have at2 : XAt (upd (upd (upd (upd H0 x0 (exo x0 (bs 0) none)) x1 (exo x1 (bs 1) none)) x2 (exo x2 (bs 2) none)) l (.lst [V.ref x0, V.ref x1, V.ref x2])) x2 (bs 2) := .inl (r3 _ _ upd_same)
        have s0l : Same H0 (upd (upd (upd (upd H0 x0 (exo x0 (bs 0) none)) x1 (exo x1 (bs 1) none)) x2 (exo x2 (bs 2) none)) l (.lst [V.ref x0, V.ref x1, V.ref x2])) := ((r0.trans r1).trans r2).trans r3
        have hll : (upd (upd (upd (upd H0 x0 (exo x0 (bs 0) none)) x1 (exo x1 (bs 1) none)) x2 (exo x2 (bs 2) none)) l (.lst [V.ref x0, V.ref x1, V.ref x2])) l = some (.lst [V.ref x0, V.ref x1, V.ref x2]) := upd_same
        clear r0 r1 r2 r3
        revert hD r4 at0 at1 at2 s0l hll
        generalize (upd (upd (upd (upd H0 x0 (exo x0 (bs 0) none)) x1 (exo x1 (bs 1) none)) x2 (exo x2 (bs 2) none)) l (.lst [V.ref x0, V.ref x1, V.ref x2])) = Hb
        intro hD r4 at0 at1 at2 s0l hll
        refine lc_list (K := K) (a := l) (xs := [V.ref x0, V.ref x1, V.ref x2]) (fun i H' => Same Hb H' ∧ ∃ ls : List Addr, H' D = some (.lst (ls.map V.ref)) ∧ Paired (fun c j => H' c = some (.lst (b3 j)) ∧ c ≠ D) ls (List.range i))
          ⟨r4, [], upd_same, .nil⟩ (fun i H' _ z => SqL.of (z.1 _ _ hll)) (fun i x H' hi z => ?_) (fun H' z => ?_)
        · obtain ⟨sb, ls, hlD, hp3⟩ := z
          have hx : ∃ xi, x = V.ref xi ∧ i < 3 ∧ XAt H' xi (bs i) := by
            match i, hi with
            | 0, hi => exact ⟨x0, (Option.some.inj hi).symm, by decide, at0.same sb⟩
            | 1, hi => exact ⟨x1, (Option.some.inj hi).symm, by decide, at1.same sb⟩
            | 2, hi => exact ⟨x2, (Option.some.inj hi).symm, by decide, at2.same sb⟩
            | i + 3, hi => simp at hi
          obtain ⟨xi, rfl, hi3, hxat⟩ := hx
          refine ⟨rfl, ?_⟩
          refine ⟨.ref xi, rfl, xi, bs i, i, rfl, hxat, B.ec i hi3, hB i hi3, fun lb H2 hlb s2 => ⟨3, rfl, lb, _, rfl, SqL.of hlb, fun c hc => ?_⟩⟩
          rw [cut3]
          have s3 := same_of (o := .lst (b3 i)) hc
          have cD : c ≠ D := fun e => by rw [e, s2 _ _ hlD] at hc; cases hc
          refine ⟨ls.map V.ref, s3 _ _ (s2 _ _ hlD), ?_, fun b o e => ?_, ls ++ [c], ?_, ?_⟩
          · have hlen := Paired.length hp3
            rw [List.length_range] at hlen
            rw [List.length_map]
            exact small1000 (by omega)
          · have nb : b ≠ D := fun z => by rw [z, hD] at e; cases e
            rw [upd_ne nb]
            exact s3 _ _ (s2 _ _ (sb _ _ e))
          · rw [upd_same, List.map_append]
            rfl
          · rw [List.range_succ]
            refine paired_snoc (L2.Paired.mapP hp3 fun c' j hc' => ?_) ⟨?_, cD⟩
            · exact ⟨by rw [upd_ne hc'.2]; exact s3 _ _ (s2 _ _ hc'.1), hc'.2⟩
            · rw [upd_ne cD, upd_same]
        · obtain ⟨sb, ls, hlD, hp3⟩ := z
          exact q' _ H' ⟨D, ls, rfl, But.of (s0l.trans sb), hlD, L2.Paired.mapP hp3 fun c j hc => hc.1⟩
      · rintro v H1 ⟨D, ls, rfl, bt1, hD, hls⟩
        match ls, hls, hD with
        | [c0, c1, c2], .cons h0 (.cons h1 (.cons h2 .nil)), hD =>
          refine ⟨_, rfl, (by show 3 ≤ sizeLine; decide), fun p1 n1 => ⟨(by show 3 ≤ sizeLine; decide), fun p2 n2 => ⟨(by show 3 ≤ sizeLine; decide), fun p3 n3 => ⟨(by show 3 ≤ sizeLine; decide), fun p4 n4 => ?_⟩⟩⟩⟩
          have r1 := same_of (o := .lst [V.bl true, V.bl false, V.bl false]) n1
          have r2 := same_of (o := .lst [V.bl false, V.bl true, V.bl false]) n2
          have r3 := same_of (o := .lst [V.bl false, V.bl false, V.bl true]) n3
          have r4 := same_of (o := .lst [V.ref p1, V.ref p2, V.ref p3]) n4
          have all := ((r1.trans r2).trans r3).trans r4
          refine ⟨toldD, dueD, .lst (SqL.of (all _ _ hD)) (.cons (.lst (SqL.of (all _ _ h0)) (dp_bools (b3B 0))) (.cons (.lst (SqL.of (all _ _ h1)) (dp_bools (b3B 1))) (.cons (.lst (SqL.of (all _ _ h2)) (dp_bools (b3B 2))) .nil))),
            .lst (SqL.of upd_same) (.cons (.lst (SqL.of (r4 _ _ (r3 _ _ (r2 _ _ upd_same)))) (dp_bools [true, false, false])) (.cons (.lst (SqL.of (r4 _ _ (r3 _ _ upd_same))) (dp_bools [false, true, false])) (.cons (.lst (SqL.of (r4 _ _ upd_same)) (dp_bools [false, false, true])) .nil))), told_ok.1, told_ok.2.1, ?_⟩
          rw [told_ok.2.2]
          exact q _ ((bt0.trans bt1).trans (But.of all))
end
end Lamp
set_option Elab.async false
set_option linter.all false
set_option maxRecDepth 100000
set_option maxHeartbeats 1000000
namespace Lamp
open PySem PySem.Spec PyProof.Rows L2
def limD : PyData := .list [.tuple [.int 2, .int 3, .int 5, .int 7], .int 400, .int 4000, .int 4, .int 24, .int 8, .int 40, .int 1000, .int 6]
theorem limD_ok : okD limD = true := by decide +kernel
section
variable {P : Program} {w : World} {K : PySem.W.Frag} {mg : Str → Option Value} {base : Heap} {cs bs : Nat → Addr}
theorem scLaw : FnScope ["_law_script", "_law_some", "_law_turn"] ["_law_script"] (defScope sLaw) := ⟨rfl, rfl, rfl, by decide +kernel, rfl, by decide +kernel, by decide +kernel⟩
def spLaw (K : PySem.W.Frag) : Sp := fun vs H Q _ => ∃ (a : Addr) (ns : List Int), vs = [.ref a] ∧ SqL K H a (ns.map V.int) ∧ ns.length ≤ 63 ∧ (∀ z ∈ ns, Builtin.Int.intBits z ≤ 1048576) ∧ ∀ H', Q (.bl true) H'
/-- the limits, as the module's names have them -/
structure Limits (K : PySem.W.Frag) (mg : Str → Option Value) (aL : Addr) : Prop where
  levels : mg "LEVELS" = some (.ref aL)
  four : ∀ H, SqT K H aL [.int 2, .int 3, .int 5, .int 7]
  lamps : ∃ t, mg "MOST_LAMPS" = some (.int 400 t)
  steps : ∃ t, mg "MOST_STEPS" = some (.int 4000 t)
  rounds : ∃ t, mg "MOST_ROUNDS" = some (.int 4 t)
  place : ∃ t, mg "MOST_PLACE" = some (.int 24 t)
  last : ∃ t, mg "MOST_END" = some (.int 8 t)
  near : ∃ t, mg "MOST_NEAR" = some (.int 40 t)
  times : ∃ t, mg "MOST_TIMES" = some (.int 1000 t)
  changes : ∃ t, mg "MOST_CHANGES" = some (.int 6 t)
theorem ok_law {f fR fB aL : Addr} {fd fdR fdB : FuncData} (F : Fun K "law" "law" sLaw f fd) (L : Limits K mg aL)
    (GR : FnG P w K mg base 4 fR fdR ["_law_pail"] spRight) (bR : Binds K fdR ["_law_pail"] []) (mR : mg "_law_right" = some (.ref fR)) (kR : PySem.W.keepIn K (.ref fR) = true)
    (GB : FnOk P w K mg base CX0 1 fB fdB ["_law_script", "_law_turn"] (spBegun K)) (bB : Binds K fdB ["_law_script", "_law_turn"] []) (mB : mg "_law_begun" = some (.ref fB)) (kB : PySem.W.keepIn K (.ref fB) = true)
    (mr : mg "range" = none) (mp : mg "repr" = none) (ml : mg "len" = none) (mall : mg "all" = none) (mmax : mg "max" = none) (mmin : mg "min" = none) :
    FnG P w K mg base 5 f fd ["_law_script"] (spLaw K) := by
  obtain ⟨t1, m1⟩ := L.lamps
  obtain ⟨t2, m2⟩ := L.steps
  obtain ⟨t3, m3⟩ := L.rounds
  obtain ⟨t4, m4⟩ := L.place
  obtain ⟨t5, m5⟩ := L.last
  obtain ⟨t6, m6⟩ := L.near
  obtain ⟨t7, m7⟩ := L.times
  obtain ⟨t8, m8⟩ := L.changes
  refine okG F scLaw (fun vs H Q E h => ?_) (fun cdv Ar outer s H vs Q E hgd hr h => ?_)
  · obtain ⟨a, ns, rfl, _⟩ := h
    rfl
  · obtain ⟨a, ns, rfl, hS, hlen, hbits, q⟩ := h
    have hu64 := hr.units
    have hr1 : Room 1 _ := hr.mono (by decide)
    refine ⟨_, pss_cons (ps_set (i := 1) scLaw.nd rfl (Or.inl rfl) (pe_lst (pa_cons (pe_glob (v := .ref aL) rfl L.levels rfl) (pa_cons (pe_glob (v := .int 400) rfl m1 ⟨_, rfl⟩) (pa_cons (pe_glob (v := .int 4000) rfl m2 ⟨_, rfl⟩) (pa_cons (pe_glob (v := .int 4) rfl m3 ⟨_, rfl⟩)
          (pa_cons (pe_glob (v := .int 24) rfl m4 ⟨_, rfl⟩) (pa_cons (pe_glob (v := .int 8) rfl m5 ⟨_, rfl⟩) (pa_cons (pe_glob (v := .int 40) rfl m6 ⟨_, rfl⟩) (pa_cons (pe_glob (v := .int 1000) rfl m7 ⟨_, rfl⟩) pa_nil))))))))))
      (pss_cons (ps_if (pt_cmpR op_ne (pe_callB (call_reprD hgd hu64) (by rfl) mp (by decide +kernel) (pa_cons (pe_op op_cat (pv 1) (pe_lst (pa_cons (pe_glob (v := .int 6) rfl m8 ⟨_, rfl⟩) pa_nil))) pa_nil))
          (pe_callB (call_reprD hgd hu64) (by rfl) mp (by decide +kernel) (pa_cons (pe_lst (pa_cons (pe_tup (pa_cons pe_int (pa_cons pe_int (pa_cons pe_int (pa_cons pe_int pa_nil))))) (pa_cons pe_int (pa_cons pe_int (pa_cons pe_int (pa_cons pe_int (pa_cons pe_int (pa_cons pe_int (pa_cons pe_int (pa_cons pe_int pa_nil)))))))))) pa_nil)) (nomark _))
        (pss_one (ps_ret pe_bl)) pss_nil)
      (pss_one (ps_ret (pe_callB (cr_all rfl) (by rfl) mall (by decide +kernel) (pa_cons (pe_lc (own := [("_law_turn", 2)]) (g := gName 2) (tt := tYes) rfl scLaw.nd
          (pi_range1 rfl mr (pa_cons (pe_callB (call_max2 rfl) (by rfl) mmax (by decide +kernel) (pa_cons pe_int (pa_cons (pe_callB (call_min2 rfl) (by rfl) mmin (by decide +kernel) (pa_cons (pe_callB call_len_seq (by rfl) ml PySem.boot_len (pa_cons (pv 0) pa_nil)) (pa_cons pe_int pa_nil))) pa_nil))) pa_nil))
          (blkOk_by (own := [("_law_turn", 2)]) (N := ["_law_script", "_law_some", "_law_turn"]) (sc := defScope sLaw) (by decide +kernel)) (fun _ _ _ _ _ => pg_name (i := 2) scLaw.nd rfl (Or.inl rfl)) (fun _ _ _ _ _ => pts_nil)
          (fun _ _ _ _ _ => pe_callG GR hgd hr rfl mR kR bR (pa_cons (pe_call GB hr1 rfl mB kB bB .nil pass0 (pa_cons (pv 0) (pa_cons (pv 2) pa_nil))) pa_nil))) pa_nil))))), ?_⟩
    have lim := okD_of limD_ok
    refine sq_lstV (vs := [.ref aL, .int 400, .int 4000, .int 4, .int 24, .int 8, .int 40, .int 1000]) (by exact va_cons val_c (va_cons val_c (va_cons val_c (va_cons val_c (va_cons val_c (va_cons val_c (va_cons val_c (va_cons val_c va_nil)))))))) (by show 8 ≤ 100; decide) fun l0 H0 h0 s0 => ?_
    refine sq_ifF (fun Q' q' => ?_) fun H1 s1 => ?_
    · refine cat_V (vs := [.int 6]) (l0 := l0) rfl h0 (va_cons val_c va_nil) (by show 1 ≤ 100; decide) (by show 8 ≤ 100; decide) fun l1 H1 h1 s1 => ?_
      have four := fun H => L.four H
      refine ⟨.ref l1, limD, rfl, .plain (.lst (SqL.of h1) (.cons (.tup (four H1) (.cons (.int _) (.cons (.int _) (.cons (.int _) (.cons (.int _) .nil))))) (.cons (.int _) (.cons (.int _) (.cons (.int _) (.cons (.int _) (.cons (.int _) (.cons (.int _) (.cons (.int _) (.cons (.int _) .nil)))))))))),
        lim.1, lim.2.1, lim.2.2, (by show 4 ≤ sizeLine; decide), fun tp ntp => ⟨(by show 9 ≤ sizeLine; decide), fun l2 n2 => ?_⟩⟩
      have r1 := same_of (o := .tup [.int 2, .int 3, .int 5, .int 7]) ntp
      have r2 := same_of (o := .lst [.ref tp, .int 400, .int 4000, .int 4, .int 24, .int 8, .int 40, .int 1000, .int 6]) n2
      refine ⟨.ref l2, limD, rfl, .plain (.lst (SqL.of upd_same) (.cons (.tup (SqT.of (r2 _ _ upd_same)) (.cons (.int _) (.cons (.int _) (.cons (.int _) (.cons (.int _) .nil))))) (.cons (.int _) (.cons (.int _) (.cons (.int _) (.cons (.int _) (.cons (.int _) (.cons (.int _) (.cons (.int _) (.cons (.int _) .nil)))))))))),
        lim.1, lim.2.1, lim.2.2, rfl, false, ?_, q' _ ((s1.trans r1).trans r2)⟩
      show V.bl (!decide (V.str limD.shown = V.str limD.shown)) = V.bl false
      rw [decide_eq_true rfl]
      rfl
    · have hS1 : SqL K H1 a (ns.map V.int) := (s0.trans s1).seq hS
      refine ⟨.ref a, rfl, a, _, rfl, .inl hS1, ?_⟩
      refine ⟨_, _, rfl, _, _, rfl, ?_⟩
      have hlenV : ((ns.map V.int).length : Nat) = ns.length := List.length_map _
      rw [hlenV]
      generalize hm : (if (if (5 : Int) < ((ns.length : Nat) : Int) then (5 : Int) else ((ns.length : Nat) : Int)) > 2 then (if (5 : Int) < ((ns.length : Nat) : Int) then (5 : Int) else ((ns.length : Nat) : Int)) else 2) = m
      have hm2 : 2 ≤ m ∧ m ≤ 5 := by
        rw [← hm]
        split
        · split <;> omega
        · omega
      obtain ⟨n, en⟩ : ∃ n : Nat, m = (n : Int) := ⟨m.toNat, by omega⟩
      subst en
      refine ⟨(n : Int), rfl, by omega, by omega, fun D hD => ?_⟩
      have e0 : ((n : Int)).toNat = n := by omega
      rw [e0]
      refine lc_range (lo := 0) (n := n) (fun i H' => Same H1 H' ∧ H' D = some (.lst ((List.replicate i true).map V.bl))) ⟨same_of hD, upd_same⟩ (fun i H' hi z => ?_) (fun H' z => ?_)
      · obtain ⟨sb, hlD⟩ := z
        have e1 : (0 : Int) + (i : Int) = (i : Int) := Int.zero_add _
        rw [e1]
        refine ⟨rfl, ?_⟩
        refine ⟨_, rfl, _, rfl, a, ns, (i : Int), rfl, sb.seq hS1, hlen, hbits, by omega, by omega, fun H2 p s2 np hp => ⟨p, rfl, hp, fun H3 bt => ?_⟩⟩
        have pD : D ≠ p := fun e => by rw [e, np] at hlD; cases hlD
        refine ⟨_, bt D _ pD (s2 _ _ hlD), ?_, fun b o e => ?_, ?_⟩
        · rw [List.length_map, List.length_replicate]
          exact small1000 (by omega)
        · have nb : b ≠ D := fun z => by rw [z, hD] at e; cases e
          have npb : b ≠ p := fun z => by
            have := sb _ _ e
            rw [z, np] at this
            cases this
          rw [upd_ne nb]
          exact bt b _ npb (s2 _ _ (sb _ _ e))
        · rw [upd_same, List.replicate_succ', List.map_append]
          rfl
      · refine ⟨D, List.replicate n true, rfl, SqL.of z.2, ?_⟩
        have e : (List.replicate n true).all id = true := by
          rw [List.all_eq_true]
          intro b hb
          exact (List.eq_of_mem_replicate hb)
        rw [e]
        exact q _
end
end Lamp
set_option Elab.async false
set_option linter.all false
set_option maxRecDepth 100000
set_option maxHeartbeats 2000000
namespace Lamp
open PySem PySem.Spec PyProof.Rows L2
/-! what the top has written, as one answer -/
def tailOf : Nat → List Value
  | 0 => [.type "ValueError", .type "Exception", .type "BaseException", .type "object"]
  | 1 => [.type "LookupError", .type "Exception", .type "BaseException", .type "object"]
  | _ => [.type "ArithmeticError", .type "Exception", .type "BaseException", .type "object"]
def newOf : Nat → String
  | 0 => "ValueError.__new__"
  | 1 => "LookupError.__new__"
  | _ => "ArithmeticError.__new__"
def ecB (K : PySem.W.Frag) (C : Addr) (b : Nat) : Bool :=
  PySem.W.excInitIn K C (tailOf b) (newOf b) && (PySem.W.excOver K C (tailOf b) && (decide (PySem.W.findIn K (.ref C) "__setattr__" = some (some (.builtin "object.__setattr__"))) && (decide (PySem.W.findIn K (.ref C) "__getattribute__" = some (some (.builtin "BaseException.__getattribute__"))) &&
    (decide (PySem.W.findIn K (.ref C) "__getattr__" = some none) && (decide (PySem.W.subIn K (.ref C) (.type "BaseException") = some true) && (PySem.W.hasDictIn K C && (PySem.W.keepIn K (.ref C) &&
      (decide (PySem.W.findIn K (.ref C) "__class__" = some (some (.builtin "object.__class__"))) && decide (PySem.W.mroIn K C (.type "object") = some true)))))))))
theorem ecB_ok {K : PySem.W.Frag} {C : Addr} : ∀ {b : Nat}, ecB K C b = true → ∃ (B newId initId : String) (tail : List Value), EC K C B newId initId tail ∧ newId = newOf b ∧ tail = tailOf b := fun {b} h => by
  unfold ecB at h
  simp only [Bool.and_eq_true, decide_eq_true_eq] at h
  obtain ⟨h1, h2, h3, h4, h5, h6, h7, h8, h9, h10⟩ := h
  match b, h1, h2 with
  | 0, h1, h2 => exact ⟨_, _, _, _, ⟨PySem.F.excBase_ValueError, PySem.F.store_ValueError, h1, h2, h3, h4, h5, h6, h7, h8, h9, h10⟩, rfl, rfl⟩
  | 1, h1, h2 => exact ⟨_, _, _, _, ⟨PySem.F.excBase_LookupError, PySem.F.store_LookupError, h1, h2, h3, h4, h5, h6, h7, h8, h9, h10⟩, rfl, rfl⟩
  | b + 2, h1, h2 => exact ⟨_, _, _, _, ⟨PySem.F.excBase_ArithmeticError, PySem.F.store_ArithmeticError, h1, h2, h3, h4, h5, h6, h7, h8, h9, h10⟩, rfl, rfl⟩
def underB (K : PySem.W.Frag) (bs : Nat → Addr) (C : Addr) (b : Nat) : Bool :=
  decide (PySem.W.kitOne K (.ref C) (.ref (bs 0)) = some (0 == b)) && (decide (PySem.W.kitOne K (.ref C) (.ref (bs 1)) = some (1 == b)) && (decide (PySem.W.kitOne K (.ref C) (.ref (bs 2)) = some (2 == b)) &&
    (decide (PySem.W.kitOne K (.ref C) (.type "ValueError") = some (0 == b)) && (decide (PySem.W.kitOne K (.ref C) (.type "LookupError") = some (1 == b)) && decide (PySem.W.kitOne K (.ref C) (.type "ArithmeticError") = some (2 == b))))))
theorem underB_ok {K : PySem.W.Frag} {bs : Nat → Addr} {C : Addr} {b : Nat} (h : underB K bs C b = true) : Under K bs C b := by
  unfold underB at h
  simp only [Bool.and_eq_true, decide_eq_true_eq] at h
  obtain ⟨h1, h2, h3, h4, h5, h6⟩ := h
  exact ⟨h1, h2, h3, h4, h5, h6⟩
/-- an exception class with an __init__ at f -/
def initB (K : PySem.W.Frag) (C f : Addr) (nm : Str) : Bool :=
  decide (PySem.W.findIn K (.ref C) nm = some none) && (decide (PySem.W.findIn K (.ref C) "__init__" = some (some (.ref f))) && decide (PySem.W.typeIn K (.ref f) = some (.type "function")))
def classB (K : PySem.W.Frag) (cs bs fs : Nat → Addr) (k : Nat) : Bool :=
  ecB K (cs k) (baseOf k) && (underB K bs (cs k) (baseOf k) && ((List.range 21).all (fun j => decide (PySem.W.kitOne K (.ref (cs k)) (.ref (cs j)) = some (j == k))) &&
    (if k = 19 then PySem.W.excIn K (cs k) (tailOf (baseOf k)) (newOf (baseOf k)) else initB K (cs k) (fs k) (fieldOf k))))
def baseB (K : PySem.W.Frag) (bs : Nat → Addr) (k : Nat) : Bool := ecB K (bs k) k && (underB K bs (bs k) k && PySem.W.excIn K (bs k) (tailOf k) (newOf k))
def noneB (K : PySem.W.Frag) : Bool := (["int", "divmod", "len", "abs", "isinstance", "ValueError", "LookupError", "ArithmeticError", "range", "repr", "all", "max", "min"] : List Str).all fun n => decide (PySem.W.nsIn K mainGlobals n = some none)
def metaB (K : PySem.W.Frag) : Bool := decide (PySem.W.specialIn K (.builtin "object.__class__") "__get__" = some (some (.builtin "getset_descriptor.__get__"))) && decide (PySem.W.takesIn K (.builtin "object.__class__") = some true)
/-- all of it -/
def wholeB (K : PySem.W.Frag) (cs bs fs : Nat → Addr) : Bool := (List.range 21).all (fun k => classB K cs bs fs k) && ((List.range 3).all (fun k => baseB K bs k) && (noneB K && metaB K))
theorem xc_mk {P : Program} {w : World} {K : PySem.W.Frag} {mg : Str → Option Value} {C fI : Addr} {x f : Str} {b : Nat} {fd : FuncData} (h1 : ecB K C b = true) (h2 : initB K C fI f = true) (hm : mg x = some (.ref C)) (F1 : ∀ base : Heap, FnOk P w K mg base CX0 1 fI fd ["self", f] (spInit K C f))
    (p1 : ∀ (s : Shared) (v u : Value), K.In s.heap → BindsTo s fd ⟨[v, u], []⟩ [("self", v), (f, u)]) (p2 : ∀ (s : Shared) (v u : Value), K.In s.heap → BindsTo s fd ⟨[v], [(f, u)]⟩ [("self", v), (f, u)]) : XC P w K mg C x f := by
  obtain ⟨B, n, i, t, T, _⟩ := ecB_ok h1
  unfold initB at h2
  simp only [Bool.and_eq_true, decide_eq_true_eq] at h2
  obtain ⟨g1, g2, g3⟩ := h2
  refine ⟨⟨B, n, i, t, T⟩, hm, g1, fI, fd, g2, g3, ?_, F1, p1, p2⟩
  unfold PySem.W.takerIn
  rw [g1]
  rfl
theorem xn_mk {K : PySem.W.Frag} {mg : Str → Option Value} {C : Addr} {x : Str} {b : Nat} (h1 : ecB K C b = true) (h2 : PySem.W.excIn K C (tailOf b) (newOf b) = true) (hm : mg x = some (.ref C)) : XN K mg C x := by
  obtain ⟨B, n, i, t, T, e1, e2⟩ := ecB_ok h1
  subst e1 e2
  exact ⟨⟨B, _, i, _, T, h2⟩, hm⟩
section
variable {P : Program} {w : World} {K : PySem.W.Frag} {mg : Str → Option Value} {cs bs fs : Nat → Addr}
theorem whole_class (h : wholeB K cs bs fs = true) {k : Nat} (hk : k < 21) : classB K cs bs fs k = true := by
  unfold wholeB at h
  rw [Bool.and_eq_true, List.all_eq_true] at h
  exact h.1 k (List.mem_range.mpr hk)
theorem whole_base (h : wholeB K cs bs fs = true) {k : Nat} (hk : k < 3) : baseB K bs k = true := by
  unfold wholeB at h
  rw [Bool.and_eq_true, Bool.and_eq_true, List.all_eq_true, List.all_eq_true] at h
  exact h.2.1 k (List.mem_range.mpr hk)
theorem whole_none (h : wholeB K cs bs fs = true) {n : Str} (hn : n ∈ (["int", "divmod", "len", "abs", "isinstance", "ValueError", "LookupError", "ArithmeticError", "range", "repr", "all", "max", "min"] : List Str)) : PySem.W.nsIn K mainGlobals n = some none := by
  unfold wholeB at h
  rw [Bool.and_eq_true, Bool.and_eq_true, Bool.and_eq_true] at h
  have z := h.2.2.1
  unfold noneB at z
  rw [List.all_eq_true] at z
  exact of_decide_eq_true (z n hn)
theorem whole_meta (h : wholeB K cs bs fs = true) : ClsG K := by
  unfold wholeB at h
  rw [Bool.and_eq_true, Bool.and_eq_true, Bool.and_eq_true] at h
  have z := h.2.2.2
  unfold metaB at z
  rw [Bool.and_eq_true] at z
  exact ⟨of_decide_eq_true z.1, of_decide_eq_true z.2⟩
theorem class_parts {k : Nat} (h : classB K cs bs fs k = true) : ecB K (cs k) (baseOf k) = true ∧ underB K bs (cs k) (baseOf k) = true ∧ (∀ j, j < 21 → PySem.W.kitOne K (.ref (cs k)) (.ref (cs j)) = some (j == k)) ∧
    (if k = 19 then PySem.W.excIn K (cs k) (tailOf (baseOf k)) (newOf (baseOf k)) else initB K (cs k) (fs k) (fieldOf k)) = true := by
  unfold classB at h
  rw [Bool.and_eq_true, Bool.and_eq_true, Bool.and_eq_true, List.all_eq_true] at h
  exact ⟨h.1, h.2.1, fun j hj => of_decide_eq_true (h.2.2.1 j (List.mem_range.mpr hj)), h.2.2.2⟩
theorem class_init {k : Nat} (h : classB K cs bs fs k = true) (hk : k ≠ 19) : initB K (cs k) (fs k) (fieldOf k) = true := by
  have z := (class_parts h).2.2.2
  rw [if_neg hk] at z
  exact z
end
abbrev sI0 : Stmt := inClass (top 2) 0
theorem scI0 : FnScope ["self", "given"] ["self", "given"] (defScope sI0) := ⟨rfl, rfl, rfl, by decide +kernel, rfl, by decide +kernel, by decide +kernel⟩
abbrev sI1 : Stmt := inClass (top 3) 0
theorem scI1 : FnScope ["self", "given"] ["self", "given"] (defScope sI1) := ⟨rfl, rfl, rfl, by decide +kernel, rfl, by decide +kernel, by decide +kernel⟩
abbrev sI2 : Stmt := inClass (top 4) 0
theorem scI2 : FnScope ["self", "given"] ["self", "given"] (defScope sI2) := ⟨rfl, rfl, rfl, by decide +kernel, rfl, by decide +kernel, by decide +kernel⟩
abbrev sI3 : Stmt := inClass (top 5) 0
theorem scI3 : FnScope ["self", "given"] ["self", "given"] (defScope sI3) := ⟨rfl, rfl, rfl, by decide +kernel, rfl, by decide +kernel, by decide +kernel⟩
abbrev sI4 : Stmt := inClass (top 6) 0
theorem scI4 : FnScope ["self", "given"] ["self", "given"] (defScope sI4) := ⟨rfl, rfl, rfl, by decide +kernel, rfl, by decide +kernel, by decide +kernel⟩
abbrev sI5 : Stmt := inClass (top 7) 0
theorem scI5 : FnScope ["self", "given"] ["self", "given"] (defScope sI5) := ⟨rfl, rfl, rfl, by decide +kernel, rfl, by decide +kernel, by decide +kernel⟩
abbrev sI6 : Stmt := inClass (top 8) 0
theorem scI6 : FnScope ["self", "given"] ["self", "given"] (defScope sI6) := ⟨rfl, rfl, rfl, by decide +kernel, rfl, by decide +kernel, by decide +kernel⟩
abbrev sI7 : Stmt := inClass (top 9) 0
theorem scI7 : FnScope ["self", "given"] ["self", "given"] (defScope sI7) := ⟨rfl, rfl, rfl, by decide +kernel, rfl, by decide +kernel, by decide +kernel⟩
abbrev sI8 : Stmt := inClass (top 10) 0
theorem scI8 : FnScope ["self", "index"] ["self", "index"] (defScope sI8) := ⟨rfl, rfl, rfl, by decide +kernel, rfl, by decide +kernel, by decide +kernel⟩
abbrev sI9 : Stmt := inClass (top 11) 0
theorem scI9 : FnScope ["self", "index"] ["self", "index"] (defScope sI9) := ⟨rfl, rfl, rfl, by decide +kernel, rfl, by decide +kernel, by decide +kernel⟩
abbrev sI10 : Stmt := inClass (top 12) 0
theorem scI10 : FnScope ["self", "index"] ["self", "index"] (defScope sI10) := ⟨rfl, rfl, rfl, by decide +kernel, rfl, by decide +kernel, by decide +kernel⟩
abbrev sI11 : Stmt := inClass (top 13) 0
theorem scI11 : FnScope ["self", "index"] ["self", "index"] (defScope sI11) := ⟨rfl, rfl, rfl, by decide +kernel, rfl, by decide +kernel, by decide +kernel⟩
abbrev sI12 : Stmt := inClass (top 14) 0
theorem scI12 : FnScope ["self", "index"] ["self", "index"] (defScope sI12) := ⟨rfl, rfl, rfl, by decide +kernel, rfl, by decide +kernel, by decide +kernel⟩
abbrev sI13 : Stmt := inClass (top 15) 0
theorem scI13 : FnScope ["self", "index"] ["self", "index"] (defScope sI13) := ⟨rfl, rfl, rfl, by decide +kernel, rfl, by decide +kernel, by decide +kernel⟩
abbrev sI14 : Stmt := inClass (top 17) 0
theorem scI14 : FnScope ["self", "given"] ["self", "given"] (defScope sI14) := ⟨rfl, rfl, rfl, by decide +kernel, rfl, by decide +kernel, by decide +kernel⟩
abbrev sI15 : Stmt := inClass (top 18) 0
theorem scI15 : FnScope ["self", "index"] ["self", "index"] (defScope sI15) := ⟨rfl, rfl, rfl, by decide +kernel, rfl, by decide +kernel, by decide +kernel⟩
abbrev sI16 : Stmt := inClass (top 20) 0
theorem scI16 : FnScope ["self", "given"] ["self", "given"] (defScope sI16) := ⟨rfl, rfl, rfl, by decide +kernel, rfl, by decide +kernel, by decide +kernel⟩
abbrev sI17 : Stmt := inClass (top 21) 0
theorem scI17 : FnScope ["self", "given"] ["self", "given"] (defScope sI17) := ⟨rfl, rfl, rfl, by decide +kernel, rfl, by decide +kernel, by decide +kernel⟩
abbrev sI18 : Stmt := inClass (top 22) 0
theorem scI18 : FnScope ["self", "given"] ["self", "given"] (defScope sI18) := ⟨rfl, rfl, rfl, by decide +kernel, rfl, by decide +kernel, by decide +kernel⟩
abbrev sI20 : Stmt := inClass (top 24) 0
theorem scI20 : FnScope ["self", "index"] ["self", "index"] (defScope sI20) := ⟨rfl, rfl, rfl, by decide +kernel, rfl, by decide +kernel, by decide +kernel⟩
theorem all_mk {P : Program} {w : World} {K : PySem.W.Frag} {h : Heap} {mg : Str → Option Value} {fa : Addr} (X : K.In h) (G : h.Ns mainGlobals mg) (hfa : mg "law" = some (.ref fa))
    {B0 B1 B2 C0 C1 C2 C3 C4 C5 C6 C7 C8 C9 C10 C11 C12 C13 C14 C15 C16 C17 C18 C19 C20 I0 I1 I2 I3 I4 I5 I6 I7 I8 I9 I10 I11 I12 I13 I14 I15 I16 I17 I18 I20 f0 f1 f2 f3 f4 f5 f6 f7 f8 f9 f10 f11 aL : Addr} {ocI0 kVI0 dcI0 pmI0 cdI0 ctI0 ocI1 kVI1 dcI1 pmI1 cdI1 ctI1 ocI2 kVI2 dcI2 pmI2 cdI2 ctI2 ocI3 kVI3 dcI3 pmI3 cdI3 ctI3 ocI4 kVI4 dcI4 pmI4 cdI4 ctI4 ocI5 kVI5 dcI5 pmI5 cdI5 ctI5 ocI6 kVI6 dcI6 pmI6 cdI6 ctI6 ocI7 kVI7 dcI7 pmI7 cdI7 ctI7 ocI8 kVI8 dcI8 pmI8 cdI8 ctI8 ocI9 kVI9 dcI9 pmI9 cdI9 ctI9 ocI10 kVI10 dcI10 pmI10 cdI10 ctI10 ocI11 kVI11 dcI11 pmI11 cdI11 ctI11 ocI12 kVI12 dcI12 pmI12 cdI12 ctI12 ocI13 kVI13 dcI13 pmI13 cdI13 ctI13 ocI14 kVI14 dcI14 pmI14 cdI14 ctI14 ocI15 kVI15 dcI15 pmI15 cdI15 ctI15 ocI16 kVI16 dcI16 pmI16 cdI16 ctI16 ocI17 kVI17 dcI17 pmI17 cdI17 ctI17 ocI18 kVI18 dcI18 pmI18 cdI18 ctI18 ocI20 kVI20 dcI20 pmI20 cdI20 ctI20 oc0 kV0 dc0 pm0 cd0 ct0 oc1 kV1 dc1 pm1 cd1 ct1 oc2 kV2 dc2 pm2 cd2 ct2 oc3 kV3 dc3 pm3 cd3 ct3 oc4 kV4 dc4 pm4 cd4 ct4 oc5 kV5 dc5 pm5 cd5 ct5 oc6 kV6 dc6 pm6 cd6 ct6 oc7 kV7 dc7 pm7 cd7 ct7 oc8 kV8 dc8 pm8 cd8 ct8 oc9 kV9 dc9 pm9 cd9 ct9 oc10 kV10 dc10 pm10 cd10 ct10 oc11 kV11 dc11 pm11 cd11 ct11 : Value} {odI0 anI0 odI1 anI1 odI2 anI2 odI3 anI3 odI4 anI4 odI5 anI5 odI6 anI6 odI7 anI7 odI8 anI8 odI9 anI9 odI10 anI10 odI11 anI11 odI12 anI12 odI13 anI13 odI14 anI14 odI15 anI15 odI16 anI16 odI17 anI17 odI18 anI18 odI20 anI20 od0 an0 od1 an1 od2 an2 od3 an3 od4 an4 od5 an5 od6 an6 od7 an7 od8 an8 od9 an9 od10 an10 od11 an11 odL : Option Addr} {slI0 slI1 slI2 slI3 slI4 slI5 slI6 slI7 slI8 slI9 slI10 slI11 slI12 slI13 slI14 slI15 slI16 slI17 slI18 slI20 sl0 sl1 sl2 sl3 sl4 sl5 sl6 sl7 sl8 sl9 sl10 sl11 slL : Array (Option Value)} {tL0 tL1 tL2 tL3 tm0 tm1 tm2 tm3 tm4 tm5 tm6 tm7 : Tok} {nL0 : Nat}
    (nb0 : PySem.W.nsIn K mainGlobals "WrongValue" = some (some (.ref B0)))
    (nb1 : PySem.W.nsIn K mainGlobals "WrongName" = some (some (.ref B1)))
    (nb2 : PySem.W.nsIn K mainGlobals "NotPossible" = some (some (.ref B2)))
    (nc0 : PySem.W.nsIn K mainGlobals "InvalidText" = some (some (.ref C0)))
    (nc1 : PySem.W.nsIn K mainGlobals "InvalidName" = some (some (.ref C1)))
    (nc2 : PySem.W.nsIn K mainGlobals "InvalidIndex" = some (some (.ref C2)))
    (nc3 : PySem.W.nsIn K mainGlobals "InvalidLevels" = some (some (.ref C3)))
    (nc4 : PySem.W.nsIn K mainGlobals "InvalidNumber" = some (some (.ref C4)))
    (nc5 : PySem.W.nsIn K mainGlobals "InvalidWish" = some (some (.ref C5)))
    (nc6 : PySem.W.nsIn K mainGlobals "NotRound" = some (some (.ref C6)))
    (nc7 : PySem.W.nsIn K mainGlobals "NotLot" = some (some (.ref C7)))
    (nc8 : PySem.W.nsIn K mainGlobals "InvalidLamps" = some (some (.ref C8)))
    (nc9 : PySem.W.nsIn K mainGlobals "InvalidRounds" = some (some (.ref C9)))
    (nc10 : PySem.W.nsIn K mainGlobals "InvalidSteps" = some (some (.ref C10)))
    (nc11 : PySem.W.nsIn K mainGlobals "InvalidPlan" = some (some (.ref C11)))
    (nc12 : PySem.W.nsIn K mainGlobals "InvalidChanges" = some (some (.ref C12)))
    (nc13 : PySem.W.nsIn K mainGlobals "InvalidWishes" = some (some (.ref C13)))
    (nc14 : PySem.W.nsIn K mainGlobals "UnknownName" = some (some (.ref C14)))
    (nc15 : PySem.W.nsIn K mainGlobals "InUse" = some (some (.ref C15)))
    (nc16 : PySem.W.nsIn K mainGlobals "OtherLevels" = some (some (.ref C16)))
    (nc17 : PySem.W.nsIn K mainGlobals "TooMany" = some (some (.ref C17)))
    (nc18 : PySem.W.nsIn K mainGlobals "TooFar" = some (some (.ref C18)))
    (nc19 : PySem.W.nsIn K mainGlobals "NothingToUndo" = some (some (.ref C19)))
    (nc20 : PySem.W.nsIn K mainGlobals "Broken" = some (some (.ref C20)))
    (fi0 : PySem.W.findIn K (.ref C0) "__init__" = some (some (.ref I0)))
    (fi1 : PySem.W.findIn K (.ref C1) "__init__" = some (some (.ref I1)))
    (fi2 : PySem.W.findIn K (.ref C2) "__init__" = some (some (.ref I2)))
    (fi3 : PySem.W.findIn K (.ref C3) "__init__" = some (some (.ref I3)))
    (fi4 : PySem.W.findIn K (.ref C4) "__init__" = some (some (.ref I4)))
    (fi5 : PySem.W.findIn K (.ref C5) "__init__" = some (some (.ref I5)))
    (fi6 : PySem.W.findIn K (.ref C6) "__init__" = some (some (.ref I6)))
    (fi7 : PySem.W.findIn K (.ref C7) "__init__" = some (some (.ref I7)))
    (fi8 : PySem.W.findIn K (.ref C8) "__init__" = some (some (.ref I8)))
    (fi9 : PySem.W.findIn K (.ref C9) "__init__" = some (some (.ref I9)))
    (fi10 : PySem.W.findIn K (.ref C10) "__init__" = some (some (.ref I10)))
    (fi11 : PySem.W.findIn K (.ref C11) "__init__" = some (some (.ref I11)))
    (fi12 : PySem.W.findIn K (.ref C12) "__init__" = some (some (.ref I12)))
    (fi13 : PySem.W.findIn K (.ref C13) "__init__" = some (some (.ref I13)))
    (fi14 : PySem.W.findIn K (.ref C14) "__init__" = some (some (.ref I14)))
    (fi15 : PySem.W.findIn K (.ref C15) "__init__" = some (some (.ref I15)))
    (fi16 : PySem.W.findIn K (.ref C16) "__init__" = some (some (.ref I16)))
    (fi17 : PySem.W.findIn K (.ref C17) "__init__" = some (some (.ref I17)))
    (fi18 : PySem.W.findIn K (.ref C18) "__init__" = some (some (.ref I18)))
    (fi20 : PySem.W.findIn K (.ref C20) "__init__" = some (some (.ref I20)))
    (li0 : K.lookup I0 = some ⟨ocI0, odI0, .func (PySem.W.fnOf "__init__" "InvalidText.__init__" (defArgs sI0) (defBody sI0) (defScope sI0) .none kVI0 dcI0 pmI0 anI0 cdI0 ctI0), slI0⟩)
    (ci0 : PySem.W.codeIn K cdI0 "InvalidText.__init__" = true)
    (ki0 : PySem.W.keepIn K (.ref I0) = true)
    (li1 : K.lookup I1 = some ⟨ocI1, odI1, .func (PySem.W.fnOf "__init__" "InvalidName.__init__" (defArgs sI1) (defBody sI1) (defScope sI1) .none kVI1 dcI1 pmI1 anI1 cdI1 ctI1), slI1⟩)
    (ci1 : PySem.W.codeIn K cdI1 "InvalidName.__init__" = true)
    (ki1 : PySem.W.keepIn K (.ref I1) = true)
    (li2 : K.lookup I2 = some ⟨ocI2, odI2, .func (PySem.W.fnOf "__init__" "InvalidIndex.__init__" (defArgs sI2) (defBody sI2) (defScope sI2) .none kVI2 dcI2 pmI2 anI2 cdI2 ctI2), slI2⟩)
    (ci2 : PySem.W.codeIn K cdI2 "InvalidIndex.__init__" = true)
    (ki2 : PySem.W.keepIn K (.ref I2) = true)
    (li3 : K.lookup I3 = some ⟨ocI3, odI3, .func (PySem.W.fnOf "__init__" "InvalidLevels.__init__" (defArgs sI3) (defBody sI3) (defScope sI3) .none kVI3 dcI3 pmI3 anI3 cdI3 ctI3), slI3⟩)
    (ci3 : PySem.W.codeIn K cdI3 "InvalidLevels.__init__" = true)
    (ki3 : PySem.W.keepIn K (.ref I3) = true)
    (li4 : K.lookup I4 = some ⟨ocI4, odI4, .func (PySem.W.fnOf "__init__" "InvalidNumber.__init__" (defArgs sI4) (defBody sI4) (defScope sI4) .none kVI4 dcI4 pmI4 anI4 cdI4 ctI4), slI4⟩)
    (ci4 : PySem.W.codeIn K cdI4 "InvalidNumber.__init__" = true)
    (ki4 : PySem.W.keepIn K (.ref I4) = true)
    (li5 : K.lookup I5 = some ⟨ocI5, odI5, .func (PySem.W.fnOf "__init__" "InvalidWish.__init__" (defArgs sI5) (defBody sI5) (defScope sI5) .none kVI5 dcI5 pmI5 anI5 cdI5 ctI5), slI5⟩)
    (ci5 : PySem.W.codeIn K cdI5 "InvalidWish.__init__" = true)
    (ki5 : PySem.W.keepIn K (.ref I5) = true)
    (li6 : K.lookup I6 = some ⟨ocI6, odI6, .func (PySem.W.fnOf "__init__" "NotRound.__init__" (defArgs sI6) (defBody sI6) (defScope sI6) .none kVI6 dcI6 pmI6 anI6 cdI6 ctI6), slI6⟩)
    (ci6 : PySem.W.codeIn K cdI6 "NotRound.__init__" = true)
    (ki6 : PySem.W.keepIn K (.ref I6) = true)
    (li7 : K.lookup I7 = some ⟨ocI7, odI7, .func (PySem.W.fnOf "__init__" "NotLot.__init__" (defArgs sI7) (defBody sI7) (defScope sI7) .none kVI7 dcI7 pmI7 anI7 cdI7 ctI7), slI7⟩)
    (ci7 : PySem.W.codeIn K cdI7 "NotLot.__init__" = true)
    (ki7 : PySem.W.keepIn K (.ref I7) = true)
    (li8 : K.lookup I8 = some ⟨ocI8, odI8, .func (PySem.W.fnOf "__init__" "InvalidLamps.__init__" (defArgs sI8) (defBody sI8) (defScope sI8) .none kVI8 dcI8 pmI8 anI8 cdI8 ctI8), slI8⟩)
    (ci8 : PySem.W.codeIn K cdI8 "InvalidLamps.__init__" = true)
    (ki8 : PySem.W.keepIn K (.ref I8) = true)
    (li9 : K.lookup I9 = some ⟨ocI9, odI9, .func (PySem.W.fnOf "__init__" "InvalidRounds.__init__" (defArgs sI9) (defBody sI9) (defScope sI9) .none kVI9 dcI9 pmI9 anI9 cdI9 ctI9), slI9⟩)
    (ci9 : PySem.W.codeIn K cdI9 "InvalidRounds.__init__" = true)
    (ki9 : PySem.W.keepIn K (.ref I9) = true)
    (li10 : K.lookup I10 = some ⟨ocI10, odI10, .func (PySem.W.fnOf "__init__" "InvalidSteps.__init__" (defArgs sI10) (defBody sI10) (defScope sI10) .none kVI10 dcI10 pmI10 anI10 cdI10 ctI10), slI10⟩)
    (ci10 : PySem.W.codeIn K cdI10 "InvalidSteps.__init__" = true)
    (ki10 : PySem.W.keepIn K (.ref I10) = true)
    (li11 : K.lookup I11 = some ⟨ocI11, odI11, .func (PySem.W.fnOf "__init__" "InvalidPlan.__init__" (defArgs sI11) (defBody sI11) (defScope sI11) .none kVI11 dcI11 pmI11 anI11 cdI11 ctI11), slI11⟩)
    (ci11 : PySem.W.codeIn K cdI11 "InvalidPlan.__init__" = true)
    (ki11 : PySem.W.keepIn K (.ref I11) = true)
    (li12 : K.lookup I12 = some ⟨ocI12, odI12, .func (PySem.W.fnOf "__init__" "InvalidChanges.__init__" (defArgs sI12) (defBody sI12) (defScope sI12) .none kVI12 dcI12 pmI12 anI12 cdI12 ctI12), slI12⟩)
    (ci12 : PySem.W.codeIn K cdI12 "InvalidChanges.__init__" = true)
    (ki12 : PySem.W.keepIn K (.ref I12) = true)
    (li13 : K.lookup I13 = some ⟨ocI13, odI13, .func (PySem.W.fnOf "__init__" "InvalidWishes.__init__" (defArgs sI13) (defBody sI13) (defScope sI13) .none kVI13 dcI13 pmI13 anI13 cdI13 ctI13), slI13⟩)
    (ci13 : PySem.W.codeIn K cdI13 "InvalidWishes.__init__" = true)
    (ki13 : PySem.W.keepIn K (.ref I13) = true)
    (li14 : K.lookup I14 = some ⟨ocI14, odI14, .func (PySem.W.fnOf "__init__" "UnknownName.__init__" (defArgs sI14) (defBody sI14) (defScope sI14) .none kVI14 dcI14 pmI14 anI14 cdI14 ctI14), slI14⟩)
    (ci14 : PySem.W.codeIn K cdI14 "UnknownName.__init__" = true)
    (ki14 : PySem.W.keepIn K (.ref I14) = true)
    (li15 : K.lookup I15 = some ⟨ocI15, odI15, .func (PySem.W.fnOf "__init__" "InUse.__init__" (defArgs sI15) (defBody sI15) (defScope sI15) .none kVI15 dcI15 pmI15 anI15 cdI15 ctI15), slI15⟩)
    (ci15 : PySem.W.codeIn K cdI15 "InUse.__init__" = true)
    (ki15 : PySem.W.keepIn K (.ref I15) = true)
    (li16 : K.lookup I16 = some ⟨ocI16, odI16, .func (PySem.W.fnOf "__init__" "OtherLevels.__init__" (defArgs sI16) (defBody sI16) (defScope sI16) .none kVI16 dcI16 pmI16 anI16 cdI16 ctI16), slI16⟩)
    (ci16 : PySem.W.codeIn K cdI16 "OtherLevels.__init__" = true)
    (ki16 : PySem.W.keepIn K (.ref I16) = true)
    (li17 : K.lookup I17 = some ⟨ocI17, odI17, .func (PySem.W.fnOf "__init__" "TooMany.__init__" (defArgs sI17) (defBody sI17) (defScope sI17) .none kVI17 dcI17 pmI17 anI17 cdI17 ctI17), slI17⟩)
    (ci17 : PySem.W.codeIn K cdI17 "TooMany.__init__" = true)
    (ki17 : PySem.W.keepIn K (.ref I17) = true)
    (li18 : K.lookup I18 = some ⟨ocI18, odI18, .func (PySem.W.fnOf "__init__" "TooFar.__init__" (defArgs sI18) (defBody sI18) (defScope sI18) .none kVI18 dcI18 pmI18 anI18 cdI18 ctI18), slI18⟩)
    (ci18 : PySem.W.codeIn K cdI18 "TooFar.__init__" = true)
    (ki18 : PySem.W.keepIn K (.ref I18) = true)
    (li20 : K.lookup I20 = some ⟨ocI20, odI20, .func (PySem.W.fnOf "__init__" "Broken.__init__" (defArgs sI20) (defBody sI20) (defScope sI20) .none kVI20 dcI20 pmI20 anI20 cdI20 ctI20), slI20⟩)
    (ci20 : PySem.W.codeIn K cdI20 "Broken.__init__" = true)
    (ki20 : PySem.W.keepIn K (.ref I20) = true)
    (nf0 : PySem.W.nsIn K mainGlobals "_law_begun" = some (some (.ref f0)))
    (lf0 : K.lookup f0 = some ⟨oc0, od0, .func (PySem.W.fnOf "_law_begun" "_law_begun" (defArgs sBegun) (defBody sBegun) (defScope sBegun) .none kV0 dc0 pm0 an0 cd0 ct0), sl0⟩)
    (cf0 : PySem.W.codeIn K cd0 "_law_begun" = true)
    (kf0 : PySem.W.keepIn K (.ref f0) = true)
    (nf1 : PySem.W.nsIn K mainGlobals "_law_cast" = some (some (.ref f1)))
    (lf1 : K.lookup f1 = some ⟨oc1, od1, .func (PySem.W.fnOf "_law_cast" "_law_cast" (defArgs sCast) (defBody sCast) (defScope sCast) .none kV1 dc1 pm1 an1 cd1 ct1), sl1⟩)
    (cf1 : PySem.W.codeIn K cd1 "_law_cast" = true)
    (kf1 : PySem.W.keepIn K (.ref f1) = true)
    (nf2 : PySem.W.nsIn K mainGlobals "_law_any_of" = some (some (.ref f2)))
    (lf2 : K.lookup f2 = some ⟨oc2, od2, .func (PySem.W.fnOf "_law_any_of" "_law_any_of" (defArgs sAny) (defBody sAny) (defScope sAny) .none kV2 dc2 pm2 an2 cd2 ct2), sl2⟩)
    (cf2 : PySem.W.codeIn K cd2 "_law_any_of" = true)
    (kf2 : PySem.W.keepIn K (.ref f2) = true)
    (nf3 : PySem.W.nsIn K mainGlobals "_law_thing" = some (some (.ref f3)))
    (lf3 : K.lookup f3 = some ⟨oc3, od3, .func (PySem.W.fnOf "_law_thing" "_law_thing" (defArgs sThing) (defBody sThing) (defScope sThing) .none kV3 dc3 pm3 an3 cd3 ct3), sl3⟩)
    (cf3 : PySem.W.codeIn K cd3 "_law_thing" = true)
    (kf3 : PySem.W.keepIn K (.ref f3) = true)
    (nf4 : PySem.W.nsIn K mainGlobals "_law_placed" = some (some (.ref f4)))
    (lf4 : K.lookup f4 = some ⟨oc4, od4, .func (PySem.W.fnOf "_law_placed" "_law_placed" (defArgs sPlaced) (defBody sPlaced) (defScope sPlaced) .none kV4 dc4 pm4 an4 cd4 ct4), sl4⟩)
    (cf4 : PySem.W.codeIn K cd4 "_law_placed" = true)
    (kf4 : PySem.W.keepIn K (.ref f4) = true)
    (nf5 : PySem.W.nsIn K mainGlobals "_law_named" = some (some (.ref f5)))
    (lf5 : K.lookup f5 = some ⟨oc5, od5, .func (PySem.W.fnOf "_law_named" "_law_named" (defArgs sNamed) (defBody sNamed) (defScope sNamed) .none kV5 dc5 pm5 an5 cd5 ct5), sl5⟩)
    (cf5 : PySem.W.codeIn K cd5 "_law_named" = true)
    (kf5 : PySem.W.keepIn K (.ref f5) = true)
    (nf6 : PySem.W.nsIn K mainGlobals "_law_flags" = some (some (.ref f6)))
    (lf6 : K.lookup f6 = some ⟨oc6, od6, .func (PySem.W.fnOf "_law_flags" "_law_flags" (defArgs sFlags) (defBody sFlags) (defScope sFlags) .none kV6 dc6 pm6 an6 cd6 ct6), sl6⟩)
    (cf6 : PySem.W.codeIn K cd6 "_law_flags" = true)
    (kf6 : PySem.W.keepIn K (.ref f6) = true)
    (nf7 : PySem.W.nsIn K mainGlobals "_law_bases" = some (some (.ref f7)))
    (lf7 : K.lookup f7 = some ⟨oc7, od7, .func (PySem.W.fnOf "_law_bases" "_law_bases" (defArgs sBases) (defBody sBases) (defScope sBases) .none kV7 dc7 pm7 an7 cd7 ct7), sl7⟩)
    (cf7 : PySem.W.codeIn K cd7 "_law_bases" = true)
    (kf7 : PySem.W.keepIn K (.ref f7) = true)
    (nf8 : PySem.W.nsIn K mainGlobals "_law_held" = some (some (.ref f8)))
    (lf8 : K.lookup f8 = some ⟨oc8, od8, .func (PySem.W.fnOf "_law_held" "_law_held" (defArgs sHeld) (defBody sHeld) (defScope sHeld) .none kV8 dc8 pm8 an8 cd8 ct8), sl8⟩)
    (cf8 : PySem.W.codeIn K cd8 "_law_held" = true)
    (kf8 : PySem.W.keepIn K (.ref f8) = true)
    (nf9 : PySem.W.nsIn K mainGlobals "_law_some_right" = some (some (.ref f9)))
    (lf9 : K.lookup f9 = some ⟨oc9, od9, .func (PySem.W.fnOf "_law_some_right" "_law_some_right" (defArgs sSome) (defBody sSome) (defScope sSome) .none kV9 dc9 pm9 an9 cd9 ct9), sl9⟩)
    (cf9 : PySem.W.codeIn K cd9 "_law_some_right" = true)
    (kf9 : PySem.W.keepIn K (.ref f9) = true)
    (nf10 : PySem.W.nsIn K mainGlobals "_law_right" = some (some (.ref f10)))
    (lf10 : K.lookup f10 = some ⟨oc10, od10, .func (PySem.W.fnOf "_law_right" "_law_right" (defArgs sRight) (defBody sRight) (defScope sRight) .none kV10 dc10 pm10 an10 cd10 ct10), sl10⟩)
    (cf10 : PySem.W.codeIn K cd10 "_law_right" = true)
    (kf10 : PySem.W.keepIn K (.ref f10) = true)
    (nf11 : PySem.W.nsIn K mainGlobals "law" = some (some (.ref f11)))
    (lf11 : K.lookup f11 = some ⟨oc11, od11, .func (PySem.W.fnOf "law" "law" (defArgs sLaw) (defBody sLaw) (defScope sLaw) .none kV11 dc11 pm11 an11 cd11 ct11), sl11⟩)
    (cf11 : PySem.W.codeIn K cd11 "law" = true)
    (kf11 : PySem.W.keepIn K (.ref f11) = true)
    (nL : PySem.W.nsIn K mainGlobals "LEVELS" = some (some (.ref aL)))
    (lL : K.lookup aL = some ⟨.type "tuple", odL, .seq #[.int 2 tL0, .int 3 tL1, .int 5 tL2, .int 7 tL3] nL0, slL⟩)
    (nm0 : PySem.W.nsIn K mainGlobals "MOST_LAMPS" = some (some (.int 400 tm0)))
    (nm1 : PySem.W.nsIn K mainGlobals "MOST_STEPS" = some (some (.int 4000 tm1)))
    (nm2 : PySem.W.nsIn K mainGlobals "MOST_ROUNDS" = some (some (.int 4 tm2)))
    (nm3 : PySem.W.nsIn K mainGlobals "MOST_PLACE" = some (some (.int 24 tm3)))
    (nm4 : PySem.W.nsIn K mainGlobals "MOST_END" = some (some (.int 8 tm4)))
    (nm5 : PySem.W.nsIn K mainGlobals "MOST_NEAR" = some (some (.int 40 tm5)))
    (nm6 : PySem.W.nsIn K mainGlobals "MOST_TIMES" = some (some (.int 1000 tm6)))
    (nm7 : PySem.W.nsIn K mainGlobals "MOST_CHANGES" = some (some (.int 6 tm7)))
    (all : wholeB K (fun k => ([C0, C1, C2, C3, C4, C5, C6, C7, C8, C9, C10, C11, C12, C13, C14, C15, C16, C17, C18, C19, C20] : List Addr).getD k 0) (fun k => ([B0, B1, B2] : List Addr).getD k 0) (fun k => ([I0, I1, I2, I3, I4, I5, I6, I7, I8, I9, I10, I11, I12, I13, I14, I15, I16, I17, I18, 0, I20] : List Addr).getD k 0) = true) :
    ∃ fd : FuncData, (∀ (s : Shared) (u : Value), BindsTo s fd ⟨[u], []⟩ [("_law_script", u)]) ∧ ∀ base : Heap, K.In base → base.Ns mainGlobals mg → FnG P w K mg base 5 fa fd ["_law_script"] (spLaw K) := by
  have e := hfa.symm.trans (PySem.W.mg_of X G nf11)
  cases e
  have none := fun {n : Str} hn => PySem.W.mg_none_of X G (whole_none all (n := n) hn)
  have FI0 := fun_mk (st := sI0) li0 ci0 ki0
  have x0 : XC P w K mg C0 "InvalidText" "given" := xc_mk (class_parts (whole_class all (k := 0) (by decide))).1 (class_init (whole_class all (k := 0) (by decide)) (by decide)) (PySem.W.mg_of X G nc0) (fun base => ok_init FI0 scI0 rfl (by decide +kernel) (by decide +kernel) (by decide) (by decide)) (fun s v u _ => .of_eq rfl) (fun s v u _ => .of_eq rfl)
  have FI1 := fun_mk (st := sI1) li1 ci1 ki1
  have x1 : XC P w K mg C1 "InvalidName" "given" := xc_mk (class_parts (whole_class all (k := 1) (by decide))).1 (class_init (whole_class all (k := 1) (by decide)) (by decide)) (PySem.W.mg_of X G nc1) (fun base => ok_init FI1 scI1 rfl (by decide +kernel) (by decide +kernel) (by decide) (by decide)) (fun s v u _ => .of_eq rfl) (fun s v u _ => .of_eq rfl)
  have FI2 := fun_mk (st := sI2) li2 ci2 ki2
  have x2 : XC P w K mg C2 "InvalidIndex" "given" := xc_mk (class_parts (whole_class all (k := 2) (by decide))).1 (class_init (whole_class all (k := 2) (by decide)) (by decide)) (PySem.W.mg_of X G nc2) (fun base => ok_init FI2 scI2 rfl (by decide +kernel) (by decide +kernel) (by decide) (by decide)) (fun s v u _ => .of_eq rfl) (fun s v u _ => .of_eq rfl)
  have FI3 := fun_mk (st := sI3) li3 ci3 ki3
  have x3 : XC P w K mg C3 "InvalidLevels" "given" := xc_mk (class_parts (whole_class all (k := 3) (by decide))).1 (class_init (whole_class all (k := 3) (by decide)) (by decide)) (PySem.W.mg_of X G nc3) (fun base => ok_init FI3 scI3 rfl (by decide +kernel) (by decide +kernel) (by decide) (by decide)) (fun s v u _ => .of_eq rfl) (fun s v u _ => .of_eq rfl)
  have FI4 := fun_mk (st := sI4) li4 ci4 ki4
  have x4 : XC P w K mg C4 "InvalidNumber" "given" := xc_mk (class_parts (whole_class all (k := 4) (by decide))).1 (class_init (whole_class all (k := 4) (by decide)) (by decide)) (PySem.W.mg_of X G nc4) (fun base => ok_init FI4 scI4 rfl (by decide +kernel) (by decide +kernel) (by decide) (by decide)) (fun s v u _ => .of_eq rfl) (fun s v u _ => .of_eq rfl)
  have FI5 := fun_mk (st := sI5) li5 ci5 ki5
  have x5 : XC P w K mg C5 "InvalidWish" "given" := xc_mk (class_parts (whole_class all (k := 5) (by decide))).1 (class_init (whole_class all (k := 5) (by decide)) (by decide)) (PySem.W.mg_of X G nc5) (fun base => ok_init FI5 scI5 rfl (by decide +kernel) (by decide +kernel) (by decide) (by decide)) (fun s v u _ => .of_eq rfl) (fun s v u _ => .of_eq rfl)
  have FI6 := fun_mk (st := sI6) li6 ci6 ki6
  have x6 : XC P w K mg C6 "NotRound" "given" := xc_mk (class_parts (whole_class all (k := 6) (by decide))).1 (class_init (whole_class all (k := 6) (by decide)) (by decide)) (PySem.W.mg_of X G nc6) (fun base => ok_init FI6 scI6 rfl (by decide +kernel) (by decide +kernel) (by decide) (by decide)) (fun s v u _ => .of_eq rfl) (fun s v u _ => .of_eq rfl)
  have FI7 := fun_mk (st := sI7) li7 ci7 ki7
  have x7 : XC P w K mg C7 "NotLot" "given" := xc_mk (class_parts (whole_class all (k := 7) (by decide))).1 (class_init (whole_class all (k := 7) (by decide)) (by decide)) (PySem.W.mg_of X G nc7) (fun base => ok_init FI7 scI7 rfl (by decide +kernel) (by decide +kernel) (by decide) (by decide)) (fun s v u _ => .of_eq rfl) (fun s v u _ => .of_eq rfl)
  have FI8 := fun_mk (st := sI8) li8 ci8 ki8
  have x8 : XC P w K mg C8 "InvalidLamps" "index" := xc_mk (class_parts (whole_class all (k := 8) (by decide))).1 (class_init (whole_class all (k := 8) (by decide)) (by decide)) (PySem.W.mg_of X G nc8) (fun base => ok_init FI8 scI8 rfl (by decide +kernel) (by decide +kernel) (by decide) (by decide)) (fun s v u _ => .of_eq rfl) (fun s v u _ => .of_eq rfl)
  have FI9 := fun_mk (st := sI9) li9 ci9 ki9
  have x9 : XC P w K mg C9 "InvalidRounds" "index" := xc_mk (class_parts (whole_class all (k := 9) (by decide))).1 (class_init (whole_class all (k := 9) (by decide)) (by decide)) (PySem.W.mg_of X G nc9) (fun base => ok_init FI9 scI9 rfl (by decide +kernel) (by decide +kernel) (by decide) (by decide)) (fun s v u _ => .of_eq rfl) (fun s v u _ => .of_eq rfl)
  have FI10 := fun_mk (st := sI10) li10 ci10 ki10
  have x10 : XC P w K mg C10 "InvalidSteps" "index" := xc_mk (class_parts (whole_class all (k := 10) (by decide))).1 (class_init (whole_class all (k := 10) (by decide)) (by decide)) (PySem.W.mg_of X G nc10) (fun base => ok_init FI10 scI10 rfl (by decide +kernel) (by decide +kernel) (by decide) (by decide)) (fun s v u _ => .of_eq rfl) (fun s v u _ => .of_eq rfl)
  have FI11 := fun_mk (st := sI11) li11 ci11 ki11
  have x11 : XC P w K mg C11 "InvalidPlan" "index" := xc_mk (class_parts (whole_class all (k := 11) (by decide))).1 (class_init (whole_class all (k := 11) (by decide)) (by decide)) (PySem.W.mg_of X G nc11) (fun base => ok_init FI11 scI11 rfl (by decide +kernel) (by decide +kernel) (by decide) (by decide)) (fun s v u _ => .of_eq rfl) (fun s v u _ => .of_eq rfl)
  have FI12 := fun_mk (st := sI12) li12 ci12 ki12
  have x12 : XC P w K mg C12 "InvalidChanges" "index" := xc_mk (class_parts (whole_class all (k := 12) (by decide))).1 (class_init (whole_class all (k := 12) (by decide)) (by decide)) (PySem.W.mg_of X G nc12) (fun base => ok_init FI12 scI12 rfl (by decide +kernel) (by decide +kernel) (by decide) (by decide)) (fun s v u _ => .of_eq rfl) (fun s v u _ => .of_eq rfl)
  have FI13 := fun_mk (st := sI13) li13 ci13 ki13
  have x13 : XC P w K mg C13 "InvalidWishes" "index" := xc_mk (class_parts (whole_class all (k := 13) (by decide))).1 (class_init (whole_class all (k := 13) (by decide)) (by decide)) (PySem.W.mg_of X G nc13) (fun base => ok_init FI13 scI13 rfl (by decide +kernel) (by decide +kernel) (by decide) (by decide)) (fun s v u _ => .of_eq rfl) (fun s v u _ => .of_eq rfl)
  have FI14 := fun_mk (st := sI14) li14 ci14 ki14
  have x14 : XC P w K mg C14 "UnknownName" "given" := xc_mk (class_parts (whole_class all (k := 14) (by decide))).1 (class_init (whole_class all (k := 14) (by decide)) (by decide)) (PySem.W.mg_of X G nc14) (fun base => ok_init FI14 scI14 rfl (by decide +kernel) (by decide +kernel) (by decide) (by decide)) (fun s v u _ => .of_eq rfl) (fun s v u _ => .of_eq rfl)
  have FI15 := fun_mk (st := sI15) li15 ci15 ki15
  have x15 : XC P w K mg C15 "InUse" "index" := xc_mk (class_parts (whole_class all (k := 15) (by decide))).1 (class_init (whole_class all (k := 15) (by decide)) (by decide)) (PySem.W.mg_of X G nc15) (fun base => ok_init FI15 scI15 rfl (by decide +kernel) (by decide +kernel) (by decide) (by decide)) (fun s v u _ => .of_eq rfl) (fun s v u _ => .of_eq rfl)
  have FI16 := fun_mk (st := sI16) li16 ci16 ki16
  have x16 : XC P w K mg C16 "OtherLevels" "given" := xc_mk (class_parts (whole_class all (k := 16) (by decide))).1 (class_init (whole_class all (k := 16) (by decide)) (by decide)) (PySem.W.mg_of X G nc16) (fun base => ok_init FI16 scI16 rfl (by decide +kernel) (by decide +kernel) (by decide) (by decide)) (fun s v u _ => .of_eq rfl) (fun s v u _ => .of_eq rfl)
  have FI17 := fun_mk (st := sI17) li17 ci17 ki17
  have x17 : XC P w K mg C17 "TooMany" "given" := xc_mk (class_parts (whole_class all (k := 17) (by decide))).1 (class_init (whole_class all (k := 17) (by decide)) (by decide)) (PySem.W.mg_of X G nc17) (fun base => ok_init FI17 scI17 rfl (by decide +kernel) (by decide +kernel) (by decide) (by decide)) (fun s v u _ => .of_eq rfl) (fun s v u _ => .of_eq rfl)
  have FI18 := fun_mk (st := sI18) li18 ci18 ki18
  have x18 : XC P w K mg C18 "TooFar" "given" := xc_mk (class_parts (whole_class all (k := 18) (by decide))).1 (class_init (whole_class all (k := 18) (by decide)) (by decide)) (PySem.W.mg_of X G nc18) (fun base => ok_init FI18 scI18 rfl (by decide +kernel) (by decide +kernel) (by decide) (by decide)) (fun s v u _ => .of_eq rfl) (fun s v u _ => .of_eq rfl)
  have FI20 := fun_mk (st := sI20) li20 ci20 ki20
  have x20 : XC P w K mg C20 "Broken" "index" := xc_mk (class_parts (whole_class all (k := 20) (by decide))).1 (class_init (whole_class all (k := 20) (by decide)) (by decide)) (PySem.W.mg_of X G nc20) (fun base => ok_init FI20 scI20 rfl (by decide +kernel) (by decide +kernel) (by decide) (by decide)) (fun s v u _ => .of_eq rfl) (fun s v u _ => .of_eq rfl)
  have x19 : XN K mg C19 "NothingToUndo" := xn_mk (class_parts (whole_class all (k := 19) (by decide))).1 (class_parts (whole_class all (k := 19) (by decide))).2.2.2 (PySem.W.mg_of X G nc19)
  have A : All P w K mg (fun k => ([C0, C1, C2, C3, C4, C5, C6, C7, C8, C9, C10, C11, C12, C13, C14, C15, C16, C17, C18, C19, C20] : List Addr).getD k 0) := ⟨x0, x1, x2, x3, x4, x5, x6, x7, x8, x9, x10, x11, x12, x13, x14, x15, x16, x17, x18, x19, x20⟩
  have base_ : ∀ k, k < 3 → _ := fun k hk => whole_base all (k := k) hk
  have bparts : ∀ k, k < 3 → _ ∧ _ ∧ _ := fun k hk => by
    have z := base_ k hk
    unfold baseB at z
    rw [Bool.and_eq_true, Bool.and_eq_true] at z
    exact z
  have Bb : Bases K mg (fun k => ([B0, B1, B2] : List Addr).getD k 0) := ⟨xn_mk (bparts 0 (by decide)).1 (bparts 0 (by decide)).2.2 (PySem.W.mg_of X G nb0), xn_mk (bparts 1 (by decide)).1 (bparts 1 (by decide)).2.2 (PySem.W.mg_of X G nb1), xn_mk (bparts 2 (by decide)).1 (bparts 2 (by decide)).2.2 (PySem.W.mg_of X G nb2)⟩
  have GG := whole_meta all
  have F0 := fun_mk (st := sBegun) lf0 cf0 kf0
  have b0 := F0.binds (ps := ["_law_script", "_law_turn"]) fun _ _ _ _ _ _ us hl => match us, hl with | [_, _], _ => rfl
  have m0 := PySem.W.mg_of X G nf0
  have F1 := fun_mk (st := sCast) lf1 cf1 kf1
  have b1 := F1.binds (ps := ["_law_pail", "_law_many"]) fun _ _ _ _ _ _ us hl => match us, hl with | [_, _], _ => rfl
  have m1 := PySem.W.mg_of X G nf1
  have F2 := fun_mk (st := sAny) lf2 cf2 kf2
  have b2 := F2.binds (ps := ["_law_pail", "_law_some"]) fun _ _ _ _ _ _ us hl => match us, hl with | [_, _], _ => rfl
  have m2 := PySem.W.mg_of X G nf2
  have F3 := fun_mk (st := sThing) lf3 cf3 kf3
  have b3 := F3.binds (ps := ["_law_pail"]) fun _ _ _ _ _ _ us hl => match us, hl with | [_], _ => rfl
  have m3 := PySem.W.mg_of X G nf3
  have F4 := fun_mk (st := sPlaced) lf4 cf4 kf4
  have b4 := F4.binds (ps := ["_law_thing_here"]) fun _ _ _ _ _ _ us hl => match us, hl with | [_], _ => rfl
  have m4 := PySem.W.mg_of X G nf4
  have F5 := fun_mk (st := sNamed) lf5 cf5 kf5
  have b5 := F5.binds (ps := ["_law_thing_here"]) fun _ _ _ _ _ _ us hl => match us, hl with | [_], _ => rfl
  have m5 := PySem.W.mg_of X G nf5
  have F6 := fun_mk (st := sFlags) lf6 cf6 kf6
  have b6 := F6.binds (ps := ["_law_e"]) fun _ _ _ _ _ _ us hl => match us, hl with | [_], _ => rfl
  have m6 := PySem.W.mg_of X G nf6
  have F7 := fun_mk (st := sBases) lf7 cf7 kf7
  have b7 := F7.binds (ps := ["_law_e"]) fun _ _ _ _ _ _ us hl => match us, hl with | [_], _ => rfl
  have m7 := PySem.W.mg_of X G nf7
  have F8 := fun_mk (st := sHeld) lf8 cf8 kf8
  have b8 := F8.binds (ps := ["_law_e", "_law_at"]) fun _ _ _ _ _ _ us hl => match us, hl with | [_, _], _ => rfl
  have m8 := PySem.W.mg_of X G nf8
  have F9 := fun_mk (st := sSome) lf9 cf9 kf9
  have b9 := F9.binds (ps := ["_law_some", "_law_thing_here"]) fun _ _ _ _ _ _ us hl => match us, hl with | [_, _], _ => rfl
  have m9 := PySem.W.mg_of X G nf9
  have F10 := fun_mk (st := sRight) lf10 cf10 kf10
  have b10 := F10.binds (ps := ["_law_pail"]) fun _ _ _ _ _ _ us hl => match us, hl with | [_], _ => rfl
  have m10 := PySem.W.mg_of X G nf10
  have F11 := fun_mk (st := sLaw) lf11 cf11 kf11
  have lim : Limits K mg aL := ⟨PySem.W.mg_of X G nL, fun H => .inr ⟨_, _, _, lL, rfl, rfl, (by show 4 ≤ sizeLine; decide), .cons ⟨_, rfl⟩ (.cons ⟨_, rfl⟩ (.cons ⟨_, rfl⟩ (.cons ⟨_, rfl⟩ .nil)))⟩, ⟨_, PySem.W.mg_of X G nm0⟩, ⟨_, PySem.W.mg_of X G nm1⟩, ⟨_, PySem.W.mg_of X G nm2⟩, ⟨_, PySem.W.mg_of X G nm3⟩, ⟨_, PySem.W.mg_of X G nm4⟩, ⟨_, PySem.W.mg_of X G nm5⟩, ⟨_, PySem.W.mg_of X G nm6⟩, ⟨_, PySem.W.mg_of X G nm7⟩⟩
  refine ⟨PySem.W.fnOf "law" "law" (defArgs sLaw) (defBody sLaw) (defScope sLaw) .none kV11 dc11 pm11 an11 cd11 ct11, fun s u => .of_eq rfl, fun base _ _ => ?_⟩
  have g1 : FnOk P w K mg base CX0 1 f1 _ _ spCast := ok_cast F1 (none (n := "int") (by decide +kernel)) (none (n := "divmod") (by decide +kernel))
  have g0 : FnOk P w K mg base CX0 1 f0 _ _ (spBegun K) := ok_begun F0 (none (n := "int") (by decide +kernel)) (none (n := "len") (by decide +kernel)) (none (n := "abs") (by decide +kernel))
  have g2 := ok_any F2 g1 b1 m1 kf1 (none (n := "len") (by decide +kernel))
  have g3 := ok_thing F3 g2 b2 m2 kf2
  have g4 := ok_placed (base := base) F4 A
  have g5 := ok_named (base := base) F5 A
  have g6 := ok_flags (P := P) (w := w) (base := base) F6 A GG (none (n := "isinstance") (by decide +kernel)) (fun k j hk hj => (class_parts (whole_class all (k := k) hk)).2.2.1 j hj)
  have g7 := ok_bases (P := P) (w := w) (base := base) F7 Bb GG (none (n := "isinstance") (by decide +kernel)) (none (n := "ValueError") (by decide +kernel)) (none (n := "LookupError") (by decide +kernel)) (none (n := "ArithmeticError") (by decide +kernel))
  have g8 := ok_held (base := base) F8 A
  have g9 := ok_some F9 A g6 b6 m6 kf6 g7 b7 m7 kf7 g8 b8 m8 kf8 (none (n := "range") (by decide +kernel)) (none (n := "repr") (by decide +kernel)) (none (n := "len") (by decide +kernel)) (fun k hk => underB_ok (class_parts (whole_class all (k := k) hk)).2.1)
  have g10 := ok_right F10 Bb g3 b3 m3 kf3 g9 b9 m9 kf9 g4 b4 m4 kf4 g5 b5 m5 kf5 g7 b7 m7 kf7 (none (n := "range") (by decide +kernel)) (fun k hk => underB_ok (bparts k hk).2.1)
  exact ok_law F11 lim g10 b10 m10 kf10 g0 b0 m0 kf0 (none (n := "range") (by decide +kernel)) (none (n := "repr") (by decide +kernel)) (none (n := "len") (by decide +kernel)) (none (n := "all") (by decide +kernel)) (none (n := "max") (by decide +kernel)) (none (n := "min") (by decide +kernel))
theorem walk {l : PySem.W.OpenLaw} {q : Program} {loose : List Str} {XP : (Str → Option Value) → Heap → Prop} {YP : World → Heap → Prop} {d : DefRec} {K : Params → PySem.W.Frag} (hn : l.most = some 63) (hdf : d.params.defaults = []) (hY : ∀ (w : World) (h : Heap), YP w h → (K w.params).In h)
    (F : ∀ (w : World) (mg : Str → Option Value) (fa : Addr) (h : Heap), (K w.params).In h → h.Ns mainGlobals mg → mg d.name = some (.ref fa) → ∃ fd : FuncData, (∀ (s : Shared) (u : Value), BindsTo s fd ⟨[u], []⟩ [("_law_script", u)]) ∧
      ∀ base : Heap, (K w.params).In base → base.Ns mainGlobals mg → FnG l.prog w (K w.params) mg base 5 fa fd ["_law_script"] (spLaw (K w.params))) : PySem.W.WalkO q loose XP YP l.row.toRowW d [] (fun f vs => PySem.call f vs) :=
  walk_ofG (n := 63) (k := 5) (x := "_law_script") (sp := fun w => spLaw (K w.params)) hn (by decide) hdf ⟨rfl, by decide, by decide⟩ hY F fun w H a ns h1 h2 _ hS => ⟨a, ns, rfl, hS, h1, h2, fun _ => rfl⟩
end Lamp
set_option Elab.async false
open PySem PySem.W PyProof.Rows
set_option maxRecDepth 100000 in
set_option maxHeartbeats 0 in
theorem PySem.Challenge.cw_lamprounds_k01_limits_and_errors_holds : PySem.Challenge.rw_lamprounds_k01_limits_and_errors.Holds := by
  w_on; o_law; k_head; (case hw => w_witness2)
  k_fill
  refine Lamp.walk (l := PySem.Challenge.rw_lamprounds_k01_limits_and_errors) rfl rfl (fun w h Y => PySem.W.kIn_of Y) ?F
  case F =>
    intro w mg fa h KX G hmg
    refine' Lamp.all_mk KX G hmg ?nb0 ?nb1 ?nb2 ?nc0 ?nc1 ?nc2 ?nc3 ?nc4 ?nc5 ?nc6 ?nc7 ?nc8 ?nc9 ?nc10 ?nc11 ?nc12 ?nc13 ?nc14 ?nc15 ?nc16 ?nc17 ?nc18 ?nc19 ?nc20 ?fi0 ?fi1 ?fi2 ?fi3 ?fi4 ?fi5 ?fi6 ?fi7 ?fi8 ?fi9 ?fi10 ?fi11 ?fi12 ?fi13 ?fi14 ?fi15 ?fi16 ?fi17 ?fi18 ?fi20 ?li0 ?ci0 ?ki0 ?li1 ?ci1 ?ki1 ?li2 ?ci2 ?ki2 ?li3 ?ci3 ?ki3 ?li4 ?ci4 ?ki4 ?li5 ?ci5 ?ki5 ?li6 ?ci6 ?ki6 ?li7 ?ci7 ?ki7 ?li8 ?ci8 ?ki8 ?li9 ?ci9 ?ki9 ?li10 ?ci10 ?ki10 ?li11 ?ci11 ?ki11 ?li12 ?ci12 ?ki12 ?li13 ?ci13 ?ki13 ?li14 ?ci14 ?ki14 ?li15 ?ci15 ?ki15 ?li16 ?ci16 ?ki16 ?li17 ?ci17 ?ki17 ?li18 ?ci18 ?ki18 ?li20 ?ci20 ?ki20 ?nf0 ?lf0 ?cf0 ?kf0 ?nf1 ?lf1 ?cf1 ?kf1 ?nf2 ?lf2 ?cf2 ?kf2 ?nf3 ?lf3 ?cf3 ?kf3 ?nf4 ?lf4 ?cf4 ?kf4 ?nf5 ?lf5 ?cf5 ?kf5 ?nf6 ?lf6 ?cf6 ?kf6 ?nf7 ?lf7 ?cf7 ?kf7 ?nf8 ?lf8 ?cf8 ?kf8 ?nf9 ?lf9 ?cf9 ?kf9 ?nf10 ?lf10 ?cf10 ?kf10 ?nf11 ?lf11 ?cf11 ?kf11 ?nL ?lL ?nm0 ?nm1 ?nm2 ?nm3 ?nm4 ?nm5 ?nm6 ?nm7 ?all
    (case nb0 => k_is)
    (case nb1 => k_is)
    (case nb2 => k_is)
    (case nc0 => k_is)
    (case nc1 => k_is)
    (case nc2 => k_is)
    (case nc3 => k_is)
    (case nc4 => k_is)
    (case nc5 => k_is)
    (case nc6 => k_is)
    (case nc7 => k_is)
    (case nc8 => k_is)
    (case nc9 => k_is)
    (case nc10 => k_is)
    (case nc11 => k_is)
    (case nc12 => k_is)
    (case nc13 => k_is)
    (case nc14 => k_is)
    (case nc15 => k_is)
    (case nc16 => k_is)
    (case nc17 => k_is)
    (case nc18 => k_is)
    (case nc19 => k_is)
    (case nc20 => k_is)
    (case fi0 => k_is)
    (case fi1 => k_is)
    (case fi2 => k_is)
    (case fi3 => k_is)
    (case fi4 => k_is)
    (case fi5 => k_is)
    (case fi6 => k_is)
    (case fi7 => k_is)
    (case fi8 => k_is)
    (case fi9 => k_is)
    (case fi10 => k_is)
    (case fi11 => k_is)
    (case fi12 => k_is)
    (case fi13 => k_is)
    (case fi14 => k_is)
    (case fi15 => k_is)
    (case fi16 => k_is)
    (case fi17 => k_is)
    (case fi18 => k_is)
    (case fi20 => k_is)
    (case li0 => k_is)
    (case ci0 => k_is)
    (case ki0 => k_is)
    (case li1 => k_is)
    (case ci1 => k_is)
    (case ki1 => k_is)
    (case li2 => k_is)
    (case ci2 => k_is)
    (case ki2 => k_is)
    (case li3 => k_is)
    (case ci3 => k_is)
    (case ki3 => k_is)
    (case li4 => k_is)
    (case ci4 => k_is)
    (case ki4 => k_is)
    (case li5 => k_is)
    (case ci5 => k_is)
    (case ki5 => k_is)
    (case li6 => k_is)
    (case ci6 => k_is)
    (case ki6 => k_is)
    (case li7 => k_is)
    (case ci7 => k_is)
    (case ki7 => k_is)
    (case li8 => k_is)
    (case ci8 => k_is)
    (case ki8 => k_is)
    (case li9 => k_is)
    (case ci9 => k_is)
    (case ki9 => k_is)
    (case li10 => k_is)
    (case ci10 => k_is)
    (case ki10 => k_is)
    (case li11 => k_is)
    (case ci11 => k_is)
    (case ki11 => k_is)
    (case li12 => k_is)
    (case ci12 => k_is)
    (case ki12 => k_is)
    (case li13 => k_is)
    (case ci13 => k_is)
    (case ki13 => k_is)
    (case li14 => k_is)
    (case ci14 => k_is)
    (case ki14 => k_is)
    (case li15 => k_is)
    (case ci15 => k_is)
    (case ki15 => k_is)
    (case li16 => k_is)
    (case ci16 => k_is)
    (case ki16 => k_is)
    (case li17 => k_is)
    (case ci17 => k_is)
    (case ki17 => k_is)
    (case li18 => k_is)
    (case ci18 => k_is)
    (case ki18 => k_is)
    (case li20 => k_is)
    (case ci20 => k_is)
    (case ki20 => k_is)
    (case nf0 => k_is)
    (case lf0 => k_is)
    (case cf0 => k_is)
    (case kf0 => k_is)
    (case nf1 => k_is)
    (case lf1 => k_is)
    (case cf1 => k_is)
    (case kf1 => k_is)
    (case nf2 => k_is)
    (case lf2 => k_is)
    (case cf2 => k_is)
    (case kf2 => k_is)
    (case nf3 => k_is)
    (case lf3 => k_is)
    (case cf3 => k_is)
    (case kf3 => k_is)
    (case nf4 => k_is)
    (case lf4 => k_is)
    (case cf4 => k_is)
    (case kf4 => k_is)
    (case nf5 => k_is)
    (case lf5 => k_is)
    (case cf5 => k_is)
    (case kf5 => k_is)
    (case nf6 => k_is)
    (case lf6 => k_is)
    (case cf6 => k_is)
    (case kf6 => k_is)
    (case nf7 => k_is)
    (case lf7 => k_is)
    (case cf7 => k_is)
    (case kf7 => k_is)
    (case nf8 => k_is)
    (case lf8 => k_is)
    (case cf8 => k_is)
    (case kf8 => k_is)
    (case nf9 => k_is)
    (case lf9 => k_is)
    (case cf9 => k_is)
    (case kf9 => k_is)
    (case nf10 => k_is)
    (case lf10 => k_is)
    (case cf10 => k_is)
    (case kf10 => k_is)
    (case nf11 => k_is)
    (case lf11 => k_is)
    (case cf11 => k_is)
    (case kf11 => k_is)
    (case nL => k_is)
    (case lL => k_is)
    (case nm0 => k_is)
    (case nm1 => k_is)
    (case nm2 => k_is)
    (case nm3 => k_is)
    (case nm4 => k_is)
    (case nm5 => k_is)
    (case nm6 => k_is)
    (case nm7 => k_is)
    (case all => kernel_rfl)
