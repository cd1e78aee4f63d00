import PyProof.Rows.All
import Wide.All
import OpenK.AllK
import Wide.FinOn
import HandS.Base
import HandS.Call
import HandS.List
import HandS.Ends
import HandS.Words
import PyProof.ReprLen
import HandS.Comp
import HandS.Walk
import HandS.Conv
import HandS.WideBits
import HandS.Text
import KE.GoesEnum
import HandS.Iter
import HandS.SortRule
import HandS.IsInst
import HandS.WordsList
import HandS.SortInts
import HandS.TupAny
import KE.KSortTup
import HandS.SortOrd
import HandS.Dict
import KE.KUnpackStar
import PyProof.DictUpdate
import PyProof.DictDisplay
import KE.GoesZip
import KE.GoesMore
import HandS.Zip0
import HandS.Zip
import HandS.DictComp
import HandS.More
import HandS.MakeKwOnly
import HandS.OwnEq
import HandS.NoneIn
import HandS.Codes
import HandS.Style
import HandS.Exc
import HandS.ExcOwn
import HandS.ExcInit
import HandS.ExcField
import HandS.TryOnly
import HandS.TryMany
import HandS.Star
import HandS.WordsExc
import HandS.Defaults
import KE.KExcInit
import KE.KExcIs
import KE.KExcLine
import HandS.HotCalls
import PyProof.InstNe
import KE.KFmtOwn
import KE.GoesEnumKw
import PyProof.Rows.CallKwBuiltin
import HandS.SortKw
import KE.DataCmp
import HandS.ExcIs
import PySem.Challenge.RW_fadeleaf_k27_pressed
set_option Elab.async false
set_option linter.all false
set_option maxRecDepth 100000
namespace Fd
open PySem PySem.Spec PyProof.Rows L2
/-! A def's promise where it is known besides that no repr of a container is under way (the guards are none). -/
structure GOk (P : Program) (w : World) (K : PySem.W.Frag) (mg : Str → Option Value) (base : Heap) (CX : CXT)
    (k : Nat) (f : Addr) (fd : FuncData) (ps : List Str) (sp : Sp) : Prop where
  len : ∀ vs H Q E, sp vs H Q E → vs.length = ps.length
  run : ∀ (A : Around) (outer : List Env) (s : Shared) (H : Hp) (args : Args) (us : List Value) (vs : List V) (Q : VK) (E : XK),
    Room k A → A.guards = some [] → Env0 P w K mg base A outer s H → BindsTo s fd args (ps.zip us) → Vals vs us → sp vs H Q E →
    codeAny (model P w) A (.call (.ref f) args) (CR CX outer P w H s Q E) s
section
variable {P : Program} {w : World} {K : PySem.W.Frag} {mg : Str → Option Value} {base : Heap} {CX : CXT} {k : Nat}
theorem GOk.of {f : Addr} {fd : FuncData} {ps : List Str} {sp : Sp} (F : FnOk P w K mg base CX k f fd ps sp) :
    GOk P w K mg base CX k f fd ps sp :=
  ⟨F.len, fun A o s H args us vs Q E hr _ => F.run A o s H args us vs Q E hr⟩
theorem GOk.mono {j : Nat} {f : Addr} {fd : FuncData} {ps : List Str} {sp : Sp} (F : GOk P w K mg base CX j f fd ps sp) (h : j ≤ k) :
    GOk P w K mg base CX k f fd ps sp :=
  ⟨F.len, fun A o s H args us vs Q E hr => F.run A o s H args us vs Q E (hr.mono h)⟩
/-- a def by its body, the guards told -/
theorem okG {x qual : Str} {st : Stmt} {f : Addr} {fd : FuncData} {N ps : List Str} {sp : Sp} (F : Fun K x qual st f fd)
    (S : FnScope N ps (defScope st)) (len : ∀ vs H Q E, sp vs H Q E → vs.length = ps.length)
    (body : ∀ (cdv : Value) (A : Around) (outer : List Env) (s : Shared) (H : Hp) (vs : List V) (Q : VK) (E : XK),
      Room k (A.deeper (envOfC qual (defScope st) s.heap.objs.size f cdv)) →
      (A.deeper (envOfC qual (defScope st) s.heap.objs.size f cdv)).guards = some [] → sp vs H Q E →
      ∃ t, PSs (cxOf CX0 P w K mg base N qual (defScope st) f cdv A outer s H E).nox (defBody st) t ∧
        t { nx := fun _ H' => Q .non H', rt := Q } (start N vs) H) :
    GOk P w K mg base CX0 (k + 1) f fd ps sp := by
  obtain ⟨oc, od, kV, doc, pm, an, cdv, ct, osl, rfl, look, code⟩ := F.ex
  refine ⟨len, ?_⟩
  intro A outer s H args us vs Q E room gd e0 binds rel want
  have vl := len vs H Q E want
  have inK : K.In s.heap := e0.mod.kin.keeps fun b o q => (e0.bs b o q).1
  have nl : s.heap.NoLimit := e0.mod.nolimit.keeps fun b o q => (e0.bs b o q).1
  have kinds : ∀ y ∈ ps.zip us, (defScope st).names.lookup y.1 = some .local ∨ ((defScope st).names.lookup y.1 = some .cell ∧
      ((cellsFrom (s.heap.objs.size + 1) (defScope st).names []).lookup y.1).isSome = true) := by
    rintro ⟨n, u⟩ mem
    have inP : n ∈ ps := (List.of_mem_zip mem).1
    cases S.par n inP with
    | inl q => exact .inl q
    | inr q => exact .inr ⟨q, PySem.W.cellsFrom_some _ _ _ (.inl q)⟩
  refine codeAny_call_function room.depth (inK _ _ look) rfl S.co S.gen rfl (PySem.W.codeRec_of inK code) (binds _ _ _ _ ?_)
  refine wpAny_newFunctionEnv_cells S.kind kinds fun env ee s1 x => ?_
  subst ee
  refine ⟨nl.keeps x.toInCall.keep, codeAny_func ?_⟩
  obtain ⟨t, ht, hq⟩ := body cdv A outer s H vs Q E (room.deeper _) gd want
  have J := inv_start (CX := CX0) (E := E) S room.hd e0 vl rel x
  refine wpAny_mono ((ht.nox).run [] s1 _ H _ J hq) (fun fl s' told => ?_) fun e s' told => told
  match fl, told with
  | .ret u, ⟨v, σ', H', J', rv, q⟩ => exact ⟨v, H', J'.os, J'.bare, J'.base, J'.hok, rv, q⟩
  | .next, ⟨σ', H', J', q⟩ => exact ⟨.non, H', J'.os, J'.bare, J'.base, J'.hok, rfl, q⟩
  | .brk, ⟨_, _, _, q⟩ => exact q.elim
  | .cont, ⟨_, _, _, q⟩ => exact q.elim
end
section
variable {X : Cx} {CX : CXT} {k : Nat} {f : Addr} {fd : FuncData} {ps : List Str} {sp : Sp} {dvs : List V} {ds : List Value} {E : XK}
theorem runG {pins : List (Addr × Obj)} {σ : L2.St} {H : Hp} {s : Shared} {Q : VK} {us : List Value} {vs : List V}
    (F : GOk X.prog X.w X.K X.mg X.base CX k f fd ps sp) (hr : Room k X.A) (gd : X.A.guards = some []) (hb : Binds X.K fd ps ds) (hd : Vals dvs ds)
    (hx : Passes CX X E) (I : Inv X pins σ H s) (r : Vals vs us) (h : sp (vs ++ dvs) H Q E) :
    wpAny (model X.prog X.w) X.A (call (.ref f) us) (EP X pins σ Q) X.xe s := by
  have rr := r.append hd
  have ll : (us ++ ds).length = ps.length := rr.length.symm.trans (F.len _ _ _ _ h)
  have go := F.run X.A X.stack s H ⟨us, []⟩ (us ++ ds) (vs ++ dvs) Q E hr gd I.env0 (hb s us I.kIn ll) rr h
  refine wpAny_call (codeAny_mono go fun r s' told => ?_)
  match r, told with
  | .error e, told => exact hx pins σ H s e s' I told
  | .ok (.ret u), told => exact I.after told
  | .ok .next, told => exact False.elim told
  | .ok .brk, told => exact False.elim told
  | .ok .cont, told => exact False.elim told
/-- a call of such a def by its global name -/
theorem callG {x : Str} {p pos : Pos} {e : Expr} {es : List Expr} {t : TA} (F : GOk X.prog X.w X.K X.mg X.base CX k f fd ps sp) (hr : Room k X.A)
    (gd : X.A.guards = some []) (hg : Gl X x) (hm : X.mg x = some (.ref f)) (hk : PySem.W.keepIn X.K (.ref f) = true) (hb : Binds X.K fd ps ds)
    (hd : Vals dvs ds) (hx : Passes CX X E) (ha : PA X (e :: es) t) (hdb : (x == ("__debug__" : Str)) = false := by decide)
    (he : starEach (e :: es) X.env = (false, eval e X.env) :: starEach es X.env := by rfl)
    (hpl : (backTo pos (starEach es X.env)).any (·.1) = false := by rfl) :
    PE X (.Call (.Name x p) (e :: es) [] pos) (tCall sp dvs E t) :=
  ⟨fun pins s σ H Q I h => wpAny_Call_Name_kw (ld_glob I hg hm
    (PySem.W.callWith_K (h₀ := X.base) I.ok.mod.kin hk
      (thn (ha.run pos pins s σ H _ I h) fun us s1 ⟨vs, H1, I1, r, q⟩ => ⟨I1.kIn, runG F hr gd hb hd hx I1 r q⟩) he hpl) hdb)⟩
end
end Fd

namespace Fd
open PySem PySem.Spec PyProof.Rows L2
/-! The law's own call, from such a promise of the law's def. -/
section
variable {P : Program} {w : World} {K : PySem.W.Frag} {mg mb : Str → Option Value} {k : Nat} {fa a : Addr} {fd : FuncData} {x : Str} {sp : Sp}
  {s : Shared} {vs : List Value} {ns : List Int}
/-- what stands in the heap but is not tracked, as the base -/
theorem lawFrom (KX : K.In s.heap) (gl : s.heap.Ns mainGlobals mg) (bl : s.heap.Ns builtinsNs mb) (bb : ∀ y : Str, y ≠ "__name__" → mb y = bootBuiltins y)
    (lim : s.heap.NoLimit) (gens : s.gens = #[]) (obj : s.heap.get? a = some { cls := .type "list", data := .seq vs.toArray }) (rm : Room k callerA)
    (F : ∀ base : Heap, K.In base → base.Ns mainGlobals mg → GOk P w K mg base CX0 k fa fd [x] sp)
    (bd : ∀ (t : Shared) (u : Value), BindsTo t fd ⟨[u], []⟩ [(x, u)])
    (H : Hp) (only : Only H) (ok : HOk P w H s.heap) (just : ∀ b, H b ≠ none → b = a) (away : H a ≠ none → K.lookup a = none)
    (want : sp [.ref a] H (fun v _ => v = .bl true) E0) :
    codeAny (model P w) callerA (.call (.ref fa) ⟨[.ref a], []⟩) (fun r s' => r = .ok (.ret (.bool true)) ∧ OldK s.heap s'.heap ∧ s'.os = s.os ∧ AllBare s'.gens) s := by
  have at_a : ∀ {b : Addr}, H b ≠ none → b = a := fun {b} => just b
  have free_dict : ∀ {b : Addr} {o : Obj} {es : Array DictEntry} {ep : Nat}, s.heap.get? b = some o → o.data = .dict es ep → H b = none := by
    intro b o es ep e d
    match q : H b with
    | none => rfl
    | some u =>
      obtain rfl : b = a := at_a (by rw [q]; exact fun z => nomatch z)
      rw [obj] at e
      cases e
      exact nomatch d
  have ns_of : ∀ {b : Addr} {m : Str → Option Value}, s.heap.Ns b m → (hidT s.heap H).Ns b m := by
    rintro b m ⟨o, es, ep, e, d, r⟩
    exact ⟨o, es, ep, hidT_get e (free_dict e d), d, r⟩
  have kb : K.In (hidT s.heap H) := by
    intro b o e
    refine hidT_get (KX b o e) ?_
    match q : H b with
    | none => rfl
    | some u =>
      have nn : H b ≠ none := by rw [q]; exact fun z => nomatch z
      obtain rfl : b = a := at_a nn
      rw [away nn] at e
      exact nomatch e
  have nlim : (hidT s.heap H).NoLimit := by
    obtain ⟨mc, h1, h2⟩ := lim
    exact ⟨mc, ns_of h1, h2⟩
  have e0 : Env0 P w K mg (hidT s.heap H) callerA [] s H :=
    { frames := rfl, mod := ⟨kb, ns_of gl, ⟨mb, ns_of bl, bb⟩, nlim⟩, bs := fun b o e => of_hidT e, bsz := Nat.le_of_eq (hidT_size _ _), funs := trivial,
      frf := fun b hb => (by cases (show b ∈ ([] : List Addr) from hb)), hok := ok, bare := .of_eq gens }
  refine codeAny_mono ((F _ kb (ns_of gl)).run callerA [] s H ⟨[.ref a], []⟩ [.ref a] [.ref a] _ E0 rm rfl e0 (bd s (.ref a)) (.cons rfl .nil) want) ?_
  intro r s' told
  match r, told with
  | .error e, told => exact False.elim told
  | .ok .next, told => exact False.elim told
  | .ok .brk, told => exact False.elim told
  | .ok .cont, told => exact False.elim told
  | .ok (.ret u), ⟨v, H', os, bare, un, ok', rv, q⟩ =>
    obtain rfl : v = .bl true := q
    obtain rfl : u = Value.bool true := rv
    refine ⟨rfl, OldK.of_keep fun b o e => ?_, os, bare⟩
    match q : H b with
    | none => exact un.keep b o e q (fun z => nomatch (show b ∈ ([] : List Addr) from z)) (by simp)
    | some u =>
      rcases only b with z | ⟨ob, xs, z⟩
      · rw [q] at z
        exact nomatch z
      · obtain ⟨e1, _⟩ := ok b _ z
        obtain ⟨e2, _⟩ := ok' b _ (un.frzs b ob _ z)
        rw [e] at e1
        cases e1
        exact e2
theorem lawCall (KX : K.In s.heap) (gl : s.heap.Ns mainGlobals mg) (bl : s.heap.Ns builtinsNs mb) (bb : ∀ y : Str, y ≠ "__name__" → mb y = bootBuiltins y)
    (lim : s.heap.NoLimit) (gens : s.gens = #[]) (obj : s.heap.get? a = some { cls := .type "list", data := .seq vs.toArray }) (iv : IntsAre vs ns)
    (short : ns.length ≤ sizeLine) (rm : Room k callerA) (F : ∀ base : Heap, K.In base → base.Ns mainGlobals mg → GOk P w K mg base CX0 k fa fd [x] sp)
    (bd : ∀ (t : Shared) (u : Value), BindsTo t fd ⟨[u], []⟩ [(x, u)])
    (want : ∀ H : Hp, Only H → SqL K H a (ns.map V.int) → sp [.ref a] H (fun v _ => v = .bl true) E0) :
    codeAny (model P w) callerA (.call (.ref fa) ⟨[.ref a], []⟩) (fun r s' => r = .ok (.ret (.bool true)) ∧ OldK s.heap s'.heap ∧ s'.os = s.os ∧ AllBare s'.gens) s := by
  have rv := vals_ints iv
  have ll := iv.length
  match hk : K.lookup a with
  | some o =>
    have e := KX a o hk
    rw [obj] at e
    cases e
    have sq : SqL K (fun _ => none) a (ns.map V.int) :=
      .inr ⟨_, vs.toArray, _, hk, rfl, rfl, rfl, by rw [List.size_toArray, ll]; exact short, by simpa using rv⟩
    exact lawFrom KX gl bl bb lim gens obj rm F bd (fun _ => none) (fun _ => .inl rfl) (fun b u z => nomatch z) (fun b z => absurd rfl z) (fun z => absurd rfl z)
      (want _ (fun _ => .inl rfl) sq)
  | none =>
    let Hs : Hp := fun b => if b = a then some (.frz { cls := .type "list", data := .seq vs.toArray } (.lst (ns.map V.int))) else none
    have at_ : Hs a = some (.frz { cls := .type "list", data := .seq vs.toArray } (.lst (ns.map V.int))) := if_pos rfl
    have off : ∀ b, b ≠ a → Hs b = none := fun b h => if_neg h
    have only : Only Hs := by
      intro b
      by_cases h : b = a
      · subst h
        exact .inr ⟨_, _, at_⟩
      · exact .inl (off b h)
    refine lawFrom KX gl bl bb lim gens obj rm F bd Hs only ?_ ?_ (fun _ => hk) (want Hs only (.inl (.inr ⟨_, at_⟩)))
    · intro b u z
      by_cases h : b = a
      · subst h
        rw [at_] at z
        cases z
        exact ⟨obj, by rw [List.length_map]; exact short, vs, _, rv, obj⟩
      · rw [off b h] at z
        exact nomatch z
    · intro b z
      by_cases h : b = a
      · exact h
      · exact absurd (off b h) z
end
/-- the goal that k_head leaves, from the law's promise -/
theorem walkG {l : PySem.W.OpenLaw} {n k : Nat} {q : Program} {loose : List Str} {XP : (Str → Option Value) → Heap → Prop} {YP : World → Heap → Prop} {d : DefRec}
    {K : Params → PySem.W.Frag} {sp : PySem.W.Frag → Sp} {x : Str} (most : l.most = some n) (small : n ≤ sizeLine) (plain : d.params.defaults = []) (rm : Room k callerA)
    (hY : ∀ (w : World) (h : Heap), YP w h → (K w.params).In h)
    (F : ∀ (w : World) (mg : Str → Option Value) (fa : Addr) (h : Heap), (K w.params).In h → h.Ns mainGlobals mg → mg d.name = some (.ref fa) →
      ∃ fd : FuncData, (∀ (s : Shared) (u : Value), BindsTo s fd ⟨[u], []⟩ [(x, u)]) ∧
        ∀ base : Heap, (K w.params).In base → base.Ns mainGlobals mg → GOk l.prog w (K w.params) mg base CX0 k fa fd [x] (sp (K w.params)))
    (want : ∀ (K : PySem.W.Frag) (H : Hp) (a : Addr) (ns : List Int), ns.length ≤ n → Only H → SqL K H a (ns.map V.int) → sp K [.ref a] H (fun v _ => v = .bl true) E0) :
    PySem.W.WalkO q loose XP YP l.row.toRowW d [] (fun f vs => PySem.call f vs) := by
  refine Att.attach_call most plain ?_
  intro w s0 s mg mb fa o pm cd doc a vs ns G Y ho hd hcd hmg obj iv len gens
  have KX := hY w _ Y
  obtain ⟨fd, bd, hF⟩ := F w mg fa _ KX G.T.g hmg
  exact lawCall KX G.T.g G.T.b G.T.builtins G.T.nolimit gens obj iv (Nat.le_trans len small) rm hF bd fun H h1 h2 => want _ H a ns len h1 h2
end Fd

namespace Fd
open PySem PySem.Spec PyProof.Rows L2
/-! ### steps of the abstract heap: all that was tracked stays, but for a pot at p (a list of two ints) -/
def Pot (H : Hp) (p : Addr) : Prop := ∃ a b : Int, H p = some (.lst [.int a, .int b])
def PotO (p : Option Addr) (H : Hp) : Prop := ∀ q, p = some q → Pot H q
structure St (p : Option Addr) (H H' : Hp) : Prop where
  same : ∀ a o, some a ≠ p → H a = some o → H' a = some o
  pot : PotO p H'
section
variable {p : Option Addr} {H H1 H2 : Hp} {a : Addr} {o : HO} {K : PySem.W.Frag} {xs : List V}
theorem potN : PotO none H := fun _ e => nomatch e
theorem potS {q : Addr} (h : Pot H q) : PotO (some q) H := fun r e => by
  cases e
  exact h
theorem PotO.ne (h : PotO p H) (e : H a = none) : some a ≠ p := fun z => by
  obtain ⟨x, y, q⟩ := h a z.symm
  rw [e] at q
  cases q
theorem PotO.neT (h : PotO p H) (e : H a = some (.tup xs)) : some a ≠ p := fun z => by
  obtain ⟨x, y, q⟩ := h a z.symm
  rw [e] at q
  cases q
theorem PotO.neF {u : HO} {ob : Obj} (h : PotO p H) (e : H a = some (.frz ob u)) : some a ≠ p := fun z => by
  obtain ⟨x, y, q⟩ := h a z.symm
  rw [e] at q
  cases q
theorem PotO.upd (h : PotO p H) (e : some a ≠ p) : PotO p (upd H a o) := fun r z => by
  obtain ⟨x, y, q⟩ := h r z
  exact ⟨x, y, by rw [upd_ne (fun w => e (by rw [← w]; exact z.symm))]; exact q⟩
theorem St.refl (h : PotO p H) : St p H H := ⟨fun _ _ _ e => e, h⟩
theorem St.trans (x : St p H H1) (y : St p H1 H2) : St p H H2 := ⟨fun a o n e => y.same a o n (x.same a o n e), y.pot⟩
theorem St.ofSame (h : PotO p H) (s : Same H H1) : St p H H1 := ⟨fun a o _ e => s a o e, fun q z => by
  obtain ⟨x, y, w⟩ := h q z
  exact ⟨x, y, s _ _ w⟩⟩
theorem St.toSame (x : St none H H1) : Same H H1 := fun a o e => x.same a o (fun z => nomatch z) e
theorem St.low (h : PotO p H) (x : St none H H1) : St p H H1 := St.ofSame h x.toSame
theorem St.new (h : PotO p H) (e : H a = none) : St p H (upd H a o) :=
  ⟨fun b u _ q => by rw [upd_ne (ne_of_none q e)]; exact q, h.upd (h.ne e)⟩
theorem St.free (h : PotO p H) (x : St p H H1) (e : H1 a = none) : H a = none := by
  cases q : H a with
  | none => rfl
  | some u =>
    rw [x.same a u (x.pot.ne e) q] at e
    cases e
/-- an object that was not there ahead may be changed -/
theorem St.put (h : PotO p H) (x : St p H H1) (e : H a = none) : St p H (upd H1 a o) :=
  ⟨fun b u n q => by rw [upd_ne (ne_of_none q e)]; exact x.same b u n q, x.pot.upd (h.ne e)⟩
theorem St.tup (h : PotO p H) (x : St p H H1) (e : SqT K H a xs) : SqT K H1 a xs := by
  rcases e with (e | ⟨ob, e⟩) | e
  · exact .inl (.inl (x.same _ _ (h.neT e) e))
  · exact .inl (.inr ⟨ob, x.same _ _ (h.neF e) e⟩)
  · exact .inr e
theorem St.frzL (h : PotO p H) (x : St p H H1) (n : some a ≠ p) (e : SqL K H a xs) : SqL K H1 a xs := by
  rcases e with (e | ⟨ob, e⟩) | e
  · exact .inl (.inl (x.same _ _ n e))
  · exact .inl (.inr ⟨ob, x.same _ _ n e⟩)
  · exact .inr e
end
theorem same_new {H : Hp} {p : Addr} {o : HO} (h : H p = none) : Same H (upd H p o) := fun b u e => by
  rw [upd_ne (ne_of_none e h)]
  exact e
/-! ### data of scalars and tuples alone: it stays whatever is stepped -/
mutual
def flatT : PyData → Bool
  | .none | .bool _ | .int _ | .str _ => true
  | .tuple xs => flatTs xs
  | .list _ | .dict _ => false
def flatTs : List PyData → Bool
  | [] => true
  | x :: xs => flatT x && flatTs xs
end
theorem flatTs_of : ∀ {ds : List PyData}, (∀ d ∈ ds, flatT d = true) → flatTs ds = true
  | [], _ => by simp only [flatTs]
  | d :: ds, h => by
    simp only [flatTs, Bool.and_eq_true]
    exact ⟨h d (List.mem_cons_self ..), flatTs_of fun x hx => h x (List.mem_cons_of_mem _ hx)⟩
theorem flatTs_mem : ∀ {ds : List PyData}, flatTs ds = true → ∀ d ∈ ds, flatT d = true
  | [], _, _, h => nomatch h
  | x :: xs, h, d, m => by
    simp only [flatTs, Bool.and_eq_true] at h
    rcases List.mem_cons.mp m with e | m
    · exact e ▸ h.1
    · exact flatTs_mem h.2 d m
theorem flatTs_app {xs ys : List PyData} (h1 : flatTs xs = true) (h2 : flatTs ys = true) : flatTs (xs ++ ys) = true :=
  flatTs_of fun d m => (List.mem_append.mp m).elim (flatTs_mem h1 d) (flatTs_mem h2 d)
section
variable {K : PySem.W.Frag} {H H1 : Hp}
mutual
theorem Dp.move (f : ∀ a xs, SqT K H a xs → SqT K H1 a xs) : ∀ {v : V} {d : PyData}, flatT d = true → Dp K H v d → Dp K H1 v d
  | _, _, _, .non => .non
  | _, _, _, .bl b => .bl b
  | _, _, _, .int i => .int i
  | _, _, _, .str x => .str x
  | _, _, z, .lst _ _ => by simp [flatT] at z
  | _, _, z, .tup h1 h2 => .tup (f _ _ h1) (DpAll.move f (by simpa [flatT] using z) h2)
theorem DpAll.move (f : ∀ a xs, SqT K H a xs → SqT K H1 a xs) : ∀ {vs : List V} {ds : List PyData}, flatTs ds = true → DpAll K H vs ds → DpAll K H1 vs ds
  | _, _, _, .nil => .nil
  | _, _, z, .cons h1 h2 => by
    simp only [flatTs, Bool.and_eq_true] at z
    exact .cons (Dp.move f z.1 h1) (DpAll.move f z.2 h2)
end
theorem dpSt {p : Option Addr} {v : V} {d : PyData} (h : PotO p H) (x : St p H H1) (z : flatT d = true) (k : Dp K H v d) : Dp K H1 v d :=
  Dp.move (fun _ _ e => St.tup h x e) z k
theorem dpsSt {p : Option Addr} {vs : List V} {ds : List PyData} (h : PotO p H) (x : St p H H1) (z : flatTs ds = true) (k : DpAll K H vs ds) : DpAll K H1 vs ds :=
  DpAll.move (fun _ _ e => St.tup h x e) z k
/-- a list is changed: tuples stay -/
theorem tup_put {D : Addr} {ys zs : List V} {a : Addr} {xs : List V} (e : H D = some (.lst ys)) (h : SqT K H a xs) : SqT K (upd H D (.lst zs)) a xs := by
  have n : ∀ u, H a = some u → u ≠ .lst ys → a ≠ D := fun u q w z => by
    rw [z, e] at q
    exact w (Option.some.inj q).symm
  rcases h with (h | ⟨ob, h⟩) | h
  · exact .inl (.inl (by rw [upd_ne (n _ h (fun z => nomatch z))]; exact h))
  · exact .inl (.inr ⟨ob, by rw [upd_ne (n _ h (fun z => nomatch z))]; exact h⟩)
  · exact .inr h
theorem DpAll.len : ∀ {vs : List V} {ds : List PyData}, DpAll K H vs ds → vs.length = ds.length
  | _, _, .nil => rfl
  | _, _, .cons _ h => by rw [List.length_cons, List.length_cons, DpAll.len h]
theorem DpAll.get : ∀ {vs : List V} {ds : List PyData} {i : Nat} {v : V}, DpAll K H vs ds → vs[i]? = some v → ∃ d, ds[i]? = some d ∧ Dp K H v d
  | _, _, _, _, .nil, e => by simp at e
  | _, _, 0, _, .cons h _, e => by
    simp at e
    exact ⟨_, rfl, e ▸ h⟩
  | _, _, i + 1, _, .cons _ h, e => by
    obtain ⟨d, q, r⟩ := DpAll.get (i := i) h (by simpa using e)
    exact ⟨d, by simpa using q, r⟩
theorem DpAll.app : ∀ {vs ws : List V} {ds es : List PyData}, DpAll K H vs ds → DpAll K H ws es → DpAll K H (vs ++ ws) (ds ++ es)
  | _, _, _, _, .nil, k => k
  | _, _, _, _, .cons h1 h2, k => .cons h1 (DpAll.app h2 k)
theorem Dp.tupInv {v : V} {ds : List PyData} (h : Dp K H v (.tuple ds)) : ∃ a xs, v = .ref a ∧ SqT K H a xs ∧ DpAll K H xs ds := by
  cases h with
  | tup h1 h2 => exact ⟨_, _, rfl, h1, h2⟩
theorem dps_ints : ∀ ns : List Int, DpAll K H (ns.map V.int) (ns.map PyData.int)
  | [] => .nil
  | n :: r => .cons (.int n) (dps_ints r)
theorem dps_strs : ∀ ns : List Str, DpAll K H (ns.map V.str) (ns.map PyData.str)
  | [] => .nil
  | n :: r => .cons (.str n) (dps_strs r)
theorem dps_ints_inv : ∀ {vs : List V} {ns : List Int}, DpAll K H vs (ns.map PyData.int) → vs = ns.map V.int
  | _, [], h => by cases h; rfl
  | _, n :: r, h => by
    cases h with
    | cons h1 h2 =>
      cases h1
      rw [dps_ints_inv h2]
      rfl
theorem dps_strs_inv : ∀ {vs : List V} {ns : List Str}, DpAll K H vs (ns.map PyData.str) → vs = ns.map V.str
  | _, [], h => by cases h; rfl
  | _, n :: r, h => by
    cases h with
    | cons h1 h2 =>
      cases h1
      rw [dps_strs_inv h2]
      rfl
theorem dps_bools_inv : ∀ {vs : List V} {ns : List Bool}, DpAll K H vs (ns.map PyData.bool) → vs = ns.map V.bl
  | _, [], h => by cases h; rfl
  | _, n :: r, h => by
    cases h with
    | cons h1 h2 =>
      cases h1
      rw [dps_bools_inv h2]
      rfl
theorem flat_ints : ∀ ns : List Int, flatTs (ns.map PyData.int) = true := fun ns => flatTs_of fun d m => by
  obtain ⟨n, _, rfl⟩ := List.mem_map.mp m
  simp [flatT]
theorem flat_strs : ∀ ns : List Str, flatTs (ns.map PyData.str) = true := fun ns => flatTs_of fun d m => by
  obtain ⟨n, _, rfl⟩ := List.mem_map.mp m
  simp [flatT]
end
/-! ### a comprehension, by what it has made so far (data of scalars and tuples) -/
section
variable {K : PySem.W.Frag} {J : It} {n : Nat} {G : Hp → Prop} {Y : Nat → Hp → V → Hp → Prop}
theorem lcW (w : Walk J n G Y) {g : TG} {tt : TT} {te : TE} {vs : List Nat} {σ : L2.St} {H1 : Hp} {Q : VK} (p : Option Addr) (R : Nat → List PyData → Prop)
    (hp : PotO p H1) (hG : ∀ H, St p H1 H → G H) (hn : n ≤ 1000000) (r0 : R 0 [])
    (step : ∀ i x Ha H' ds (C : V → Hp → Prop) (N : Hp → Prop), i < n → St p H1 Ha → flatTs ds = true → R i ds → Y i Ha x H' →
      (∀ y H4 d, St p Ha H4 → flatT d = true → Dp K H4 y d → R (i + 1) (ds ++ [d]) → C y H4) → (∀ H3, St p Ha H3 → R (i + 1) ds → N H3) →
      g x (wipe σ vs) H' fun σ2 H2 => wipe σ2 vs = wipe σ vs ∧ tt σ2 H2 fun b H3 => if b = true then te σ2 H3 C else N H3)
    (done : ∀ D acc ds H', H1 D = none → St p H1 H' → H' D = some (.lst acc) → flatTs ds = true → DpAll K H' acc ds → R n ds → Q (.ref D) H') :
    ∀ D, H1 D = none → ∃ W : Nat → Nat → Hp → Prop, (∃ m, W 0 m (upd H1 D (.lst []))) ∧ ∀ i m H, W i m H →
      (J.stop i H ∧ Q (.ref D) H) ∨ (J.go i H ∧ ∃ Nx : Hp → Prop, (∀ H', Nx H' → ∃ m', m' < m ∧ W (i + 1) m' H') ∧ ∀ x H', J.yld i H x H' → g x (wipe σ vs) H' fun σ2 H2 => wipe σ2 vs = wipe σ vs ∧ tt σ2 H2 fun b H3 =>
        if b = true then te σ2 H3 fun y H4 => ∃ acc, H4 D = some (.lst acc) ∧ acc.length < sizeLine ∧ Nx (upd H4 D (.lst (acc ++ [y]))) else Nx H3) := by
  intro D hD
  have line : (1000000 : Nat) < sizeLine := by decide
  refine lc_it w (fun i H => ∃ acc ds, St p H1 H ∧ H D = some (.lst acc) ∧ flatTs ds = true ∧ DpAll K H acc ds ∧ R i ds ∧ acc.length ≤ i) ?_ ?_ ?_ ?_
  · exact ⟨[], [], St.new hp hD, upd_same, by simp [flatTs], .nil, r0, Nat.le_refl _⟩
  · rintro i H _ ⟨_, _, s, _⟩
    exact hG H s
  · rintro i x H H' hi ⟨acc, ds, s, hl, fl, al, r, le⟩ y
    have nD : some D ≠ p := hp.ne hD
    refine step i x H H' ds _ _ hi s fl r y (fun z H4 d s4 fd hd r' => ?_) (fun H3 s3 r' => ?_)
    · have hl4 := s4.same D _ nD hl
      have al4 := dpsSt s.pot s4 fl al
      refine ⟨acc, hl4, by omega, acc ++ [z], ds ++ [d], St.put hp (s.trans s4) hD, upd_same, flatTs_app fl (by simp [flatTs, fd]), ?_, r', by simp; omega⟩
      exact DpAll.app (DpAll.move (fun _ _ => tup_put hl4) fl al4) (.cons (Dp.move (fun _ _ => tup_put hl4) fd hd) .nil)
    · exact ⟨acc, ds, s.trans s3, s3.same D _ nD hl, fl, dpsSt s.pot s3 fl al, r', by omega⟩
  · rintro H ⟨acc, ds, s, hl, fl, al, r, _⟩
    exact done D acc ds H hD s hl fl al r
end
/-! ### what may be shown and compared -/
structure Nice (d : PyData) : Prop where
  sh : d.showable = true
  nd : d.hasDict = false
  lf : d.leavesShort 300 = true
  wt : d.weight ≤ 50000
  lay : d.canLay0 = true
  dp : d.depth ≤ 60
theorem Nice.size {d : PyData} (h : Nice d) : d.shown.length ≤ sizeLine := by
  have q := PyData.shown_le 300 (by decide) d h.lf
  have w := h.wt
  have s : sizeLine = 16777216 := sizeLine_eq
  omega
theorem Nice.shaped {d : PyData} (h : Nice d) : SeqAt.shaped d = true := by
  have q := h.dp
  unfold SeqAt.shaped
  rw [h.lay]
  simp
  omega
theorem Nice.refl {d : PyData} (h : Nice d) : PyData.eqv d d = true := PySem.SeqAt.eqv_refl d h.lay
section
variable {X : Cx}
/-- repr of data -/
theorem call_reprD (gd : X.A.guards = some []) (hu : X.A.units + 70 < cLine) :
    CallR X (.builtin "repr") (fun xs H Q => ∃ v d, xs = [v] ∧ Dp X.K H v d ∧ Nice d ∧ Q (.str d.shown) H) := by
  intro pins s σ H xs us Q I r h
  obtain ⟨v, d, rfl, hd, nice, q⟩ := h
  obtain ⟨u, rfl, ru⟩ := vals1 r
  obtain ⟨as, rd⟩ := Dp.reads I d v u hd ru
  have dd := nice.dp
  cases hd with
  | non =>
    cases ru
    exact PySem.P.repr_of_none ⟨.str _, H, I.tok _, ⟨_, rfl⟩, q⟩
  | bl b =>
    cases ru
    exact PySem.P.repr_of_bool ⟨.str _, H, I.tok _, ⟨_, rfl⟩, q⟩
  | int i =>
    obtain ⟨t, rfl⟩ := ru
    exact PySem.P.repr_of_int (by simpa [PyData.showable] using nice.sh) ⟨.str _, H, I.tok _, ⟨_, rfl⟩, q⟩
  | str x =>
    obtain ⟨t, rfl⟩ := ru
    exact PySem.P.repr_of_str (hsz := by simpa only [PyData.shown_str] using nice.size) ⟨.str _, H, I.tok _, ⟨_, by rw [PyData.shown_str]⟩, q⟩
  | lst h1 h2 =>
    cases ru
    exact repr_of_reads' rd nice.sh (fun z => by rw [nice.nd] at z; cases z) gd (by omega) (fun _ _ e => e) (fun h' u tk k => ⟨.str _, H, I.kept k, ⟨_, rfl⟩, q⟩) nice.size
  | tup h1 h2 =>
    cases ru
    exact repr_of_reads' rd nice.sh (fun z => by rw [nice.nd] at z; cases z) gd (by omega) (fun _ _ e => e) (fun h' u tk k => ⟨.str _, H, I.kept k, ⟨_, rfl⟩, q⟩) nice.size
end
end Fd

namespace Fd
open PySem PySem.Spec PyProof.Rows L2
/-! ### tags, layers, rows -/
/-- a text of few small letters -/
def TagOk (z : Str) : Prop := z.length ≤ 8 ∧ ∀ c ∈ z.cps.toList, 97 ≤ c ∧ c ≤ 122
abbrev Lay := Str × Int
def LayOk (l : Lay) : Prop := TagOk l.1 ∧ l.2.natAbs < 2 ^ 250
def layD (l : Lay) : PyData := .tuple [.str l.1, .int l.2]
def rowD (ls : List Lay) : PyData := .tuple (ls.map layD)
theorem flat_lay (l : Lay) : flatT (layD l) = true := by simp [layD, flatT, flatTs]
theorem flat_lays (ls : List Lay) : flatTs (ls.map layD) = true := flatTs_of fun d m => by
  obtain ⟨l, _, rfl⟩ := List.mem_map.mp m
  exact flat_lay l
theorem flat_row (ls : List Lay) : flatT (rowD ls) = true := by
  unfold rowD
  simp only [flatT]
  exact flat_lays ls
theorem log_of {i : Int} {k : Nat} (hk : 0 < k) (h : i.natAbs < 2 ^ k) : i.natAbs.log2 < k := PySem.Flt.log2_lt_of hk h
theorem shown_int_le {i : Int} (h : i.natAbs < 2 ^ 250) : (PyData.int i).shown.length ≤ 300 := by
  rw [PyData.shown_int]
  have := int_text_length_le (a := i) (k := 250) (by decide) (log_of (by decide) h)
  show (Str.ofString (toString i)).length ≤ 300
  rw [PySem.ofString_length]
  omega
theorem nice_int {i : Int} (h : i.natAbs < 2 ^ 250) : Nice (.int i) := by
  have l := log_of (by decide) h
  refine ⟨?_, by simp [PyData.hasDict], ?_, ?_, by simp [PyData.canLay0], by simp [PyData.depth]⟩
  · simp only [PyData.showable, decide_eq_true_eq]
    omega
  · simp only [PyData.leavesShort, decide_eq_true_eq]
    exact shown_int_le h
  · simp only [PyData.weight]
    split <;> omega
theorem nice_none : Nice .none := by
  refine ⟨?_, ?_, ?_, ?_, ?_, ?_⟩ <;> simp [PyData.showable, PyData.hasDict, PyData.leavesShort, PyData.weight, PyData.canLay0, PyData.depth]
theorem tag_lt {z : Str} (h : TagOk z) : ∀ c ∈ z.cps.toList, c < 128 := fun c m => by
  have := h.2 c m
  omega
/-- small data: a bound on its weight, tracked -/
structure NiceW (n : Nat) (d : PyData) : Prop where
  sh : d.showable = true
  nd : d.hasDict = false
  lf : d.leavesShort 300 = true
  wt : d.weight ≤ n
  lay : d.canLay0 = true
  dp : d.depth ≤ 10
theorem NiceW.nice {n : Nat} {d : PyData} (h : NiceW n d) (k : n ≤ 50000) : Nice d := ⟨h.sh, h.nd, h.lf, Nat.le_trans h.wt k, h.lay, by have := h.dp; omega⟩
structure NiceWs (n k : Nat) (ds : List PyData) : Prop where
  sh : PyData.showableAll ds = true
  nd : PyData.hasDictAll ds = false
  lf : PyData.leavesShortAll 300 ds = true
  wt : PyData.weightAll ds ≤ (n + 1) * ds.length
  lay : PyData.canLayAll0 ds = true
  dp : PyData.depthAll ds ≤ k
theorem niceWs {n k : Nat} : ∀ {ds : List PyData}, (∀ d ∈ ds, NiceW n d ∧ d.depth ≤ k) → NiceWs n k ds
  | [], _ => by
    refine ⟨?_, ?_, ?_, ?_, ?_, ?_⟩ <;> simp [PyData.showableAll, PyData.hasDictAll, PyData.leavesShortAll, PyData.weightAll, PyData.canLayAll0, PyData.depthAll]
  | d :: ds, h => by
    have a := (h d (List.mem_cons_self ..)).1
    have ad := (h d (List.mem_cons_self ..)).2
    have b := niceWs (n := n) (k := k) (ds := ds) fun x m => h x (List.mem_cons_of_mem _ m)
    have w1 := a.wt
    have w2 := b.wt
    refine ⟨?_, ?_, ?_, ?_, ?_, ?_⟩
    · simp only [PyData.showableAll, a.sh, b.sh, Bool.and_self]
    · simp only [PyData.hasDictAll, a.nd, b.nd, Bool.or_self]
    · simp only [PyData.leavesShortAll, a.lf, b.lf, Bool.and_self]
    · simp only [PyData.weightAll, List.length_cons]
      have e : (n + 1) * (ds.length + 1) = (n + 1) * ds.length + (n + 1) := Nat.mul_succ ..
      omega
    · simp only [PyData.canLayAll0, a.lay, b.lay, Bool.and_self]
    · simp only [PyData.depthAll]
      have := b.dp
      omega
theorem NiceWs.tup {n k : Nat} {ds : List PyData} (h : NiceWs n k ds) (hk : k < 10) : NiceW ((n + 1) * ds.length) (.tuple ds) := by
  have := h.dp
  refine ⟨by simp only [PyData.showable, h.sh], by simp only [PyData.hasDict, h.nd], by simp only [PyData.leavesShort, h.lf], by simp only [PyData.weight]; exact h.wt, by simp only [PyData.canLay0, h.lay], ?_⟩
  simp only [PyData.depth]
  omega
theorem NiceWs.lst {n k : Nat} {ds : List PyData} (h : NiceWs n k ds) (hk : k < 10) : NiceW ((n + 1) * ds.length) (.list ds) := by
  have := h.dp
  refine ⟨by simp only [PyData.showable, h.sh], by simp only [PyData.hasDict, h.nd], by simp only [PyData.leavesShort, h.lf], by simp only [PyData.weight]; exact h.wt, by simp only [PyData.canLay0, h.lay], ?_⟩
  simp only [PyData.depth]
  omega
theorem niceW_int {i : Int} (h : i.natAbs < 2 ^ 250) : NiceW 250 (.int i) := by
  have q := nice_int h
  have l := log_of (by decide) h
  exact ⟨q.sh, q.nd, q.lf, by simp only [PyData.weight]; split <;> omega, q.lay, by simp [PyData.depth]⟩
theorem strOk_tag {z : Str} (h : TagOk z) : PyData.strOk z = true := by
  unfold PyData.strOk
  rw [Array.all_eq_true']
  intro c m
  have := tag_lt h c (Array.mem_toList_iff.mpr m)
  simp
  omega
theorem niceW_tag {z : Str} (h : TagOk z) : NiceW 8 (.str z) := by
  refine ⟨by simp only [PyData.showable], by simp only [PyData.hasDict], ?_, by simp only [PyData.weight]; exact h.1, ?_, by simp [PyData.depth]⟩
  · simp only [PyData.leavesShort, List.all_eq_true, decide_eq_true_eq]
    intro c m
    have := tag_lt h c m
    omega
  · simp only [PyData.canLay0]
    exact strOk_tag h
theorem niceW_lay {l : Lay} (h : LayOk l) : NiceW 502 (layD l) := by
  have q := niceWs (n := 250) (k := 0) (ds := [.str l.1, .int l.2]) fun d m => by
    rcases List.mem_cons.mp m with e | m
    · rw [e]
      have := niceW_tag h.1
      exact ⟨⟨this.sh, this.nd, this.lf, by have := this.wt; omega, this.lay, this.dp⟩, by simp [PyData.depth]⟩
    · rw [List.mem_singleton.mp m]
      exact ⟨niceW_int h.2, by simp [PyData.depth]⟩
  exact q.tup (by decide)
theorem nice_row {ls : List Lay} (n : ls.length ≤ 60) (h : ∀ l ∈ ls, LayOk l) : Nice (rowD ls) := by
  have q := niceWs (n := 502) (k := 1) (ds := ls.map layD) fun d m => by
    obtain ⟨l, ml, rfl⟩ := List.mem_map.mp m
    exact ⟨niceW_lay (h l ml), by simp [layD, PyData.depth, PyData.depthAll]⟩
  refine (q.tup (by decide)).nice ?_
  rw [List.length_map]
  omega
theorem nice_ints {ns : List Int} (n : ns.length ≤ 100) (h : ∀ i ∈ ns, i.natAbs < 2 ^ 250) : Nice (.list (ns.map PyData.int)) := by
  have q := niceWs (n := 250) (k := 0) (ds := ns.map PyData.int) fun d m => by
    obtain ⟨l, ml, rfl⟩ := List.mem_map.mp m
    exact ⟨niceW_int (h l ml), by simp [PyData.depth]⟩
  refine (q.lst (by decide)).nice ?_
  rw [List.length_map]
  omega
theorem row_inv {K : PySem.W.Frag} {H : Hp} {v : V} {ls : List Lay} (h : Dp K H v (rowD ls)) : ∃ a xs, v = .ref a ∧ SqT K H a xs ∧ DpAll K H xs (ls.map layD) := Dp.tupInv h
theorem lay_inv {K : PySem.W.Frag} {H : Hp} {v : V} {l : Lay} (h : Dp K H v (layD l)) : ∃ a, v = .ref a ∧ SqT K H a [.str l.1, .int l.2] := by
  obtain ⟨a, xs, e, s, al⟩ := Dp.tupInv h
  cases al with
  | cons h1 h2 =>
    cases h2 with
    | cons h2 h3 =>
      cases h3
      cases h1
      cases h2
      exact ⟨a, e, s⟩
theorem lays_get {K : PySem.W.Frag} {H : Hp} {xs : List V} {ls : List Lay} {i : Nat} {v : V} (h : DpAll K H xs (ls.map layD)) (e : xs[i]? = some v) :
    ∃ l a, ls[i]? = some l ∧ v = .ref a ∧ SqT K H a [.str l.1, .int l.2] ∧ Dp K H v (layD l) := by
  obtain ⟨d, q, k⟩ := DpAll.get h e
  rw [List.getElem?_map] at q
  cases w : ls[i]? with
  | none => rw [w] at q; cases q
  | some l =>
    rw [w] at q
    obtain rfl : layD l = d := Option.some.inj q
    obtain ⟨a, e2, s⟩ := lay_inv k
    exact ⟨l, a, rfl, e2, s, k⟩
theorem lay_mk {K : PySem.W.Frag} {H : Hp} {a : Addr} {l : Lay} (h : SqT K H a [.str l.1, .int l.2]) : Dp K H (.ref a) (layD l) := .tup h (.cons (.str _) (.cons (.int _) .nil))
/-! ### calls of the text's defs -/
section
variable {P : Program} {w : World} {K : PySem.W.Frag} {mg : Str → Option Value} {base : Heap}
structure Has (P : Program) (w : World) (K : PySem.W.Frag) (mg : Str → Option Value) (base : Heap) (x : Str) (k : Nat) (ps : List Str) (sp : Sp) : Prop where
  ex : ∃ f fd, FnOk P w K mg base CX0 k f fd ps sp ∧ mg x = some (.ref f) ∧ PySem.W.keepIn K (.ref f) = true ∧ Binds K fd ps []
structure HasG (P : Program) (w : World) (K : PySem.W.Frag) (mg : Str → Option Value) (base : Heap) (x : Str) (k : Nat) (ps : List Str) (sp : Sp) : Prop where
  ex : ∃ f fd, GOk P w K mg base CX0 k f fd ps sp ∧ mg x = some (.ref f) ∧ PySem.W.keepIn K (.ref f) = true ∧ Binds K fd ps []
end
theorem callH {X : Cx} {k j : Nat} {ps : List Str} {sp : Sp} {x : Str} {p pos : Pos} {e : Expr} {es : List Expr} {t : TA} (C : Has X.prog X.w X.K X.mg X.base x k ps sp) (hr : Room j X.A)
    (hg : Gl X x) (ha : PA X (e :: es) t) (hk : k ≤ j := by decide) (hdb : (x == ("__debug__" : Str)) = false := by decide) (he : starEach (e :: es) X.env = (false, eval e X.env) :: starEach es X.env := by rfl)
    (hpl : (backTo pos (starEach es X.env)).any (·.1) = false := by rfl) : PE X (.Call (.Name x p) (e :: es) [] pos) (tCall sp [] E0 t) := by
  obtain ⟨f, fd, F, hm, kp, hb⟩ := C.ex
  exact pe_call F (hr.mono hk) hg hm kp hb .nil pass0 ha hdb he hpl
theorem callHG {X : Cx} {k j : Nat} {ps : List Str} {sp : Sp} {x : Str} {p pos : Pos} {e : Expr} {es : List Expr} {t : TA} (C : HasG X.prog X.w X.K X.mg X.base x k ps sp) (hr : Room j X.A)
    (gd : X.A.guards = some []) (hg : Gl X x) (ha : PA X (e :: es) t) (hk : k ≤ j := by decide) (hdb : (x == ("__debug__" : Str)) = false := by decide) (he : starEach (e :: es) X.env = (false, eval e X.env) :: starEach es X.env := by rfl)
    (hpl : (backTo pos (starEach es X.env)).any (·.1) = false := by rfl) : PE X (.Call (.Name x p) (e :: es) [] pos) (tCall sp [] E0 t) := by
  obtain ⟨f, fd, F, hm, kp, hb⟩ := C.ex
  exact callG F (hr.mono hk) gd hg hm kp hb .nil pass0 ha hdb he hpl
end Fd
namespace Fd
open PySem PySem.Spec PyProof.Rows L2
section
variable {CX : CXT} {P : Program} {w : World} {K : PySem.W.Frag} {mg : Str → Option Value} {base : Heap} {N : List Str} {qual : Str} {sc : Scope} {f : Addr} {cd : Value} {A : Around} {outer : List Env} {s : Shared} {H : Hp} {E : XK} {X : Cx}
theorem cxK : (cxOf CX P w K mg base N qual sc f cd A outer s H E).K = K := rfl
theorem noxK : (X.nox).K = X.K := rfl
theorem startDef {N : List Str} {vs : List V} : L2.start N vs = vs.map some ++ List.replicate (N.length - vs.length) none := rfl
end
end Fd
namespace Fd
open PySem PySem.Spec PyProof.Rows L2
section
variable {H H1 : Hp} {p t : Addr} {o : HO} {a b : Int}
theorem St.potSet (s : St (some p) H H1) : St (some p) H (upd H1 p (.lst [.int a, .int b])) :=
  ⟨fun c u n e => by rw [upd_ne (fun z => n (by rw [z]))]; exact s.same c u n e, fun q e => by cases e; exact ⟨a, b, upd_same⟩⟩
theorem Pot.potO (h : Pot H p) : PotO (some p) H := potS h
theorem Pot.rfl (h : Pot H p) : St (some p) H H := St.refl (potS h)
theorem Pot.ne (h : Pot H p) (e : H t = none) : t ≠ p := fun z => (potS h).ne e (by rw [z])
theorem St.pt (s : St (some p) H H1) : Pot H1 p := s.pot p _root_.rfl
end
end Fd
namespace Fd
open PySem PySem.Spec PyProof.Rows L2
/-! ### readings of comprehensions and loops, kept folded -/
def LcK (J : It) (g : TG) (tt : TT) (te : TE) (vs : List Nat) (σ : L2.St) (Q : VK) (H1 : Hp) : Prop := ∀ D, H1 D = none → ∃ W : Nat → Nat → Hp → Prop, (∃ m, W 0 m (upd H1 D (.lst []))) ∧ ∀ i m H, W i m H →
  (J.stop i H ∧ Q (.ref D) H) ∨ (J.go i H ∧ ∃ Nx : Hp → Prop, (∀ H', Nx H' → ∃ m', m' < m ∧ W (i + 1) m' H') ∧ ∀ x H', J.yld i H x H' → g x (wipe σ vs) H' fun σ2 H2 => wipe σ2 vs = wipe σ vs ∧ tt σ2 H2 fun b H3 =>
    if b = true then te σ2 H3 fun y H4 => ∃ acc, H4 D = some (.lst acc) ∧ acc.length < sizeLine ∧ Nx (upd H4 D (.lst (acc ++ [y]))) else Nx H3)
theorem tLcE {wi : TI} {g : TG} {tt : TT} {te : TE} {vs : List Nat} {σ : L2.St} {H : Hp} {Q : VK} : tLc wi g tt te vs σ H Q = wi σ H fun J H1 => LcK J g tt te vs σ Q H1 := rfl
def ForK (J : It) (g : TG) (tb : TS) (D : Ends) (σ : L2.St) (H1 : Hp) : Prop := ∃ W : Nat → Nat → L2.St → Hp → Prop, (∃ m, W 0 m σ H1) ∧ ∀ i m σ H, W i m σ H →
  (J.stop i H ∧ D.nx σ H) ∨ (J.go i H ∧ ∃ N : L2.St → Hp → Prop, (∀ σ' H', N σ' H' → ∃ m', m' < m ∧ W (i + 1) m' σ' H') ∧ ∀ x H', J.yld i H x H' → g x σ H' fun σ2 H2 => tb { D with nx := N, ct := N, bk := D.nx } σ2 H2)
theorem tForE {wi : TI} {g : TG} {tb : TS} {D : Ends} {σ : L2.St} {H : Hp} : tFor wi g tb D σ H = wi σ H fun J H1 => ForK J g tb D σ H1 := rfl
section
variable {K : PySem.W.Frag} {J : It} {n : Nat} {G : Hp → Prop} {Y : Nat → Hp → V → Hp → Prop} {g : TG} {tt : TT} {te : TE} {vs : List Nat} {σ : L2.St} {H1 : Hp} {Q : VK}
/-- over a range, the target a name, no test -/
theorem lcRng {lo : Int} {j : Nat} (p : Option Addr) (R : Nat → List PyData → Prop) (hp : PotO p H1) (hn : n ≤ 1000000) (r0 : R 0 []) (hw : ∀ x, wipe ((wipe σ vs).set j (some x)) vs = wipe σ vs)
    (step : ∀ i Ha ds (C : V → Hp → Prop), i < n → St p H1 Ha → flatTs ds = true → R i ds →
      (∀ y H4 d, St p Ha H4 → flatT d = true → Dp K H4 y d → R (i + 1) (ds ++ [d]) → C y H4) → te ((wipe σ vs).set j (some (.int (lo + i)))) Ha C)
    (done : ∀ D acc ds H', H1 D = none → St p H1 H' → H' D = some (.lst acc) → flatTs ds = true → DpAll K H' acc ds → R n ds → Q (.ref D) H') : LcK (Itr lo n) (gName j) tYes te vs σ Q H1 := by
  refine lcW walk_range p R hp (fun _ _ => trivial) hn r0 ?_ done
  rintro i x Ha H' ds C N hi s fl r ⟨rfl, rfl⟩ k _
  exact ⟨hw _, step i _ ds C hi s fl r k⟩
/-- over a tuple, the target a name -/
theorem lcTup {a : Addr} {xs : List V} {j : Nat} (p : Option Addr) (R : Nat → List PyData → Prop) (hp : PotO p H1) (hx : SqT K H1 a xs) (hn : xs.length ≤ 1000000) (r0 : R 0 []) (hw : ∀ x, wipe ((wipe σ vs).set j (some x)) vs = wipe σ vs)
    (step : ∀ i x Ha ds (C : V → Hp → Prop) (N : Hp → Prop), xs[i]? = some x → St p H1 Ha → flatTs ds = true → R i ds →
      (∀ y H4 d, St p Ha H4 → flatT d = true → Dp K H4 y d → R (i + 1) (ds ++ [d]) → C y H4) → (∀ H3, St p Ha H3 → R (i + 1) ds → N H3) →
      tt ((wipe σ vs).set j (some x)) Ha fun b H3 => if b = true then te ((wipe σ vs).set j (some x)) H3 C else N H3)
    (done : ∀ D acc ds H', H1 D = none → St p H1 H' → H' D = some (.lst acc) → flatTs ds = true → DpAll K H' acc ds → R xs.length ds → Q (.ref D) H') : LcK (Itt K a) (gName j) tt te vs σ Q H1 := by
  refine lcW walk_tup p R hp (fun H s => St.tup hp s hx) hn r0 ?_ done
  rintro i x Ha H' ds C N hi s fl r ⟨rfl, e⟩ k k2
  exact ⟨hw _, step i x _ ds C N e s fl r k k2⟩
/-- over a list that is not the pot, the target a name -/
theorem lcLst {a : Addr} {xs : List V} {j : Nat} (p : Option Addr) (R : Nat → List PyData → Prop) (hp : PotO p H1) (hx : SqL K H1 a xs) (ne : some a ≠ p) (hn : xs.length ≤ 1000000) (r0 : R 0 []) (hw : ∀ x, wipe ((wipe σ vs).set j (some x)) vs = wipe σ vs)
    (step : ∀ i x Ha ds (C : V → Hp → Prop) (N : Hp → Prop), xs[i]? = some x → St p H1 Ha → flatTs ds = true → R i ds →
      (∀ y H4 d, St p Ha H4 → flatT d = true → Dp K H4 y d → R (i + 1) (ds ++ [d]) → C y H4) → (∀ H3, St p Ha H3 → R (i + 1) ds → N H3) →
      tt ((wipe σ vs).set j (some x)) Ha fun b H3 => if b = true then te ((wipe σ vs).set j (some x)) H3 C else N H3)
    (done : ∀ D acc ds H', H1 D = none → St p H1 H' → H' D = some (.lst acc) → flatTs ds = true → DpAll K H' acc ds → R xs.length ds → Q (.ref D) H') : LcK (Itl K a) (gName j) tt te vs σ Q H1 := by
  refine lcW walk_list p R hp (fun H s => St.frzL hp s ne hx) hn r0 ?_ done
  rintro i x Ha H' ds C N hi s fl r ⟨rfl, e⟩ k k2
  exact ⟨hw _, step i x _ ds C N e s fl r k k2⟩
/-- over a text, the target a name, no test -/
theorem lcStr {z : Str} {j : Nat} (p : Option Addr) (R : Nat → List PyData → Prop) (hp : PotO p H1) (hn : z.cps.size ≤ 1000000) (r0 : R 0 []) (hw : ∀ x, wipe ((wipe σ vs).set j (some x)) vs = wipe σ vs)
    (step : ∀ i c Ha ds (C : V → Hp → Prop), z.cps[i]? = some c → St p H1 Ha → flatTs ds = true → R i ds →
      (∀ y H4 d, St p Ha H4 → flatT d = true → Dp K H4 y d → R (i + 1) (ds ++ [d]) → C y H4) → te ((wipe σ vs).set j (some (.str ⟨#[c]⟩))) Ha C)
    (done : ∀ D acc ds H', H1 D = none → St p H1 H' → H' D = some (.lst acc) → flatTs ds = true → DpAll K H' acc ds → R z.cps.size ds → Q (.ref D) H') : LcK (Its z) (gName j) tYes te vs σ Q H1 := by
  refine lcW walk_str p R hp (fun _ _ => trivial) hn r0 ?_ done
  rintro i x Ha H' ds C N hi s fl r ⟨rfl, c, e, rfl⟩ k _
  exact ⟨hw _, step i c _ ds C e s fl r k⟩
theorem forRng {lo : Int} {j : Nat} {tb : TS} {D : Ends} (Pv : Nat → L2.St → Hp → Prop) (h0 : Pv 0 σ H1)
    (hs : ∀ i σ H, i < n → Pv i σ H → tb { D with nx := Pv (i + 1), ct := Pv (i + 1), bk := D.nx } (σ.set j (some (.int (lo + i)))) H) (hd : ∀ σ H, Pv n σ H → D.nx σ H) : ForK (Itr lo n) (gName j) tb D σ H1 :=
  for_it walk_range Pv h0 (fun _ _ _ _ _ => trivial) (by
    rintro i x σ H H' hi p ⟨rfl, rfl⟩
    exact hs i σ _ hi p) hd
theorem forTup {a : Addr} {xs : List V} {tb : TS} {D : Ends} (Pv : Nat → L2.St → Hp → Prop) (h0 : Pv 0 σ H1) (hG : ∀ i σ H, i ≤ xs.length → Pv i σ H → SqT K H a xs)
    (hs : ∀ i x σ H, xs[i]? = some x → Pv i σ H → g x σ H fun σ2 H2 => tb { D with nx := Pv (i + 1), ct := Pv (i + 1), bk := D.nx } σ2 H2) (hd : ∀ σ H, Pv xs.length σ H → D.nx σ H) : ForK (Itt K a) g tb D σ H1 :=
  for_it walk_tup Pv h0 hG (by
    rintro i x σ H H' hi p ⟨rfl, e⟩
    exact hs i x σ _ e p) hd
theorem forLst {a : Addr} {xs : List V} {tb : TS} {D : Ends} (Pv : Nat → L2.St → Hp → Prop) (h0 : Pv 0 σ H1) (hG : ∀ i σ H, i ≤ xs.length → Pv i σ H → SqL K H a xs)
    (hs : ∀ i x σ H, xs[i]? = some x → Pv i σ H → g x σ H fun σ2 H2 => tb { D with nx := Pv (i + 1), ct := Pv (i + 1), bk := D.nx } σ2 H2) (hd : ∀ σ H, Pv xs.length σ H → D.nx σ H) : ForK (Itl K a) g tb D σ H1 :=
  for_it walk_list Pv h0 hG (by
    rintro i x σ H H' hi p ⟨rfl, e⟩
    exact hs i x σ _ e p) hd
end
/-! ### texts of small letters -/
def Letter (c : Nat) : Prop := 97 ≤ c ∧ c ≤ 122
abbrev sgn (c : Nat) : Str := ⟨#[c]⟩
theorem cps_join : ∀ cs : List Nat, (Str.join "" (cs.map sgn)).cps.toList = cs
  | [] => by decide
  | [c] => rfl
  | c :: d :: r => by
    have ih := cps_join (d :: r)
    show ((sgn c ++ Str.ofString "" ++ Str.join "" ((d :: r).map sgn)) : Str).cps.toList = c :: d :: r
    have e : ∀ x y : Str, (x ++ y).cps.toList = x.cps.toList ++ y.cps.toList := fun x y => TL.tl_append x y
    rw [e, e, ih]
    rfl
theorem tag_join {cs : List Nat} (n : cs.length ≤ 8) (h : ∀ c ∈ cs, Letter c) : TagOk (Txt.join "" (cs.map sgn)) := by
  have e : Txt.join "" (cs.map sgn) = Str.join "" (cs.map sgn) := StrLaws.glued_eq_join _ _
  rw [e]
  have q := cps_join cs
  refine ⟨?_, ?_⟩
  · show (Str.join "" (cs.map sgn)).cps.size ≤ 8
    rw [← Array.length_toList, q]
    exact n
  · rw [q]
    exact h
theorem sgns_sum : ∀ cs : List Nat, ((cs.map sgn).map (·.length)).sum = cs.length
  | [] => rfl
  | c :: r => by
    rw [List.map_cons, List.map_cons, List.sum_cons, sgns_sum r, List.length_cons]
    have : (sgn c).length = 1 := rfl
    omega
def abc : Str := "abcdefghijklmnopqrstuvwxyz"
theorem abc_cps : abc.cps.toList = (List.range 26).map (· + 97) := by decide +kernel
theorem abc_at {i : Nat} (h : i < 26) : abc.cps.toList[i]? = some (i + 97) := by
  rw [abc_cps, List.getElem?_map, List.getElem?_range h]
  rfl
theorem abc_len : abc.length = 26 := by decide +kernel
end Fd
namespace Fd
open PySem PySem.Spec PyProof.Rows L2
/-! ### the layer's rules with the written part told -/
def rLenK (K : PySem.W.Frag) : List V → Hp → VK → Prop := fun xs H Q => ∃ p ys, xs = [.ref p] ∧ (SqL K H p ys ∨ SqT K H p ys) ∧ Q (.int ys.length) H
def rTupK (K : PySem.W.Frag) : List V → Hp → VK → Prop := fun xs H Q => ∃ p ys, xs = [.ref p] ∧ ((SqL K H p ys ∧ ∀ l, H l = none → Q (.ref l) (upd H l (.tup ys))) ∨ (SqT K H p ys ∧ Q (.ref p) H))
def rLstK (K : PySem.W.Frag) : List V → Hp → VK → Prop := fun xs H Q => ∃ p ys, xs = [.ref p] ∧ (SqL K H p ys ∨ SqT K H p ys) ∧ ∀ l, H l = none → Q (.ref l) (upd H l (.lst ys))
def rReprK (K : PySem.W.Frag) : List V → Hp → VK → Prop := fun xs H Q => ∃ v d, xs = [v] ∧ Dp K H v d ∧ Nice d ∧ Q (.str d.shown) H
section
variable {X : Cx} {K : PySem.W.Frag} (h : X.K = K)
include h
theorem k_len : CallR X (.builtin "len") (rLenK K) := h ▸ call_len_seq
theorem k_tup : CallR X (.type "tuple") (rTupK K) := h ▸ call_tuple_of
theorem k_lst : CallR X (.type "list") (rLstK K) := h ▸ call_list_of
theorem k_repr (gd : X.A.guards = some []) (hu : X.A.units + 70 < cLine) : CallR X (.builtin "repr") (rReprK K) := h ▸ call_reprD gd hu
theorem k_eqD (hu : X.A.units + 64 < cLine) : OpR X (compareOp .Eq) (rEqD K) := h ▸ op_eqD hu
theorem k_neD (hu : X.A.units + 64 < cLine) : OpR X (compareOp .NotEq) (rNeD K) := h ▸ op_neD hu
theorem k_in : OpR X (compareOp .In) (rIn K false) := h ▸ op_in_seq
theorem k_notIn : OpR X (compareOp .NotIn) (rIn K true) := h ▸ op_notIn_seq
theorem k_ixL : IxR X (rIxL K) := h ▸ ix_list
theorem k_ixT : IxR X (rIxT K) := h ▸ ix_tup
theorem k_all (hc : X.calm = true) : CallR X (.builtin "all") (rAll K) := h ▸ cr_all hc
end
end Fd
namespace Fd
open PySem PySem.Spec PyProof.Rows L2
/-! ### names that are not there yet -/
def cand (z : Str) (c : Nat) : Str := cutS z none (some 7) ++ sgn c
theorem cut_cps (z : Str) : (cutS z none (some 7)).cps.toList = z.cps.toList.take 7 := by
  have e7 : HT.sIx z.length z.length (some (7 : Int)) = min 7 z.length := HT.sIx_nat z.length z.length 7
  have hl : z.length = z.cps.toList.length := by simp [Str.length]
  show ((z.cps.toList.drop (HT.sIx z.length 0 none)).take (HT.sIx z.length z.length (some 7) - HT.sIx z.length 0 none)) = _
  rw [HT.sIx_none, e7, hl]
  simp only [List.drop_zero, Nat.sub_zero]
  rw [Nat.min_comm]
  exact (List.take_eq_take_iff.mpr (by omega))
theorem cand_cps (z : Str) (c : Nat) : (cand z c).cps.toList = z.cps.toList.take 7 ++ [c] := by
  have e : ∀ x y : Str, (x ++ y).cps.toList = x.cps.toList ++ y.cps.toList := fun x y => TL.tl_append x y
  unfold cand
  rw [e, cut_cps]
theorem cand_tag {z : Str} {c : Nat} (h : TagOk z) (hc : Letter c) : TagOk (cand z c) := by
  refine ⟨?_, ?_⟩
  · show (cand z c).cps.size ≤ 8
    rw [← Array.length_toList, cand_cps, List.length_append, List.length_take]
    simp
    omega
  · rw [cand_cps]
    intro d m
    rcases List.mem_append.mp m with m | m
    · exact h.2 d (List.mem_of_mem_take m)
    · rw [List.mem_singleton.mp m]
      exact hc
theorem cand_inj {z : Str} {c d : Nat} (h : cand z c = cand z d) : c = d := by
  have e := congrArg (fun s : Str => s.cps.toList) h
  simp only [cand_cps] at e
  have e2 := List.append_cancel_left e
  simpa using e2
theorem pigeon {α : Type} [DecidableEq α] : ∀ (zs l : List α), l.Nodup → (∀ x ∈ l, x ∈ zs) → l.length ≤ zs.length
  | [], l, _, h => by
    cases l with
    | nil => exact Nat.le_refl _
    | cons x r => exact absurd (h x (List.mem_cons_self ..)) (by simp)
  | z :: zs, l, nd, h => by
    have ih := pigeon zs (l.filter fun x => decide (x ≠ z)) (nd.sublist (List.filter_sublist)) (fun x m => by
      obtain ⟨m1, m2⟩ := List.mem_filter.mp m
      rcases List.mem_cons.mp (h x m1) with e | m3
      · exact absurd e (of_decide_eq_true m2)
      · exact m3)
    have gone : l.length ≤ (l.filter fun x => decide (x ≠ z)).length + 1 := by
      clear ih h
      induction l with
      | nil => simp
      | cons x r ihr =>
        have nd' := List.nodup_cons.mp nd
        by_cases e : x = z
        · have same : r.filter (fun x => decide (x ≠ z)) = r := List.filter_eq_self.mpr fun y my => decide_eq_true fun q => nd'.1 (by rw [e, ← q]; exact my)
          rw [List.filter_cons, if_neg (by simp [e]), same]
          simp
        · rw [List.filter_cons, if_pos (by simpa using e)]
          have := ihr nd'.2
          simp only [List.length_cons]
          omega
    rw [List.length_cons]
    omega
/-- the names to choose from -/
def cands (z : Str) : List Str := z :: ((List.range 26).map fun c => cand z (c + 97))
theorem cands_tag {z : Str} (h : TagOk z) : ∀ x ∈ cands z, TagOk x := fun x m => by
  rcases List.mem_cons.mp m with e | m
  · exact e ▸ h
  · obtain ⟨c, mc, rfl⟩ := List.mem_map.mp m
    have := List.mem_range.mp mc
    exact cand_tag h ⟨by omega, by omega⟩
def notIn (zs : List Str) (x : Str) : Bool := !inV (V.str x) (zs.map V.str)
theorem inV_strs (zs : List Str) (x : Str) : inV (V.str x) (zs.map V.str) = decide (x ∈ zs) := by
  unfold inV
  induction zs with
  | nil => simp
  | cons z r ih =>
    rw [List.map_cons, List.any_cons, ih]
    have e : eqV (V.str z) (V.str x) = (z == x) := rfl
    rw [e]
    by_cases q : z = x
    · subst q
      simp
    · have q2 : x ≠ z := fun w => q w.symm
      simp [q, q2]
theorem left_some {z : Str} {zs : List Str} (n : zs.length ≤ 20) : ∃ x r, (cands z).filter (notIn zs) = x :: r := by
  cases e : (cands z).filter (notIn zs) with
  | cons x r => exact ⟨x, r, rfl⟩
  | nil =>
    have all : ∀ x ∈ (List.range 26).map (fun c => cand z (c + 97)), x ∈ zs := fun x m => by
      have q := (List.filter_eq_nil_iff.mp e) x (List.mem_cons_of_mem _ m)
      unfold notIn at q
      rw [inV_strs] at q
      simpa using q
    have nd : ((List.range 26).map (fun c => cand z (c + 97))).Nodup := by
      refine List.Pairwise.map _ (fun a b h q => h ?_) List.nodup_range
      have := cand_inj q
      omega
    have := pigeon zs _ nd all
    simp at this
    omega
end Fd
namespace Fd
open PySem PySem.Spec PyProof.Rows L2
/-! ### walks over a row of layers, the target a tag and a strength -/
section
variable {K : PySem.W.Frag} {tt : TT} {te : TE} {vs : List Nat} {σ : L2.St} {H1 : Hp} {Q : VK}
theorem lays_len {xs : List V} {ls : List Lay} (al : DpAll K H1 xs (ls.map layD)) : xs.length = ls.length := by
  rw [DpAll.len al, List.length_map]
theorem lcLay {a : Addr} {xs : List V} {ls : List Lay} {j1 j2 : Nat} (p : Option Addr) (R : Nat → List PyData → Prop) (hp : PotO p H1) (hx : SqT K H1 a xs) (al : DpAll K H1 xs (ls.map layD)) (hn : ls.length ≤ 1000000) (r0 : R 0 [])
    (hw : ∀ x y, wipe (((wipe σ vs).set j1 (some x)).set j2 (some y)) vs = wipe σ vs)
    (step : ∀ i l Ha ds (C : V → Hp → Prop) (N : Hp → Prop), ls[i]? = some l → St p H1 Ha → flatTs ds = true → R i ds →
      (∀ y H4 d, St p Ha H4 → flatT d = true → Dp K H4 y d → R (i + 1) (ds ++ [d]) → C y H4) → (∀ H3, St p Ha H3 → R (i + 1) ds → N H3) →
      tt (((wipe σ vs).set j1 (some (.str l.1))).set j2 (some (.int l.2))) Ha fun b H3 => if b = true then te (((wipe σ vs).set j1 (some (.str l.1))).set j2 (some (.int l.2))) H3 C else N H3)
    (done : ∀ D acc ds H', H1 D = none → St p H1 H' → H' D = some (.lst acc) → flatTs ds = true → DpAll K H' acc ds → R ls.length ds → Q (.ref D) H') :
    LcK (Itt K a) (gTup K 2 (gCons (gName j1) (gCons (gName j2) gNil))) tt te vs σ Q H1 := by
  have len := lays_len al
  refine lcW walk_tup p R hp (fun H s => St.tup hp s hx) (by omega) r0 ?_ (by rw [len]; exact done)
  rintro i x Ha H' ds C N hi s fl r ⟨rfl, e⟩ k k2
  obtain ⟨l, b, q, rfl, sq, _⟩ := lays_get al e
  exact ⟨_, _, rfl, St.tup hp s sq, rfl, _, _, rfl, _, _, rfl, rfl, hw _ _, step i l _ ds C N q s fl r k k2⟩
theorem forLay {a : Addr} {xs : List V} {ls : List Lay} {j1 j2 : Nat} {tb : TS} {D : Ends} (Pv : Nat → L2.St → Hp → Prop) (h0 : Pv 0 σ H1)
    (hG : ∀ i σ H, i ≤ ls.length → Pv i σ H → SqT K H a xs ∧ DpAll K H xs (ls.map layD)) (al : DpAll K H1 xs (ls.map layD))
    (hs : ∀ i l σ H, ls[i]? = some l → Pv i σ H → tb { D with nx := Pv (i + 1), ct := Pv (i + 1), bk := D.nx } ((σ.set j1 (some (.str l.1))).set j2 (some (.int l.2))) H)
    (hd : ∀ σ H, Pv ls.length σ H → D.nx σ H) : ForK (Itt K a) (gTup K 2 (gCons (gName j1) (gCons (gName j2) gNil))) tb D σ H1 := by
  have len := lays_len al
  refine for_it walk_tup Pv h0 (fun i σ H hi p => (hG i σ H (by omega) p).1) ?_ (by rw [len]; exact hd)
  rintro i x σ H H' hi p ⟨rfl, e⟩
  obtain ⟨sx, al'⟩ := hG i σ _ (by omega) p
  obtain ⟨l, b, q, rfl, sq, _⟩ := lays_get al' e
  exact ⟨_, _, rfl, sq, rfl, _, _, rfl, _, _, rfl, rfl, hs i l σ _ q p⟩
end
/-! ### rows weaker and stronger -/
def pos (l : Lay) : Bool := decide (0 < l.2)
def addL (ls : List Lay) (n : Int) : List Lay := ls.map fun l => (l.1, l.2 + n)
def weakL (ls : List Lay) (n : Int) : List Lay := (addL ls (-n)).filter pos
theorem take_succ_map {α β : Type} (f : α → β) (ls : List α) {i : Nat} {l : α} (h : ls[i]? = some l) : (ls.take (i + 1)).map f = (ls.take i).map f ++ [f l] := by
  rw [List.take_add_one, h, List.map_append]
  rfl
theorem take_succ_filter {α : Type} (f : α → Bool) (ls : List α) {i : Nat} {l : α} (h : ls[i]? = some l) : (ls.take (i + 1)).filter f = (ls.take i).filter f ++ (if f l = true then [l] else []) := by
  rw [List.take_add_one, h, List.filter_append]
  congr 1
  show [l].filter f = _
  rw [List.filter_cons]
  split <;> rfl
theorem weak_strong {ls : List Lay} {n : Int} (h : ∀ l ∈ ls, 0 < l.2) : weakL (addL ls n) n = ls := by
  unfold weakL addL
  rw [List.map_map]
  have e : (ls.map ((fun l : Lay => (l.1, l.2 + -n)) ∘ fun l : Lay => (l.1, l.2 + n))) = ls := by
    conv => rhs; rw [← List.map_id ls]
    refine List.map_congr_left fun l _ => ?_
    show (l.1, l.2 + n + -n) = l
    rw [Int.add_neg_cancel_right]
  rw [e]
  exact List.filter_eq_self.mpr fun l m => decide_eq_true (h l m)
theorem weak_zero {ls : List Lay} (h : ∀ l ∈ ls, 0 < l.2) : weakL ls 0 = ls := by
  unfold weakL addL
  have e : (ls.map fun l : Lay => (l.1, l.2 + -0)) = ls := by
    conv => rhs; rw [← List.map_id ls]
    refine List.map_congr_left fun l _ => ?_
    show (l.1, l.2 + -0) = l
    rw [Int.neg_zero, Int.add_zero]
  rw [e]
  exact List.filter_eq_self.mpr fun l m => decide_eq_true (h l m)
theorem strong_all {ls : List Lay} {n : Int} (h : ∀ l ∈ ls, 0 < l.2) (hn : 0 ≤ n) : (addL ls n).filter pos = addL ls n := by
  refine List.filter_eq_self.mpr fun l m => decide_eq_true ?_
  obtain ⟨x, mx, rfl⟩ := List.mem_map.mp m
  have := h x mx
  show 0 < x.2 + n
  omega
theorem eqvAll_nil (ds : List PyData) : PyData.eqvAll ds [] = ds.isEmpty := by
  cases ds <;> simp [PyData.eqvAll]
end Fd
namespace Fd
open PySem PySem.Spec PyProof.Rows L2
/-- what is done to a pot that is newer leaves all that stood before -/
theorem St.back {H H1 H2 : Hp} {p : Addr} (s : Same H H1) (n : H p = none) (x : St (some p) H1 H2) : Same H H2 := fun b o e =>
  x.same b o (fun z => by
    cases z
    rw [n] at e
    cases e) (s b o e)
theorem eqv_row {ls : List Lay} {n : Nice (rowD ls)} : PyData.eqv (rowD ls) (rowD ls) = true := n.refl
end Fd
namespace Fd
open PySem PySem.Spec PyProof.Rows L2
theorem dpSame {K : PySem.W.Frag} {H H1 : Hp} {v : V} {d : PyData} (s : Same H H1) (z : flatT d = true) (k : Dp K H v d) : Dp K H1 v d := dpSt potN (St.ofSame potN s) z k
end Fd

namespace Fd
open PySem PySem.Spec PyProof.Rows L2
/-! ### enumerate of a tuple -/
def tItO (a : Addr) : Obj := { cls := .type "tuple_iterator", data := .fields #[.ref a, .int 0 0] }
def eNuO (it : Addr) : Obj := { cls := .type "enumerate", data := .fields #[.none, .bool false, .ref it, rawInt 0, .none, .none] }
theorem newEnum (a : Addr) (items : Array Value) : Meets (Builtin.«enumerate.__new__» ⟨[.type "enumerate", .ref a], []⟩) fun _ R s =>
    s.heap.IsTuple a items ∧ R (.ok (.ret (.ref (s.heap.push (tItO a)).objs.size))) { s with heap := (s.heap.push (tItO a)).push (eNuO s.heap.objs.size) } := by
  refine .of_wp ?_
  intro prog w A R s h
  obtain ⟨hp, gs, dr, tk, os⟩ := s
  obtain ⟨tup, want⟩ := h
  have sub := sub_enumerate
  have go : ∀ {A' : Around} {E : Value → Shared → Prop} {Q : Value → Shared → Prop}, Q (.ref hp.objs.size) ⟨hp.push (tItO a), gs, dr, tk, os⟩ →
      wpAny (model prog w) A' (pyIter (.ref a)) Q E ⟨hp, gs, dr, tk, os⟩ := fun q => wpAny_pyIter_tuple tup q
  wp_walk using go
  refine wpAny_stack_any fun st => wpAny_pure ?_
  split
  · rename_i c _ _ _ _ _
    cases (c == Value.type "enumerate") <;> (wp_walk using go; exact ⟨_, rfl, want⟩)
  · wp_walk using go
    exact ⟨_, rfl, want⟩
theorem callEnumT {prog : Program} {w : World} {A : Around} {E : Value → Shared → Prop} {s : Shared} {a : Addr} {items : Array Value} {Q : Value → Shared → Prop} (ht : s.heap.IsTuple a items)
    (h : ∀ h', IsEnum h' (s.heap.objs.size + 1) s.heap.objs.size 0 .none → h'.IsTupleIter s.heap.objs.size a 0 → h'.objs.size = s.heap.objs.size + 2 →
      (∀ b o, s.heap.get? b = some o → h'.get? b = some o) → Q (.ref (s.heap.objs.size + 1)) { s with heap := h' }) :
    wpAny (model prog w) A (call (.type "enumerate") [.ref a]) Q E s := by
  refine callType_new F.called_enumerate (by decide) (F.typeCall_enumerate_1 _) (F.newCall_enumerate_1 _) (fun obj => F.args_object_init_2 obj _) F.entry_enumerate_new (newEnum a items) ⟨ht, ?_⟩
  have sz : (s.heap.push (tItO a)).objs.size = s.heap.objs.size + 1 := Heap.size_push ..
  show _ ∧ _
  rw [sz]
  have en : IsEnum ((s.heap.push (tItO a)).push (eNuO s.heap.objs.size)) (s.heap.objs.size + 1) s.heap.objs.size 0 .none := by
    have q := Heap.get?_push_size (s.heap.push (tItO a)) (o := eNuO s.heap.objs.size) rfl
    rw [sz] at q
    exact q
  have itr : ((s.heap.push (tItO a)).push (eNuO s.heap.objs.size)).IsTupleIter s.heap.objs.size a 0 :=
    ⟨_, Heap.get?_push_of_some _ (Heap.get?_push_size (s.heap) (o := tItO a) rfl), rfl, rfl⟩
  exact ⟨⟨_, en, rfl⟩, h _ en itr (by rw [Heap.size_push, sz]) fun b o x => Heap.get?_push_of_some _ (Heap.get?_push_of_some _ x)⟩
/-- the tuple at a, each item in a new pair with its number -/
def IteT (K : PySem.W.Frag) (a : Addr) : It :=
  ⟨fun i H => ∃ (xs : List V) (x : V), SqT K H a xs ∧ xs[i]? = some x,
    fun i H v H' => ∃ T x, v = .ref T ∧ H T = none ∧ H' = upd H T (.tup [.int (i : Nat), x]) ∧ ∀ xs, SqT K H a xs → xs[i]? = some x,
    fun i H => ∃ xs : List V, SqT K H a xs ∧ xs.length = i⟩
theorem enum_apart {h : Heap} {e it a : Addr} {c : Int} {old : Value} {i : Nat} {items : Array Value} (he : IsEnum h e it c old) (hit : h.IsTupleIter it a i) (ht : h.IsTuple a items) : a ≠ it ∧ e ≠ a := by
  obtain ⟨o, ho, hc, _⟩ := hit
  obtain ⟨u, hu, hc2, _⟩ := ht
  refine ⟨fun z => ?_, fun z => ?_⟩
  · subst z
    rw [ho] at hu
    cases hu
    rw [hc] at hc2
    exact absurd hc2 (by decide)
  · subst z
    have he' : h.get? e = some _ := he
    rw [he'] at hu
    cases hu
    have c2 : Value.type "enumerate" = Value.type "tuple" := hc2
    exact absurd c2 (by decide)
theorem turnEnumT {P : Program} {w : World} {K : PySem.W.Frag} {elts : List Expr} {kk : Nat} {tpos : Pos} (a e it : Addr) :
    Turn P w K (.Tuple elts kk tpos) (IteT K a) [e, it] e (fun i h => (∃ old, IsEnum h e it ((i : Nat) : Int) old) ∧ h.IsTupleIter it a i ∧ e ≠ it) where
  mem := by simp
  obj := by
    rintro i h ⟨⟨old, he⟩, ⟨o, ho, hc, hd⟩, _⟩ b hb
    have hb' : b = e ∨ b = it := by simpa using hb
    rcases hb' with rfl | rfl
    · exact ⟨_, he, fun v q => nomatch q⟩
    · exact ⟨o, ho, fun v q => by rw [hd] at q; cases q⟩
  keep := by
    rintro i h h' ⟨⟨old, he⟩, hi, hne⟩ k
    exact ⟨⟨old, k e (by simp) _ he⟩, hi.at fun o q => k it (by simp) o q, hne⟩
  item := by
    intro X hP hw hK hc i pins s σ H E I hf st hg
    subst hP hw hK
    obtain ⟨⟨old, he⟩, hit, hne⟩ := st
    obtain ⟨xs, x, hq, hx⟩ := hg
    obtain ⟨its, rv, p, hz⟩ := I.tuple hq
    obtain ⟨u, hu, ru⟩ := rv.get hx
    have tup : s.heap.IsTuple a its.toArray := p
    obtain ⟨n1, n2⟩ := enum_apart he hit tup
    have hel : e < s.heap.objs.size := Heap.lt_size he
    have hil : it < s.heap.objs.size := by
      obtain ⟨_, q, _⟩ := hit
      exact Heap.lt_size q
    have hil2 : i < its.toArray.size := by
      have := (List.getElem?_eq_some_iff.mp hu).1
      simpa using this
    have D := Draws.tuple (prog := X.prog) (w := X.w) (A := X.A.in1) (I.ok.hd hc) it a n1 its.toArray
    refine wpAny_pyNext_enum_itemD D he ⟨hit, tup⟩ hil2 hne (by simp [hne, n2]) fun y h' tk hy ho hst hT hsz hk => ?_
    have hy' : y = u := by
      have q : its.toArray[i]? = some u := by simpa using hu
      exact Option.some.inj (hy.symm.trans q)
    subst hy'
    refine ⟨_, rfl, wpAny_letOwnedTupleGo_enum (s := { s with heap := h', toks := tk + 1 }) ho fun h'' he' sb => ?_⟩
    have hT2 : h''.get? s.heap.objs.size = some { cls := .type "tuple", data := .seq #[.int i tk, y] } := (sb.2 _ (Nat.ne_of_gt hel)).trans hT
    have fresh : ObjOk X.prog X.w (upd H s.heap.objs.size (.tup [.int (i : Nat), x])) h'' s.heap.objs.size (.tup [.int (i : Nat), x]) :=
      ⟨by show 2 ≤ sizeLine; decide, [.int i tk, y], .cons ⟨_, rfl⟩ (.cons ru .nil), ⟨_, hT2, rfl, _, rfl⟩⟩
    have I1 : Inv X pins σ (upd H s.heap.objs.size (.tup [.int (i : Nat), x])) { s with heap := h'', toks := tk + 1 } :=
      I.turnedNew (ch := [e, it]) (fun b ob hb q => (sb.2 b (fun z => hb (by simp [z]))).trans (hk b ob (fun z => hb (by simp [z])) (fun z => hb (by simp [z])) q)) hf (Nat.le_refl _) fresh
    refine ⟨.ref s.heap.objs.size, _, I1, rfl, ⟨_, x, rfl, I.hok.fresh (Nat.le_refl _), rfl, fun ys hys => by rw [I.tuple_inj hys hq]; exact hx⟩, ⟨⟨y, ?_⟩, hst.1.at fun o q => (sb.2 it (Ne.symm hne)).trans q, hne⟩, fun b hb => ?_⟩
    · have e1 : ((i + 1 : Nat) : Int) = (i : Int) + 1 := by omega
      rw [e1]
      exact he'
    · have hb' : b = e ∨ b = it := by simpa using hb
      have lt : b < s.heap.objs.size := by rcases hb' with rfl | rfl <;> assumption
      rw [upd_ne (Nat.ne_of_lt lt)]
      exact (hf b hb).1
  done := by
    intro X hP hw hK hc i pins s σ H E I hf st hg
    subst hP hw hK
    obtain ⟨⟨old, he⟩, hit, hne⟩ := st
    obtain ⟨xs, hq, hx⟩ := hg
    obtain ⟨its, rv, p, hz⟩ := I.tuple hq
    have tup : s.heap.IsTuple a its.toArray := p
    obtain ⟨n1, n2⟩ := enum_apart he hit tup
    obtain ⟨f0, f1, f2, f3, f4, f5⟩ := hf it (by simp)
    have hl := rv.length
    have sz : its.toArray.size = i := by simp; omega
    have D := Draws.tuple (prog := X.prog) (w := X.w) (A := X.A.in1) (I.ok.hd hc) it a n1 its.toArray
    refine wpAny_pyNext_enum_endD D he ⟨sz ▸ hit, tup⟩ fun h' eb => ⟨rfl, I.turned (t' := s.toks) (fun b o hb q => eb b o hb q) f0 f1 f3 f4 f5⟩
  self := fun A i s Q E st h => by
    obtain ⟨⟨_, he⟩, _⟩ := st
    exact wpAny_pyIter_enum he h
def iEnumT (K : PySem.W.Frag) (ta : TA) : TI := fun σ H R => ta σ H fun vs H1 => ∃ a xs, vs = [.ref a] ∧ SqT K H1 a xs ∧ R (IteT K a) H1
theorem pi_enumT {X : Cx} {e : Expr} {ta : TA} {p pos tpos : Pos} {elts : List Expr} {kk : Nat} (hg : Gl X "enumerate") (hm : X.mg "enumerate" = none) (ha : PA X [e] ta) (hs : starEach [e] X.env = [(false, eval e X.env)] := by rfl) :
    PI X (.Tuple elts kk tpos) (.Call (.Name "enumerate" p) [e] [] pos) (iEnumT X.K ta) := by
  refine ⟨fun pins s σ H R I h => ?_⟩
  have start := ha.run pos pins s σ H _ I h
  refine Call_ (ld_blt I hg hm boot_enumerate (PyProof.Rows.callWith_type1 (thn start ?_) hs rfl))
  rintro us s1 ⟨vs, H1, I1, r1, a, xs, rfl, hq, q⟩
  obtain ⟨u, rfl, ru⟩ := vals1 r1
  cases ru
  obtain ⟨its, rv, tup, hz⟩ := I1.tuple hq
  refine callEnumT tup fun h' he hit hsz hk => wpAny_pyIter_enum he ?_
  have I2 : Inv X pins σ H1 { s1 with heap := h' } := I1.kept (t' := s1.toks) hk
  refine ⟨s1.heap.objs.size + 1, [s1.heap.objs.size + 1, s1.heap.objs.size], _, _, H1, rfl, I2, turnEnumT a (s1.heap.objs.size + 1) s1.heap.objs.size, ⟨⟨.none, he⟩, hit, Nat.succ_ne_self _⟩, fun b hb => ?_, q⟩
  have hb' : b = s1.heap.objs.size + 1 ∨ b = s1.heap.objs.size := by simpa using hb
  have hle : s1.heap.objs.size ≤ b := by rcases hb' with rfl | rfl <;> omega
  exact I1.fpOk (b := b) hle (I1.hok.fresh hle)
theorem walk_enumT {K : PySem.W.Frag} {a : Addr} {xs : List V} : Walk (IteT K a) xs.length (fun H => SqT K H a xs) (YPair (fun i => some (.int (i : Nat))) (fun i => xs[i]?)) := by
  refine ⟨fun i _ hi q => ⟨xs, xs[i], q, by simp [hi]⟩, fun _ q => ⟨xs, q, rfl⟩, ?_⟩
  rintro i H v H' _ q ⟨T, x, h1, h2, h3, h4⟩
  exact ⟨T, .int (i : Nat), x, h1, h2, h3, rfl, h4 xs q⟩
end Fd

namespace Fd
open PySem PySem.Spec PyProof.Rows L2
section
variable {X : Cx} {K : PySem.W.Frag} (h : X.K = K)
include h
theorem k_sortedP : CallR X (.builtin "sorted") (rSortedPO K) := h ▸ cr_sortedPO
theorem k_isi : CallR X (.builtin "isinstance") (rIsi K) := h ▸ call_isi
theorem k_slL : SlR X (rSlL K) := h ▸ sl_list
theorem k_slT : SlR X (rSlT K) := h ▸ sl_tup
end
/-! ### ranks -/
def str (ls : List Lay) (i : Nat) : Int := ((ls[i]?).map Prod.snd).getD 0
/-- i ranks ahead of j -/
def Ahead (ls : List Lay) (i j : Nat) : Prop := str ls j < str ls i ∨ (str ls i = str ls j ∧ j < i)
instance (ls : List Lay) (i j : Nat) : Decidable (Ahead ls i j) := by unfold Ahead; infer_instance
structure IsRank (ls : List Lay) (rs : List Nat) : Prop where
  perm : rs.Perm (List.range ls.length)
  ord : rs.Pairwise (Ahead ls)
theorem IsRank.len {ls : List Lay} {rs : List Nat} (h : IsRank ls rs) : rs.length = ls.length := by
  rw [h.perm.length_eq, List.length_range]
theorem IsRank.lt {ls : List Lay} {rs : List Nat} (h : IsRank ls rs) {x : Nat} (m : x ∈ rs) : x < ls.length := List.mem_range.mp (h.perm.mem_iff.mp m)
theorem IsRank.uniq {ls : List Lay} : ∀ {rs qs : List Nat}, IsRank ls rs → IsRank ls qs → rs = qs := by
  intro rs qs h k
  have p : rs.Perm qs := h.perm.trans k.perm.symm
  refine List.Perm.eq_of_pairwise (le := Ahead ls) ?_ h.ord k.ord p
  intro a b _ _ x y
  unfold Ahead at x y
  omega
/-- how many rank ahead -/
def cntA (ls : List Lay) (x : Nat) : Nat := ((List.range ls.length).filter fun o => decide (o ≠ x) && decide (Ahead ls o x)).length
theorem cnt_at {ls : List Lay} {rs : List Nat} (h : IsRank ls rs) {k x : Nat} (e : rs[k]? = some x) : cntA ls x = k := by
  unfold cntA
  rw [← (h.perm.filter _).length_eq]
  obtain ⟨hk, ex⟩ := List.getElem?_eq_some_iff.mp e
  have split : rs = rs.take k ++ x :: rs.drop (k + 1) := by
    rw [← ex]
    exact (List.take_append_drop k rs).symm.trans (by rw [List.drop_eq_getElem_cons hk])
  have ord := h.ord
  rw [split] at ord ⊢
  rw [List.pairwise_append] at ord
  obtain ⟨_, o2, o3⟩ := ord
  have o4 := (List.pairwise_cons.mp o2).1
  rw [List.filter_append, List.filter_cons, if_neg (by simp), List.length_append]
  have f1 : (rs.take k).filter (fun o => decide (o ≠ x) && decide (Ahead ls o x)) = rs.take k := List.filter_eq_self.mpr fun y m => by
    have a := o3 y m x (List.mem_cons_self ..)
    have ne : y ≠ x := fun z => by
      subst z
      unfold Ahead at a
      omega
    simp [a, ne]
  have f2 : (rs.drop (k + 1)).filter (fun o => decide (o ≠ x) && decide (Ahead ls o x)) = [] := List.filter_eq_nil_iff.mpr fun y m => by
    have a := o4 y m
    have na : ¬ Ahead ls y x := fun b => by
      unfold Ahead at a b
      omega
    simp [na]
  rw [f1, f2, List.length_take]
  simp
  omega
theorem cnt_lt {ls : List Lay} {rs : List Nat} (h : IsRank ls rs) {x : Nat} (hx : x < ls.length) : cntA ls x < ls.length ∧ rs[cntA ls x]? = some x := by
  have m : x ∈ rs := h.perm.mem_iff.mpr (List.mem_range.mpr hx)
  obtain ⟨k, e⟩ := List.mem_iff_getElem?.mp m
  have c := cnt_at h e
  have l := (List.getElem?_eq_some_iff.mp e).1
  rw [c]
  exact ⟨by rw [← h.len]; exact l, e⟩
/-! ### the row of numbers, sorted by pairs -/
/-- from pairs (-strength, -number), sorted, to the numbers -/
theorem rank_of_sorted {ls : List Lay} {α : Type} (num : α → Nat) {xs ys : List α} (lt : α → α → Bool)
    (hlt : ∀ a ∈ xs, ∀ b ∈ xs, lt a b = true ↔ (-(str ls (num a)) < -(str ls (num b)) ∨ (-(str ls (num a)) = -(str ls (num b)) ∧ (-(num a : Int)) < -(num b : Int))))
    (hx : xs.map num = List.range ls.length) (p : ys.Perm xs) (s : SrtO.Srtd lt ys) : IsRank ls (ys.map num) := by
  have pm : (ys.map num).Perm (List.range ls.length) := hx ▸ p.map num
  have nd : (ys.map num).Nodup := pm.nodup_iff.mpr List.nodup_range
  refine ⟨pm, ?_⟩
  rw [List.pairwise_map]
  have nd2 : ys.Pairwise fun a b => num a ≠ num b := List.pairwise_map.mp nd
  have both := List.Pairwise.and_mem.mp ((s : ys.Pairwise fun x y => lt y x = false).and nd2)
  refine both.imp ?_
  rintro a b ⟨ma, mb, h1, h2⟩
  have ma' := p.mem_iff.mp ma
  have mb' := p.mem_iff.mp mb
  have no : ¬ (-(str ls (num b)) < -(str ls (num a)) ∨ (-(str ls (num b)) = -(str ls (num a)) ∧ (-(num b : Int)) < -(num a : Int))) := fun q => by
    have t := (hlt b mb' a ma').mpr q
    rw [h1] at t
    cases t
  unfold Ahead
  omega
end Fd
namespace Fd
open PySem PySem.Spec PyProof.Rows L2
/-! ### a comprehension by any relation of what it makes to data that steps keep -/
theorem pairedGet {α β : Type} {F : α → β → Prop} : ∀ {l₁ : List α} {l₂ : List β} {i : Nat} {a : α}, Paired F l₁ l₂ → l₁[i]? = some a → ∃ b, l₂[i]? = some b ∧ F a b
  | _, _, _, _, .nil, e => by simp at e
  | _, _, 0, _, .cons r _, e => by
    simp at e
    exact ⟨_, rfl, e ▸ r⟩
  | _, _, i + 1, _, .cons _ t, e => by
    obtain ⟨b, q, r⟩ := pairedGet (i := i) t (by simpa using e)
    exact ⟨b, by simpa using q, r⟩
theorem pairedApp {α β : Type} {F : α → β → Prop} : ∀ {l₁ l₃ : List α} {l₂ l₄ : List β}, Paired F l₁ l₂ → Paired F l₃ l₄ → Paired F (l₁ ++ l₃) (l₂ ++ l₄)
  | _, _, _, _, .nil, k => k
  | _, _, _, _, .cons r t, k => .cons r (pairedApp t k)
theorem lcG {K : PySem.W.Frag} {J : It} {n : Nat} {G : Hp → Prop} {Y : Nat → Hp → V → Hp → Prop} {δ : Type} (Rel : Hp → V → δ → Prop) (w : Walk J n G Y) {g : TG} {tt : TT} {te : TE} {vs : List Nat} {σ : L2.St} {H1 : Hp} {Q : VK} (p : Option Addr)
    (R : Nat → List δ → Prop) (stab : ∀ H H' v d, PotO p H → St p H H' → Rel H v d → Rel H' v d) (stabL : ∀ H D ys zs v d, H D = some (.lst ys) → Rel H v d → Rel (upd H D (.lst zs)) v d)
    (hp : PotO p H1) (hG : ∀ H, St p H1 H → G H) (hn : n ≤ 1000000) (r0 : R 0 [])
    (step : ∀ i x Ha H' ds (C : V → Hp → Prop) (N : Hp → Prop), i < n → St p H1 Ha → R i ds → Y i Ha x H' →
      (∀ y H4 d, St p Ha H4 → Rel H4 y d → R (i + 1) (ds ++ [d]) → C y H4) → (∀ H3, St p Ha H3 → R (i + 1) ds → N H3) →
      g x (wipe σ vs) H' fun σ2 H2 => wipe σ2 vs = wipe σ vs ∧ tt σ2 H2 fun b H3 => if b = true then te σ2 H3 C else N H3)
    (done : ∀ D acc ds H', H1 D = none → St p H1 H' → H' D = some (.lst acc) → Paired (Rel H') acc ds → R n ds → Q (.ref D) H') : LcK J g tt te vs σ Q H1 := by
  intro D hD
  have line : (1000000 : Nat) < sizeLine := by decide
  refine lc_it w (fun i H => ∃ acc ds, St p H1 H ∧ H D = some (.lst acc) ∧ Paired (Rel H) acc ds ∧ R i ds ∧ acc.length ≤ i) ?_ ?_ ?_ ?_
  · exact ⟨[], [], St.new hp hD, upd_same, .nil, r0, Nat.le_refl _⟩
  · rintro i H _ ⟨_, _, s, _⟩
    exact hG H s
  · rintro i x H H' hi ⟨acc, ds, s, hl, al, r, le⟩ y
    have nD : some D ≠ p := hp.ne hD
    refine step i x H H' ds _ _ hi s r y (fun z H4 d s4 hd r' => ?_) (fun H3 s3 r' => ?_)
    · have hl4 := s4.same D _ nD hl
      have al4 := Paired.mapP al fun a b q => stab H H4 a b s.pot s4 q
      exact ⟨acc, hl4, by omega, acc ++ [z], ds ++ [d], St.put hp (s.trans s4) hD, upd_same, pairedApp (Paired.mapP al4 fun a b q => stabL H4 D acc _ a b hl4 q) (.cons (stabL H4 D acc _ z d hl4 hd) .nil), r', by simp; omega⟩
    · exact ⟨acc, ds, s.trans s3, s3.same D _ nD hl, Paired.mapP al fun a b q => stab H H3 a b s.pot s3 q, r', by omega⟩
  · rintro H ⟨acc, ds, s, hl, al, r, _⟩
    exact done D acc ds H hD s hl al r
/-- a tracked pair of ints -/
def PairAt (H : Hp) (v : V) (d : Int × Int) : Prop := ∃ t, v = .ref t ∧ H t = some (.tup [.int d.1, .int d.2])
theorem pairAt_stab {p : Option Addr} (H H' : Hp) (v : V) (d : Int × Int) (h : PotO p H) (s : St p H H') (k : PairAt H v d) : PairAt H' v d := by
  obtain ⟨t, e, q⟩ := k
  exact ⟨t, e, s.same t _ (h.neT q) q⟩
theorem pairAt_upd (H : Hp) (D : Addr) (ys zs : List V) (v : V) (d : Int × Int) (e : H D = some (.lst ys)) (k : PairAt H v d) : PairAt (upd H D (.lst zs)) v d := by
  obtain ⟨t, e2, q⟩ := k
  exact ⟨t, e2, by rw [upd_ne (ne_of q e (fun z => nomatch z))]; exact q⟩
/-- what a reference to a pair of ints holds -/
def kOf (H : Hp) : V → Int × Int
  | .ref t => match H t with
    | some (.tup [.int i, .int j]) => (i, j)
    | _ => (0, 0)
  | _ => (0, 0)
theorem kOf_at {H : Hp} {v : V} {d : Int × Int} (h : PairAt H v d) : kOf H v = d := by
  obtain ⟨t, rfl, q⟩ := h
  show (match H t with | some (.tup [.int i, .int j]) => (i, j) | _ => (0, 0)) = d
  rw [q]
end Fd
namespace Fd
open PySem PySem.Spec PyProof.Rows L2
theorem rank_ex (ls : List Lay) : ∃ rs, IsRank ls rs := by
  let le : Nat → Nat → Bool := fun i j => !decide (Ahead ls j i)
  have tr : ∀ a b c, le a b = true → le b c = true → le a c = true := by
    intro a b c
    simp only [le, Bool.not_eq_true', decide_eq_false_iff_not]
    unfold Ahead
    omega
  have tot : ∀ a b, (le a b || le b a) = true := by
    intro a b
    simp only [le, Bool.or_eq_true, Bool.not_eq_true', decide_eq_false_iff_not]
    unfold Ahead
    omega
  have pm : ((List.range ls.length).mergeSort le).Perm (List.range ls.length) := List.mergeSort_perm _ _
  refine ⟨(List.range ls.length).mergeSort le, pm, ?_⟩
  have srt : ((List.range ls.length).mergeSort le).Pairwise fun a b => le a b = true := List.pairwise_mergeSort tr tot _
  have nd : ((List.range ls.length).mergeSort le).Pairwise fun a b => a ≠ b := pm.nodup_iff.mpr List.nodup_range
  refine (srt.and nd).imp ?_
  intro a b ⟨h1, h2⟩
  simp only [le, Bool.not_eq_true', decide_eq_false_iff_not] at h1
  unfold Ahead at h1 ⊢
  omega
/-- the numbers found so far, at their ranks -/
def foundV (rs : List Nat) (m : Nat) : List V := rs.map fun x => if x < m then V.int (x : Int) else V.non
theorem found_step {ls : List Lay} {rs : List Nat} (h : IsRank ls rs) {m : Nat} (hm : m < ls.length) : (foundV rs m).set (cntA ls m) (.int m) = foundV rs (m + 1) := by
  obtain ⟨_, e⟩ := cnt_lt h hm
  have nd : rs.Nodup := h.perm.nodup_iff.mpr List.nodup_range
  unfold foundV
  refine List.ext_getElem? fun j => ?_
  rw [List.getElem?_set]
  by_cases q : cntA ls m = j
  · subst q
    have l := (List.getElem?_eq_some_iff.mp e).1
    rw [if_pos rfl, if_pos (by simpa using l), List.getElem?_map, e]
    simp
  · rw [if_neg q, List.getElem?_map, List.getElem?_map]
    cases e2 : rs[j]? with
    | none => rfl
    | some x =>
      have ne : x ≠ m := fun z => by
        subst z
        exact q (nd_ix nd e e2)
      show some _ = some _
      congr 1
      show (if x < m then V.int (x : Int) else V.non) = if x < m + 1 then V.int (x : Int) else V.non
      by_cases lt : x < m
      · rw [if_pos lt, if_pos (by omega)]
      · rw [if_neg lt, if_neg (by omega)]
theorem found_zero (rs : List Nat) : foundV rs 0 = (List.replicate rs.length [V.non]).flatten := by
  unfold foundV
  induction rs with
  | nil => rfl
  | cons x r ih =>
    rw [List.map_cons, List.length_cons, List.replicate_succ, List.flatten_cons, ih]
    simp
theorem found_all {ls : List Lay} {rs : List Nat} (h : IsRank ls rs) : foundV rs ls.length = rs.map fun i : Nat => V.int i := by
  unfold foundV
  refine List.map_congr_left fun x m => ?_
  rw [if_pos (h.lt m)]
theorem str_at {ls : List Lay} {i : Nat} {l : Lay} (h : ls[i]? = some l) : str ls i = l.2 := by
  unfold str
  rw [h]
  rfl
/-- the items of a row by number -/
theorem row_at {K : PySem.W.Frag} {H : Hp} {xs : List V} {ls : List Lay} {i : Nat} (al : DpAll K H xs (ls.map layD)) (h : i < ls.length) :
    ∃ l a, ls[i]? = some l ∧ xs[i]? = some (.ref a) ∧ SqT K H a [.str l.1, .int l.2] := by
  have len := lays_len al
  obtain ⟨l, a, q, e, sq, _⟩ := lays_get al (List.getElem?_eq_getElem (show i < xs.length by omega))
  exact ⟨l, a, q, by rw [List.getElem?_eq_getElem (show i < xs.length by omega), e], sq⟩
theorem nice_nats {rs : List Nat} (n : rs.length ≤ 100) (h : ∀ i ∈ rs, i < 2 ^ 250) : Nice (.list (rs.map fun i : Nat => PyData.int i)) := by
  have e : (rs.map fun i : Nat => PyData.int i) = (rs.map fun i : Nat => (i : Int)).map PyData.int := by
    rw [List.map_map]
    rfl
  rw [e]
  refine nice_ints (by rw [List.length_map]; exact n) fun i m => ?_
  obtain ⟨j, mj, rfl⟩ := List.mem_map.mp m
  have := h j mj
  omega
end Fd

namespace Fd
open PySem PySem.Spec PyProof.Rows L2
/-! ### parts of a row by rising numbers -/
def sub (ls : List Lay) (I : List Nat) : List Lay := I.filterMap fun i => ls[i]?
structure Rising (n : Nat) (I : List Nat) : Prop where
  up : I.Pairwise (· < ·)
  lt : ∀ i ∈ I, i < n
theorem sub_get {ls : List Lay} : ∀ {I : List Nat}, (∀ i ∈ I, i < ls.length) → ∀ j : Nat, (sub ls I)[j]? = (I[j]?).bind (fun i : Nat => ls[i]?)
  | [], _, j => by simp [sub]
  | i :: I, h, j => by
    have hi := h i (List.mem_cons_self ..)
    have e : sub ls (i :: I) = ls[i] :: sub ls I := by
      unfold sub
      rw [List.filterMap_cons, List.getElem?_eq_getElem hi]
    rw [e]
    cases j with
    | zero => simp [List.getElem?_eq_getElem hi]
    | succ j =>
      rw [List.getElem?_cons_succ, List.getElem?_cons_succ]
      exact sub_get (fun k m => h k (List.mem_cons_of_mem _ m)) j
theorem sub_len {ls : List Lay} : ∀ {I : List Nat}, (∀ i ∈ I, i < ls.length) → (sub ls I).length = I.length
  | [], _ => rfl
  | i :: I, h => by
    have hi := h i (List.mem_cons_self ..)
    have e : sub ls (i :: I) = ls[i] :: sub ls I := by
      unfold sub
      rw [List.filterMap_cons, List.getElem?_eq_getElem hi]
    rw [e, List.length_cons, List.length_cons, sub_len fun k m => h k (List.mem_cons_of_mem _ m)]
theorem str_sub {ls : List Lay} {I : List Nat} (h : ∀ i ∈ I, i < ls.length) {j i : Nat} (e : I[j]? = some i) : str (sub ls I) j = str ls i := by
  unfold str
  rw [sub_get h, e]
  rfl
theorem rising_iff {n : Nat} {I : List Nat} (h : Rising n I) {j k a b : Nat} (e : I[j]? = some a) (e2 : I[k]? = some b) : a < b ↔ j < k := by
  obtain ⟨hj, rfl⟩ := List.getElem?_eq_some_iff.mp e
  obtain ⟨hk, rfl⟩ := List.getElem?_eq_some_iff.mp e2
  have up := List.pairwise_iff_getElem.mp h.up
  constructor
  · intro lt
    rcases Nat.lt_trichotomy j k with q | q | q
    · exact q
    · subst q
      exact absurd lt (Nat.lt_irrefl _)
    · have := up k j hk hj q
      omega
  · exact fun q => up j k hj hk q
theorem ahead_sub {ls : List Lay} {I : List Nat} (h : Rising ls.length I) {j k a b : Nat} (e : I[j]? = some a) (e2 : I[k]? = some b) : Ahead (sub ls I) j k ↔ Ahead ls a b := by
  unfold Ahead
  rw [str_sub h.lt e, str_sub h.lt e2, rising_iff h e2 e]
theorem range_map_get (I : List Nat) : (List.range I.length).map (fun j => I[j]?.getD 0) = I := by
  refine List.ext_getElem? fun j => ?_
  rw [List.getElem?_map]
  by_cases h : j < I.length
  · simp [List.getElem?_range h, List.getElem?_eq_getElem h]
  · rw [List.getElem?_eq_none (by simp; omega), List.getElem?_eq_none (by omega)]
    rfl
theorem fm_congr {f g : Nat → Option Lay} : ∀ {l : List Nat}, (∀ x ∈ l, f x = g x) → l.filterMap f = l.filterMap g
  | [], _ => rfl
  | x :: l, h => by
    rw [List.filterMap_cons, List.filterMap_cons, h x (List.mem_cons_self ..), fm_congr fun y m => h y (List.mem_cons_of_mem _ m)]
theorem cnt_sub {ls : List Lay} {I : List Nat} (h : Rising ls.length I) {j i : Nat} (e : I[j]? = some i) :
    cntA (sub ls I) j = (I.filter fun o => decide (o ≠ i) && decide (Ahead ls o i)).length := by
  unfold cntA
  rw [sub_len h.lt]
  conv => rhs; rw [← range_map_get I, List.filter_map, List.length_map]
  congr 1
  refine List.filter_congr fun k mk => ?_
  have hk := List.mem_range.mp mk
  have ek : I[k]? = some (I[k]?.getD 0) := by
    rw [List.getElem?_eq_getElem hk]
    rfl
  show (decide (k ≠ j) && decide (Ahead (sub ls I) k j)) = (decide (I[k]?.getD 0 ≠ i) && decide (Ahead ls (I[k]?.getD 0) i))
  have a := ahead_sub h ek e
  have b : (k = j) ↔ I[k]?.getD 0 = i := by
    have r1 := rising_iff h ek e
    have r2 := rising_iff h e ek
    omega
  rw [decide_eq_decide.mpr a, decide_eq_decide.mpr (not_congr b)]
/-! ### thinned -/
def keep (ls : List Lay) (m : Nat) : List Nat := (List.range ls.length).filter fun i => decide (cntA ls i < m)
def thinL (ls : List Lay) (m : Nat) : List Lay := sub ls (keep ls m)
theorem keep_rising (ls : List Lay) (m : Nat) : Rising ls.length (keep ls m) :=
  ⟨List.Pairwise.filter _ List.pairwise_lt_range, fun i h => List.mem_range.mp (List.mem_filter.mp h).1⟩
theorem cnt_mono {ls : List Lay} {a b : Nat} (ha : a < ls.length) (hb : b < ls.length) (h : Ahead ls a b) : cntA ls a < cntA ls b := by
  obtain ⟨rs, rk⟩ := rank_ex ls
  obtain ⟨_, ea⟩ := cnt_lt rk ha
  obtain ⟨_, eb⟩ := cnt_lt rk hb
  obtain ⟨l1, g1⟩ := List.getElem?_eq_some_iff.mp ea
  obtain ⟨l2, g2⟩ := List.getElem?_eq_some_iff.mp eb
  have ord := List.pairwise_iff_getElem.mp rk.ord
  rcases Nat.lt_trichotomy (cntA ls a) (cntA ls b) with q | q | q
  · exact q
  · have : a = b := by
      rw [← g1, ← g2]
      simp [q]
    subst this
    unfold Ahead at h
    omega
  · have := ord _ _ l2 l1 q
    rw [g1, g2] at this
    unfold Ahead at h this
    omega
/-- in the thinned row each keeps its rank -/
theorem cnt_thin {ls : List Lay} {m j i : Nat} (e : (keep ls m)[j]? = some i) : cntA (thinL ls m) j = cntA ls i := by
  unfold thinL
  rw [cnt_sub (keep_rising ls m) e]
  have mi := List.mem_of_getElem? e
  obtain ⟨m1, m2⟩ := List.mem_filter.mp mi
  have hi := List.mem_range.mp m1
  have lm := of_decide_eq_true m2
  unfold keep
  rw [List.filter_filter]
  unfold cntA
  congr 1
  refine List.filter_congr fun o mo => ?_
  have ho := List.mem_range.mp mo
  by_cases a : Ahead ls o i
  · have c := cnt_mono ho hi a
    have : decide (cntA ls o < m) = true := decide_eq_true (by omega)
    unfold cntA at this
    rw [this, Bool.and_true]
  · simp [a]
theorem thin_len {ls : List Lay} {m : Nat} : (thinL ls m).length = (keep ls m).length := sub_len (keep_rising ls m).lt
theorem sub_sub {ls : List Lay} {I : List Nat} (h : ∀ i ∈ I, i < ls.length) (f : Nat → Bool) (g : Nat → Bool) (hfg : ∀ j i, I[j]? = some i → f j = g i) :
    sub (sub ls I) ((List.range I.length).filter f) = sub ls (I.filter g) := by
  have e1 : sub (sub ls I) ((List.range I.length).filter f) = sub ls (((List.range I.length).filter f).map fun j => I[j]?.getD 0) := by
    unfold sub
    rw [List.filterMap_map]
    refine fm_congr fun j mj => ?_
    have hj := List.mem_range.mp (List.mem_filter.mp mj).1
    have q := sub_get h j
    unfold sub at q
    rw [q, List.getElem?_eq_getElem hj]
    simp [List.getElem?_eq_getElem hj]
  rw [e1]
  congr 1
  conv => rhs; rw [← range_map_get I, List.filter_map]
  congr 1
  refine List.filter_congr fun j mj => ?_
  have hj := List.mem_range.mp mj
  exact hfg j _ (by simp [List.getElem?_eq_getElem hj])
theorem thin_thin {ls : List Lay} {m k : Nat} : thinL (thinL ls m) k = thinL ls (min m k) := by
  have e : keep (thinL ls m) k = (List.range (keep ls m).length).filter fun j => decide (cntA (thinL ls m) j < k) := by
    unfold keep
    rw [thin_len]
    rfl
  have e2 : thinL (thinL ls m) k = sub (sub ls (keep ls m)) ((List.range (keep ls m).length).filter fun j => decide (cntA (thinL ls m) j < k)) := by
    show sub (thinL ls m) (keep (thinL ls m) k) = _
    rw [e]
    rfl
  rw [e2, sub_sub (keep_rising ls m).lt _ (fun i => decide (cntA ls i < k)) (fun j i q => by rw [cnt_thin q])]
  unfold thinL keep
  rw [List.filter_filter]
  congr 1
  refine List.filter_congr fun o _ => ?_
  rw [← Bool.decide_and]
  refine decide_eq_decide.mpr ?_
  omega
theorem thin_all {ls : List Lay} {m : Nat} (h : ls.length ≤ m) : thinL ls m = ls := by
  have e : keep ls m = List.range ls.length := List.filter_eq_self.mpr fun i mi => by
    obtain ⟨rs, rk⟩ := rank_ex ls
    have := (cnt_lt rk (List.mem_range.mp mi)).1
    exact decide_eq_true (by omega)
  unfold thinL
  rw [e]
  refine List.ext_getElem? fun j => ?_
  rw [sub_get (fun i m => List.mem_range.mp m)]
  by_cases hj : j < ls.length
  · rw [List.getElem?_range hj]
    simp
  · rw [List.getElem?_eq_none (show (List.range ls.length).length ≤ j by simp; omega), List.getElem?_eq_none (by omega)]
    rfl
theorem keep_len {ls : List Lay} {m : Nat} : (keep ls m).length ≤ m := by
  obtain ⟨rs, rk⟩ := rank_ex ls
  have nd : (keep ls m).Nodup := (List.nodup_range (n := ls.length)).sublist List.filter_sublist
  have sb : ∀ x ∈ keep ls m, x ∈ rs.take m := fun x mx => by
    obtain ⟨m1, m2⟩ := List.mem_filter.mp mx
    have lt := of_decide_eq_true m2
    obtain ⟨_, e⟩ := cnt_lt rk (List.mem_range.mp m1)
    refine List.mem_of_getElem? (i := cntA ls x) ?_
    rw [List.getElem?_take_of_lt lt]
    exact e
  have := pigeon _ _ nd sb
  rw [List.length_take] at this
  omega
/-- the numbers that are kept, from those ranked first -/
theorem keep_of_take {ls : List Lay} {rs : List Nat} (rk : IsRank ls rs) {m : Nat} {ms : List Nat} (p : ms.Perm (rs.take m)) (up : ms.Pairwise (· ≤ ·)) : ms = keep ls m := by
  have nd : rs.Nodup := rk.perm.nodup_iff.mpr List.nodup_range
  have mem : ∀ x, x ∈ rs.take m ↔ x ∈ keep ls m := by
    intro x
    unfold keep
    rw [List.mem_filter, List.mem_range, decide_eq_true_eq]
    constructor
    · intro mx
      obtain ⟨k, e⟩ := List.mem_iff_getElem?.mp mx
      have hk : k < m := by
        have := (List.getElem?_eq_some_iff.mp e).1
        rw [List.length_take] at this
        omega
      rw [List.getElem?_take_of_lt hk] at e
      exact ⟨rk.lt (List.mem_of_getElem? e), by rw [cnt_at rk e]; exact hk⟩
    · rintro ⟨lt, c⟩
      obtain ⟨_, e⟩ := cnt_lt rk lt
      refine List.mem_of_getElem? (i := cntA ls x) ?_
      rw [List.getElem?_take_of_lt c]
      exact e
  have nt : (rs.take m).Nodup := nd.sublist (List.take_sublist _ _)
  have nk : (keep ls m).Nodup := (List.nodup_range (n := ls.length)).sublist List.filter_sublist
  have p2 : (rs.take m).Perm (keep ls m) := (List.perm_ext_iff_of_nodup nt nk).mpr mem
  refine List.Perm.eq_of_pairwise (le := (· ≤ ·)) ?_ up ?_ (p.trans p2)
  · intro a b _ _ x y
    omega
  · exact (keep_rising ls m).up.imp fun h => Nat.le_of_lt h
theorem thin_mem {ls : List Lay} {m : Nat} {x : Lay} (h : x ∈ thinL ls m) : x ∈ ls := by
  obtain ⟨i, _, e⟩ := List.mem_filterMap.mp h
  exact List.mem_of_getElem? e
end Fd
namespace Fd
open PySem PySem.Spec PyProof.Rows L2
section
variable {X : Cx} {K : PySem.W.Frag} (h : X.K = K)
include h
theorem k_sortedI : CallR X (.builtin "sorted") (rSortedI K) := h ▸ cr_sortedI
end
theorem cut_take (xs : List V) (m : Nat) : cutV xs none (some (m : Int)) = xs.take m := by
  unfold cutV
  rw [HT.sIx_none, HT.sIx_nat, List.drop_zero, Nat.sub_zero]
  exact List.take_eq_take_iff.mpr (by omega)
theorem sorted_keep {ls : List Lay} {rs : List Nat} (rk : IsRank ls rs) {m : Nat} {ns : List Int} (p : ns.Perm ((rs.take m).map fun i : Nat => (i : Int))) (up : ns.Pairwise (· ≤ ·)) :
    ns = (keep ls m).map fun i : Nat => (i : Int) := by
  have nn : ∀ x ∈ ns, ∃ i : Nat, x = (i : Int) := fun x mx => by
    obtain ⟨i, _, e⟩ := List.mem_map.mp (p.mem_iff.mp mx)
    exact ⟨i, e.symm⟩
  have e : ns = (ns.map Int.toNat).map fun i : Nat => (i : Int) := by
    rw [List.map_map]
    conv => lhs; rw [← List.map_id ns]
    refine List.map_congr_left fun x mx => ?_
    obtain ⟨i, rfl⟩ := nn x mx
    rfl
  have p2 : (ns.map Int.toNat).Perm (rs.take m) := by
    have q := p.map Int.toNat
    rw [List.map_map] at q
    have id_ : (Int.toNat ∘ fun i : Nat => (i : Int)) = id := by
      funext i
      rfl
    rw [id_, List.map_id] at q
    exact q
  have up2 : (ns.map Int.toNat).Pairwise (· ≤ ·) := List.pairwise_map.mpr (up.imp fun {a b} h => by omega)
  rw [e, keep_of_take rk p2 up2]
theorem sub_append (ls : List Lay) (I J : List Nat) : sub ls (I ++ J) = sub ls I ++ sub ls J := by
  unfold sub
  exact List.filterMap_append ..
theorem sub_one {ls : List Lay} {i : Nat} {l : Lay} (h : ls[i]? = some l) : sub ls [i] = [l] := by
  simp [sub, h]
theorem sub_take {ls : List Lay} {I : List Nat} {j i : Nat} {l : Lay} (e : I[j]? = some i) (h : ls[i]? = some l) : sub ls (I.take (j + 1)) = sub ls (I.take j) ++ [l] := by
  rw [List.take_add_one, e, sub_append]
  congr 1
  exact sub_one h
theorem flen_or {α : Type} {p q r : α → Bool} : ∀ {l : List α}, (∀ x ∈ l, p x = (q x || r x) ∧ ¬ (q x = true ∧ r x = true)) → (l.filter p).length = (l.filter q).length + (l.filter r).length
  | [], _ => rfl
  | x :: l, h => by
    obtain ⟨a, b⟩ := h x (List.mem_cons_self ..)
    have ih := flen_or (l := l) fun y m => h y (List.mem_cons_of_mem _ m)
    rw [List.filter_cons, List.filter_cons, List.filter_cons, a]
    cases hq : q x <;> cases hr : r x <;> simp_all <;> omega
theorem cnt_parts {ls : List Lay} {x : Nat} (h : x < ls.length) : cntA ls x = ((List.range ls.length).filter fun o => decide (str ls x < str ls o)).length +
    ((List.range (ls.length - (x + 1))).filter fun j => decide (str ls (x + 1 + j) = str ls x)).length := by
  unfold cntA
  rw [flen_or (q := fun o => decide (str ls x < str ls o)) (r := fun o => decide (str ls o = str ls x) && decide (x < o)) (fun o _ => ?_)]
  · congr 1
    have e : ls.length = (x + 1) + (ls.length - (x + 1)) := by omega
    conv => lhs; rw [e, List.range_add, List.filter_append, List.length_append, List.filter_map, List.length_map]
    have z : (List.range (x + 1)).filter (fun o => decide (str ls o = str ls x) && decide (x < o)) = [] := List.filter_eq_nil_iff.mpr fun o m => by
      have := List.mem_range.mp m
      simp
      omega
    rw [z, List.length_nil, Nat.zero_add]
    congr 1
    refine List.filter_congr fun j _ => ?_
    have : decide (x < x + 1 + j) = true := decide_eq_true (by omega)
    simp [this]
  · unfold Ahead
    by_cases a : str ls x < str ls o <;> by_cases b : str ls o = str ls x <;> by_cases c : x < o <;> by_cases d : o = x <;> simp_all <;> omega
end Fd
namespace Fd
open PySem PySem.Spec PyProof.Rows L2
/-- over a range, the target a name, with a test -/
theorem lcRngT {K : PySem.W.Frag} {n : Nat} {tt : TT} {te : TE} {vs : List Nat} {σ : L2.St} {H1 : Hp} {Q : VK} {lo : Int} {j : Nat} (p : Option Addr) (at_ : Nat → Int) (hat : ∀ i : Nat, lo + (i : Int) = at_ i) (R : Nat → List PyData → Prop) (hp : PotO p H1) (hn : n ≤ 1000000) (r0 : R 0 []) (hw : ∀ x, wipe ((wipe σ vs).set j (some x)) vs = wipe σ vs)
    (step : ∀ i Ha ds (C : V → Hp → Prop) (N : Hp → Prop), i < n → St p H1 Ha → flatTs ds = true → R i ds →
      (∀ y H4 d, St p Ha H4 → flatT d = true → Dp K H4 y d → R (i + 1) (ds ++ [d]) → C y H4) → (∀ H3, St p Ha H3 → R (i + 1) ds → N H3) →
      tt ((wipe σ vs).set j (some (.int (at_ i)))) Ha fun b H3 => if b = true then te ((wipe σ vs).set j (some (.int (at_ i)))) H3 C else N H3)
    (done : ∀ D acc ds H', H1 D = none → St p H1 H' → H' D = some (.lst acc) → flatTs ds = true → DpAll K H' acc ds → R n ds → Q (.ref D) H') : LcK (Itr lo n) (gName j) tt te vs σ Q H1 := by
  refine lcW walk_range p R hp (fun _ _ => trivial) hn r0 ?_ done
  rintro i x Ha H' ds C N hi s fl r ⟨rfl, rfl⟩ k k2
  show gName j (V.int (lo + (i : Int))) _ _ _
  rw [hat]
  exact ⟨hw _, step i _ ds C N hi s fl r k k2⟩
theorem filt_succ (f : Nat → Bool) (m : Nat) : (List.range (m + 1)).filter f = (List.range m).filter f ++ (if f m = true then [m] else []) := by
  rw [List.range_succ, List.filter_append]
  congr 1
  rw [List.filter_cons]
  split <;> rfl
end Fd

namespace Fd
open PySem PySem.Spec PyProof.Rows L2
/-! ### t[lo:hi] and t + u of any tuples -/
def rSlF (K : PySem.W.Frag) : V → Option Int → Option Int → Hp → VK → Prop := fun x lo hi H Q => ∃ a xs, x = .ref a ∧ SqT K H a xs ∧ ∀ p H', Same H H' → SqT K H' p (cutV xs lo hi) → Q (.ref p) H'
def rCatF (K : PySem.W.Frag) : R2 := fun x y H Q => ∃ a b xs ys, x = .ref a ∧ y = .ref b ∧ SqT K H a xs ∧ SqT K H b ys ∧ xs.length + ys.length ≤ sizeLine ∧ ∀ p H', Same H H' → SqT K H' p (xs ++ ys) → Q (.ref p) H'
theorem cut_whole {xs : List V} {lo hi : Option Int} (h : HT.sIx xs.length 0 lo = 0 ∧ HT.sIx xs.length xs.length hi = xs.length) : cutV xs lo hi = xs := by
  unfold cutV
  rw [h.1, h.2, List.drop_zero, Nat.sub_zero, List.take_length]
section
variable {X : Cx} {K : PySem.W.Frag} (h : X.K = K)
include h
theorem k_slS : SlR X (rSlF K) := by
  subst h
  intro pins s σ H x v vl vu lo hi sl Q I rx hs pl pu q
  refine sl_tupA pins s σ H x v vl vu lo hi sl Q I rx hs pl pu ?_
  obtain ⟨a, xs, rfl, hx, k⟩ := q
  exact ⟨a, xs, rfl, hx, fun w => k a H (Same.refl _) (by rw [cut_whole w]; exact hx), fun _ p hp => k p _ (same_new hp) (SqT.of upd_same)⟩
theorem k_catS : OpR X (binaryOp .Add) (rCatF K) := by
  subst h
  intro pins s σ H x y v u Q I rx ry q
  refine op_catA pins s σ H x y v u Q I rx ry ?_
  obtain ⟨a, b, xs, ys, rfl, rfl, ha, hb, hz, k⟩ := q
  refine ⟨a, b, xs, ys, rfl, rfl, ha, hb, hz, fun e => k b H (Same.refl _) (by rw [e]; exact hb), fun _ e => k a H (Same.refl _) (by rw [e, List.append_nil]; exact ha), fun _ _ p hp => k p _ (same_new hp) (SqT.of upd_same)⟩
theorem k_max (hc : X.calm = true) : CallR X (.builtin "max") (rMax K) := h ▸ cr_max hc
end
theorem cut_drop (xs : List V) (m : Nat) : cutV xs (some (m : Int)) none = xs.drop m := by
  unfold cutV
  rw [HT.sIx_none, HT.sIx_nat]
  by_cases h : m ≤ xs.length
  · rw [Nat.min_eq_left h]
    exact List.take_of_length_le (by rw [List.length_drop]; omega)
  · rw [Nat.min_eq_right (by omega), List.drop_length, List.drop_eq_nil_of_le (by omega), List.take_nil]
theorem DpAll.take {K : PySem.W.Frag} {H : Hp} : ∀ {vs : List V} {ds : List PyData} (n : Nat), DpAll K H vs ds → DpAll K H (vs.take n) (ds.take n)
  | _, _, 0, _ => .nil
  | _, _, _ + 1, .nil => .nil
  | _, _, n + 1, .cons a b => .cons a (DpAll.take n b)
theorem DpAll.drop {K : PySem.W.Frag} {H : Hp} : ∀ {vs : List V} {ds : List PyData} (n : Nat), DpAll K H vs ds → DpAll K H (vs.drop n) (ds.drop n)
  | _, _, 0, h => h
  | _, _, _ + 1, .nil => .nil
  | _, _, n + 1, .cons _ b => DpAll.drop n b
/-! ### the first of a row -/
structure IsTop (ls : List Lay) (t : Nat) : Prop where
  lt : t < ls.length
  all : ∀ j, j < ls.length → j ≠ t → Ahead ls t j
theorem IsTop.uniq {ls : List Lay} {t u : Nat} (h : IsTop ls t) (k : IsTop ls u) : t = u := by
  by_cases e : t = u
  · exact e
  · have a := h.all u k.lt (fun z => e z.symm)
    have b := k.all t h.lt e
    unfold Ahead at a b
    omega
theorem top_of_rank {ls : List Lay} {i : Nat} {rs : List Nat} (h : IsRank ls (i :: rs)) : IsTop ls i := by
  refine ⟨h.lt (List.mem_cons_self ..), fun j hj ne => ?_⟩
  have mj : j ∈ i :: rs := h.perm.mem_iff.mpr (List.mem_range.mpr hj)
  rcases List.mem_cons.mp mj with e | mj
  · exact absurd e ne
  · exact (List.pairwise_cons.mp h.ord).1 j mj
/-- the row with its first rubbed by n; the row without its first -/
def rubL (ls : List Lay) (t : Nat) (n : Int) : List Lay := ls.modify t fun l => (l.1, l.2 - n)
theorem rub_get {ls : List Lay} {t i : Nat} {n : Int} {l : Lay} (h : ls[i]? = some l) : (rubL ls t n)[i]? = some (l.1, if i = t then l.2 - n else l.2) := by
  unfold rubL
  rw [List.getElem?_modify, h]
  by_cases e : i = t
  · simp [e]
  · have e' : ¬ t = i := fun z => e z.symm
    simp [e, e']
theorem rub_len {ls : List Lay} {t : Nat} {n : Int} : (rubL ls t n).length = ls.length := by
  unfold rubL
  rw [List.length_modify]
theorem rub_parts {ls : List Lay} {t : Nat} {n : Int} {l : Lay} (hp : ∀ x ∈ ls, 0 < x.2) (h : ls[t]? = some l) :
    (rubL ls t n).filter pos = ls.take t ++ (if l.2 ≤ n then [] else [(l.1, l.2 - n)]) ++ ls.drop (t + 1) := by
  obtain ⟨ht, e⟩ := List.getElem?_eq_some_iff.mp h
  unfold rubL
  rw [List.modify_eq_take_cons_drop ht, e, List.filter_append, List.filter_cons]
  have f1 : (ls.take t).filter pos = ls.take t := List.filter_eq_self.mpr fun x m => decide_eq_true (hp x (List.mem_of_mem_take m))
  have f2 : (ls.drop (t + 1)).filter pos = ls.drop (t + 1) := List.filter_eq_self.mpr fun x m => decide_eq_true (hp x (List.mem_of_mem_drop m))
  rw [f1, f2]
  by_cases q : l.2 ≤ n
  · rw [if_neg (by simp [pos]; omega), if_pos q, List.append_nil]
  · rw [if_pos (by simp [pos]; omega), if_neg q, List.append_assoc]
    rfl
theorem erase_step {ls : List Lay} {t i : Nat} {l : Lay} (h : ls[i]? = some l) : (ls.take (i + 1)).eraseIdx t = (ls.take i).eraseIdx t ++ (if i = t then [] else [l]) := by
  have hi := (List.getElem?_eq_some_iff.mp h).1
  have len : (ls.take i).length = i := by rw [List.length_take]; omega
  rw [List.take_add_one, h]
  show (ls.take i ++ [l]).eraseIdx t = _
  rcases Nat.lt_trichotomy t i with q | q | q
  · rw [List.eraseIdx_append_of_lt_length (by omega), if_neg (by omega)]
  · subst q
    rw [if_pos rfl, List.eraseIdx_append_of_length_le (by omega), len, Nat.sub_self, List.eraseIdx_of_length_le (l := ls.take t) (by omega)]
    rfl
  · rw [if_neg (by omega), List.eraseIdx_of_length_le (by simp; omega), List.eraseIdx_of_length_le (by omega)]
end Fd
namespace Fd
open PySem PySem.Spec PyProof.Rows L2
theorem lcK {K : PySem.W.Frag} {J : It} {n : Nat} {G : Hp → Prop} {Y : Nat → Hp → V → Hp → Prop} (w : Walk J n G Y) {g : TG} {tt : TT} {te : TE} {vs : List Nat} {σ : L2.St} {H1 : Hp} {Q : VK} (p : Option Addr) (R : Nat → List PyData → Prop)
    (hp : PotO p H1) (hG : ∀ H, St p H1 H → G H) (hn : n ≤ 1000000) (r0 : R 0 [])
    (step : ∀ i x Ha H' ds (C : V → Hp → Prop) (N : Hp → Prop), i < n → St p H1 Ha → flatTs ds = true → R i ds → Y i Ha x H' →
      (∀ y H4 d, St p Ha H4 → flatT d = true → Dp K H4 y d → R (i + 1) (ds ++ [d]) → C y H4) → (∀ H3, St p Ha H3 → R (i + 1) ds → N H3) →
      g x (wipe σ vs) H' fun σ2 H2 => wipe σ2 vs = wipe σ vs ∧ tt σ2 H2 fun b H3 => if b = true then te σ2 H3 C else N H3)
    (done : ∀ D acc ds H', H1 D = none → St p H1 H' → H' D = some (.lst acc) → flatTs ds = true → DpAll K H' acc ds → R n ds → Q (.ref D) H') : LcK J g tt te vs σ Q H1 :=
  lcW w p R hp hG hn r0 step done
end Fd
namespace Fd
open PySem PySem.Spec PyProof.Rows L2
theorem sameT {K : PySem.W.Frag} {H H1 : Hp} {a : Addr} {xs : List V} (s : Same H H1) (h : SqT K H a xs) : SqT K H1 a xs := St.tup potN (St.ofSame potN s) h
theorem dpsSame {K : PySem.W.Frag} {H H1 : Hp} {vs : List V} {ds : List PyData} (s : Same H H1) (z : flatTs ds = true) (k : DpAll K H vs ds) : DpAll K H1 vs ds := dpsSt potN (St.ofSame potN s) z k
end Fd

/-! ### sorted, of layers: pairs of a text and an int -/
namespace Fd
open PySem PySem.Spec PyProof.Rows L2 SrtO Srt
/-- x before y: by tag, then by strength -/
def ltL (x y : Lay) : Bool := if x.1 = y.1 then decide (x.2 < y.2) else decide (x.1.cps.toList < y.1.cps.toList)
theorem str_eq {x y : Str} (h : x.cps.toList = y.cps.toList) : x = y := by
  cases x with
  | mk a =>
    cases y with
    | mk b =>
      have : a = b := Array.toList_inj.mp h
      rw [this]
def leL (x y : Lay) : Prop := ltL y x = false
theorem ltL_iff {x y : Lay} : ltL x y = true ↔ (x.1 = y.1 ∧ x.2 < y.2) ∨ (x.1 ≠ y.1 ∧ x.1.cps.toList < y.1.cps.toList) := by
  unfold ltL
  by_cases e : x.1 = y.1
  · rw [if_pos e, decide_eq_true_eq]
    simp [e]
  · rw [if_neg e, decide_eq_true_eq]
    simp [e]
theorem swoL : Swo ltL := by
  have no : ∀ {x y : Lay}, ltL x y = false ↔ ¬ ((x.1 = y.1 ∧ x.2 < y.2) ∨ (x.1 ≠ y.1 ∧ x.1.cps.toList < y.1.cps.toList)) := fun {x y} => by
    rw [← ltL_iff]
    simp
  refine ⟨fun x y h => no.mpr fun k => ?_, fun x y z h1 h2 => no.mpr fun k => ?_⟩
  · rcases ltL_iff.mp h with ⟨a, b⟩ | ⟨a, b⟩
    · rcases k with ⟨c, d⟩ | ⟨c, d⟩
      · omega
      · exact c a.symm
    · rcases k with ⟨c, d⟩ | ⟨c, d⟩
      · exact a c.symm
      · exact absurd (List.lt_trans b d) (List.lt_irrefl _)
  · have n1 := no.mp h1
    have n2 := no.mp h2
    rcases k with ⟨c, d⟩ | ⟨c, d⟩
    · by_cases e : y.1 = x.1
      · have e1 : ¬ y.2 < x.2 := fun q => n1 (.inl ⟨e, q⟩)
        have e2 : ¬ z.2 < y.2 := fun q => n2 (.inl ⟨by rw [c, e], q⟩)
        omega
      · have e1 : ¬ y.1.cps.toList < x.1.cps.toList := fun q => n1 (.inr ⟨e, q⟩)
        have e2 : ¬ z.1.cps.toList < y.1.cps.toList := fun q => n2 (.inr ⟨by rw [c]; exact fun w => e w.symm, q⟩)
        rw [c] at e2
        exact e (str_eq (List.le_antisymm e2 e1))
    · have l1 : x.1.cps.toList ≤ y.1.cps.toList := by
        by_cases e : y.1 = x.1
        · rw [e]
          exact List.le_refl _
        · exact fun q => n1 (.inr ⟨e, q⟩)
      have l2 : y.1.cps.toList ≤ z.1.cps.toList := by
        by_cases e : z.1 = y.1
        · rw [e]
          exact List.le_refl _
        · exact fun q => n2 (.inr ⟨e, q⟩)
      exact (List.le_trans l1 l2) d
/-- a value that is a layer -/
def IsLay (h : Heap) (v : Value) (l : Lay) : Prop := ∃ a o t u n, v = .ref a ∧ h.get? a = some o ∧ o.cls = .type "tuple" ∧ o.data = .seq #[.str l.1 t, .int l.2 u] n
theorem IsLay.keeps {h h' : Heap} {v : Value} {l : Lay} (p : IsLay h v l) (k : ∀ b o, h.get? b = some o → o.cls = .type "tuple" → h'.get? b = some o) : IsLay h' v l := by
  obtain ⟨a, o, t, u, n, e, ho, hc, hd⟩ := p
  exact ⟨a, o, t, u, n, e, k _ _ ho hc, hc, hd⟩
theorem IsLay.uniq {h : Heap} {v : Value} {l m : Lay} (p : IsLay h v l) (q : IsLay h v m) : l = m := by
  obtain ⟨a, o, t, u, n, e, ho, hc, hd⟩ := p
  obtain ⟨a', o', t', u', n', e', ho', hc', hd'⟩ := q
  rw [e] at e'
  cases e'
  rw [ho] at ho'
  cases ho'
  rw [hd] at hd'
  injection hd' with h1 h2
  have h3 := congrArg Array.toList h1
  simp at h3
  obtain ⟨⟨x1, _⟩, ⟨x2, _⟩⟩ := h3
  exact Prod.ext x1 x2
section
variable {prog : Program} {w : World} {A : Around} {E : Value → Shared → Prop} {s : Shared}
theorem firstsL {h : Heap} : ∀ {vs : List Value}, (∀ v ∈ vs, ∃ l, IsLay h v l) → ∃ fs : List Value, PySem.W.KatTups h vs fs ∧ fs.length = vs.length ∧ ∀ f ∈ fs, ∃ x t, f = Value.str x t
  | [], _ => ⟨[], PySem.W.KatTups.nil, rfl, fun _ hm => by simp at hm⟩
  | v :: vs, hp => by
    obtain ⟨fs, h1, h2, h3⟩ := firstsL (vs := vs) fun v' hm => hp v' (List.mem_cons_of_mem _ hm)
    obtain ⟨l, a, o, t, u, n, e, ho, hc, hd⟩ := hp v (List.mem_cons_self ..)
    subst e
    refine ⟨.str l.1 t :: fs, PySem.W.KatTups.cons ho hc hd rfl h1, by rw [List.length_cons, List.length_cons, h2], fun f hm => ?_⟩
    rcases List.mem_cons.mp hm with rfl | hm
    · exact ⟨l.1, t, rfl⟩
    · exact h3 f hm
theorem layCmp {vs : List Value} {k : Value → Lay} (hp : ∀ v ∈ vs, IsLay s.heap v (k v)) : Cmp prog w A s (tuples' true) (fun p => p.1 ∈ vs) (lt2 fun v u => ltL (k v) (k u)) := by
  intro p q hm hm'
  have h1 := hp _ hm
  have h2 := hp _ hm'
  show wpAny (model prog w) A (keyLt' (tuples' true) p.1 q.1) (fun r s' => s' = s ∧ r = ltL (k p.1) (k q.1)) (fun _ _ => False) s
  unfold ltL
  generalize (k p.1) = l at h1 ⊢
  generalize (k q.1) = m at h2 ⊢
  obtain ⟨x, y⟩ := l
  obtain ⟨x', y'⟩ := m
  obtain ⟨a, o, t, u, n, e, ho, hc, hd⟩ := h1
  obtain ⟨a', o', t', u', n', e', ho', hc', hd'⟩ := h2
  rw [e, e']
  refine PySem.W.kat_lt ho hd ho' hd' ?_
  show PySem.W.KatLex prog w A true (decide (2 < 2)) _ [(.str x t, .str x' t'), (.int y u, .int y' u')] 0 s
  refine PySem.W.kat_cons (SeqAt.EqAt.str_str x t x' t' prog w _ _ ?_)
  refine PySem.W.kat_go (fun e1 => ?_) (fun e1 => ?_)
  · have ex : x = x' := by simpa using e1
    refine PySem.W.kat_yes (PySem.W.kat_cons (SeqAt.EqAt.int_int y u y' u' prog w _ _ ?_))
    refine PySem.W.kat_go (fun e2 => ?_) (fun e2 => ?_)
    · have ey : y = y' := by simpa using e2
      have e3 : (if x = x' then decide (y < y') else decide (x.cps.toList < x'.cps.toList)) = false := by
        rw [if_pos ex, ey]
        exact decide_eq_false (Int.lt_irrefl _)
      exact PySem.W.kat_yes (PySem.W.kat_nil ⟨rfl, e3.symm⟩)
    · have e3 : (if x = x' then decide (y < y') else decide (x.cps.toList < x'.cps.toList)) = decide (y < y') := if_pos ex
      refine PySem.W.kat_no (PySem.W.kat_one _ _ (PyProof.Rows.lt_int ?_))
      exact (show s = s ∧ decide (y < y') = (if x = x' then decide (y < y') else decide (x.cps.toList < x'.cps.toList)) from ⟨rfl, e3.symm⟩)
  · have ex : ¬ x = x' := by simpa using e1
    have e3 : (if x = x' then decide (y < y') else decide (x.cps.toList < x'.cps.toList)) = decide (x.cps.toList < x'.cps.toList) := if_neg ex
    exact PySem.W.kat_no (oneLt_str ⟨rfl, e3.symm⟩)
theorem laysSortable {a : Addr} {vs : List Value} {k : Value → Lay} (h0 : 0 < vs.length) (hp : ∀ v ∈ vs, IsLay s.heap v (k v)) (ha : ∀ o, s.heap.get? a = some o → o.cls ≠ .type "tuple") : SortableO prog w A s a vs fun v u => ltL (k v) (k u) := by
  intro h' keep
  have hp' : ∀ v ∈ vs, IsLay h' v (k v) := fun v hm => (hp v hm).keeps fun b o e c => keep b o (fun z => by subst z; exact ha o e c) e
  obtain ⟨fs, h1, h2, h3⟩ := firstsL fun v hm => ⟨_, hp' v hm⟩
  refine ⟨tuples' true, fun Q E hq => ?_, layCmp hp'⟩
  refine PySem.W.kat_kind (T := .type "str") h1 (by omega) (fun f hm => ?_) (by rfl) ?_
  · obtain ⟨x, t, rfl⟩ := h3 f hm
    exact PySem.W.Looks.now
  · have e : (Value.type "str" != Value.type "tuple") = true := by first | decide +kernel | rfl | decide
    rw [e]
    exact hq
theorem sortedLays {l : Addr} {vs : List Value} {k : Value → Lay} {Q : Value → Shared → Prop} (hl : s.heap.IsList l vs.toArray) (hz : vs.length ≤ sizeLine) (hp : ∀ v ∈ vs, IsLay s.heap v (k v))
    (h : ∀ (h' : Heap) (d : Addr) (out : List Value), Srtd (fun v u => ltL (k v) (k u)) out → Stb (fun v u => ltL (k v) (k u)) out vs → (∀ b o, s.heap.get? b = some o → h'.get? b = some o) → s.heap.objs.size ≤ d → (∃ n, h'.get? d = some (seqObj "list" out.toArray n)) → Q (.ref d) { s with heap := h' }) :
    wpAny (model prog w) A (call (.builtin "sorted") [.ref l]) Q E s := by
  have O : Swo fun v u => ltL (k v) (k u) := ⟨fun x y h => swoL.asym _ _ h, fun x y z h1 h2 => swoL.tr _ _ _ h1 h2⟩
  refine sorted_ord O hl hz (fun h2 h₁ a ha kk => ?_) fun out hs hb => ?_
  · refine laysSortable (s := { s with heap := h₁ }) (by omega) (fun v hm => (hp v hm).keeps fun b o e _ => (kk b o e).2) fun o e => ?_
    have e' : some o = some (seqObj "list" vs.toArray 0) := e.symm.trans ha
    cases e'
    intro c
    exact absurd (Value.type.inj c) (by decide)
  · exact h _ _ out hs hb (fun b o e => sortedAll_old e) (Nat.le_succ _) (sortedAll_at s.heap vs out.toArray)
end
/-- sorted(xs), xs a list of layers -/
def rSortedL (K : PySem.W.Frag) : List V → Hp → VK → Prop := fun vs H Q => ∃ (a : Addr) (xs : List V) (ls : List Lay), vs = [V.ref a] ∧ SqL K H a xs ∧ DpAll K H xs (ls.map layD) ∧
  ∀ (ys : List V) (ms : List Lay) (p : Addr), ms.Perm ls → ms.Pairwise leL → DpAll K H ys (ms.map layD) → H p = none → Q (.ref p) (upd H p (.lst ys))
section
variable {X : Cx} {K : PySem.W.Frag}
theorem laysOf {pins : List (Addr × Obj)} {σ : L2.St} {H : Hp} {s : Shared} {xs : List V} {its : List Value} {ls : List Lay} (I : Inv X pins σ H s) (rv : Vals xs its) (hx : DpAll X.K H xs (ls.map layD)) :
    ∃ k : Value → Lay, (∀ v ∈ its, IsLay s.heap v (k v) ∧ Dp X.K H (backV v) (layD (k v))) ∧ xs = its.map backV ∧ (∀ u ∈ its, ∃ a, u = Value.ref a) ∧ its.map k = ls := by
  have lay_dp : ∀ t l, Dp X.K H (V.ref t) (layD l) → IsLay s.heap (Value.ref t) l := fun t l d => by
    obtain ⟨t', e, sq⟩ := lay_inv d
    cases e
    obtain ⟨its2, r2, tup, _⟩ := I.tuple sq
    obtain ⟨o, ho, hc, n, hd⟩ := tup
    obtain ⟨u1, u2, rfl, ri, rj⟩ := vals2 r2
    obtain ⟨t1, rfl⟩ := ri
    obtain ⟨t2, rfl⟩ := rj
    exact ⟨t, o, t1, t2, n, rfl, ho, hc, hd⟩
  obtain ⟨e1, e2⟩ := refs_back rv fun x m => by
    obtain ⟨i, e⟩ := List.mem_iff_getElem?.mp m
    obtain ⟨l, b, _, e2, sq, d⟩ := lays_get hx e
    exact ⟨b, e2⟩
  have at_ : ∀ (i : Nat) v, its[i]? = some v → ∃ l, ls[i]? = some l ∧ Dp X.K H (backV v) (layD l) ∧ IsLay s.heap v l := fun i v hi => by
    obtain ⟨t, rfl⟩ := e2 v (List.mem_of_getElem? hi)
    have hxi : xs[i]? = some (V.ref t) := by
      rw [e1, List.getElem?_map, hi]
      rfl
    obtain ⟨l, b, hl, e, sq, d⟩ := lays_get hx hxi
    exact ⟨l, hl, d, lay_dp t l d⟩
  let k : Value → Lay := fun v => Classical.epsilon fun l => IsLay s.heap v l
  have hk : ∀ v ∈ its, IsLay s.heap v (k v) ∧ Dp X.K H (backV v) (layD (k v)) := fun v hv => by
    obtain ⟨i, hi⟩ := List.mem_iff_getElem?.mp hv
    obtain ⟨l, _, d, il⟩ := at_ i v hi
    have sp : IsLay s.heap v (k v) := Classical.epsilon_spec ⟨l, il⟩
    rw [sp.uniq il]
    exact ⟨il, d⟩
  have mapk : its.map k = ls := by
    refine List.ext_getElem? fun i => ?_
    rw [List.getElem?_map]
    cases hi : its[i]? with
    | none =>
      have len1 := lays_len hx
      have len2 : xs.length = its.length := by rw [e1, List.length_map]
      have : its.length ≤ i := List.getElem?_eq_none_iff.mp hi
      rw [List.getElem?_eq_none (show ls.length ≤ i by omega)]
      rfl
    | some v =>
      obtain ⟨l, hl, d, il⟩ := at_ i v hi
      rw [hl]
      show some (k v) = some l
      rw [(hk v (List.mem_of_getElem? hi)).1.uniq il]
  exact ⟨k, hk, e1, e2, mapk⟩
theorem k_sortedL (h : X.K = K) : CallR X (.builtin "sorted") (rSortedL K) := by
  subst h
  intro pins s σ H vs us Q I r h
  obtain ⟨a, xs, ls, rfl, hs, hx, q⟩ := h
  obtain ⟨its, rv, hl, hz⟩ := I.list hs
  obtain ⟨u, rfl, ru⟩ := vals1 r
  obtain rfl : u = Value.ref a := ru
  obtain ⟨k, hk, e1, e2, mapk⟩ := laysOf I rv hx
  refine sortedLays (k := k) hl.isList (by rw [← rv.length]; exact hz) (fun v hv => (hk v hv).1) fun h' d out h1 h2 kp hd hn => ?_
  have mem : ∀ u ∈ out, u ∈ its := fun u hu => h2.perm.mem_iff.mp hu
  have h3 : ∀ u ∈ out, ∃ a, u = Value.ref a := fun u hu => e2 u (mem u hu)
  obtain ⟨n, hn⟩ := hn
  have all : ∀ o : List Value, (∀ u ∈ o, u ∈ its) → DpAll X.K H (o.map backV) ((o.map k).map layD) := fun o => by
    induction o with
    | nil => exact fun _ => .nil
    | cons u o ih => exact fun m => .cons (hk u (m u (List.mem_cons_self ..))).2 (ih fun y my => m y (List.mem_cons_of_mem _ my))
  refine ⟨.ref d, upd H d (.lst (out.map backV)), I.laid (t' := s.toks) kp hd ⟨?_, out, n, vals_back h3, hn⟩, rfl, q _ (out.map k) d ?_ ?_ (all out mem) (I.hok.fresh hd)⟩
  · rw [List.length_map, h2.perm.length_eq, ← rv.length]
    exact hz
  · rw [← mapk]
    exact h2.perm.map k
  · exact List.pairwise_map.mpr h1
end
end Fd

/-! ### rows in their normal form -/
namespace Fd
open PySem PySem.Spec PyProof.Rows L2
def ins (l : Lay) : List Lay → List Lay
  | [] => [l]
  | m :: r => if l.1 = m.1 ∧ m.2 < l.2 then m :: ins l r else l :: m :: r
def nrm : List Lay → List Lay
  | [] => []
  | l :: r => ins l (nrm r)
def Settled : List Lay → Prop
  | [] => True
  | x :: r => (∀ y, r.head? = some y → x.1 = y.1 → x.2 ≤ y.2) ∧ Settled r
theorem ins_tags (l : Lay) : ∀ r : List Lay, (ins l r).map Prod.fst = l.1 :: r.map Prod.fst
  | [] => rfl
  | m :: r => by
    unfold ins
    by_cases h : l.1 = m.1 ∧ m.2 < l.2
    · rw [if_pos h, List.map_cons, ins_tags l r, List.map_cons, h.1]
    · rw [if_neg h]
      rfl
theorem nrm_tags : ∀ ls : List Lay, (nrm ls).map Prod.fst = ls.map Prod.fst
  | [] => rfl
  | l :: r => by
    show (ins l (nrm r)).map Prod.fst = _
    rw [ins_tags, nrm_tags r]
    rfl
theorem ins_perm (l : Lay) : ∀ r : List Lay, (ins l r).Perm (l :: r)
  | [] => List.Perm.refl _
  | m :: r => by
    unfold ins
    by_cases h : l.1 = m.1 ∧ m.2 < l.2
    · rw [if_pos h]
      exact ((ins_perm l r).cons m).trans (List.Perm.swap l m r)
    · rw [if_neg h]
theorem nrm_perm : ∀ ls : List Lay, (nrm ls).Perm ls
  | [] => List.Perm.refl _
  | l :: r => (ins_perm l (nrm r)).trans ((nrm_perm r).cons l)
theorem ins_head {l : Lay} {r : List Lay} {y : Lay} (h : (ins l r).head? = some y) : y = l ∨ (r.head? = some y ∧ l.1 = y.1 ∧ y.2 < l.2) := by
  cases r with
  | nil =>
    left
    exact (Option.some.inj h).symm
  | cons m r =>
    unfold ins at h
    by_cases q : l.1 = m.1 ∧ m.2 < l.2
    · rw [if_pos q] at h
      have := Option.some.inj h
      subst this
      exact .inr ⟨rfl, q.1, q.2⟩
    · rw [if_neg q] at h
      exact .inl (Option.some.inj h).symm
theorem ins_settled {l : Lay} : ∀ {r : List Lay}, Settled r → Settled (ins l r)
  | [], _ => And.intro (fun y h => nomatch h) True.intro
  | m :: r, h => by
    unfold ins
    by_cases q : l.1 = m.1 ∧ m.2 < l.2
    · rw [if_pos q]
      refine ⟨fun y hy e => ?_, ins_settled h.2⟩
      rcases ins_head hy with rfl | ⟨hy2, _⟩
      · omega
      · exact h.1 y hy2 e
    · rw [if_neg q]
      refine ⟨fun y hy e => ?_, h⟩
      obtain rfl := Option.some.inj hy
      have : ¬ m.2 < l.2 := fun z => q ⟨e, z⟩
      omega
theorem nrm_settled : ∀ ls : List Lay, Settled (nrm ls)
  | [] => trivial
  | l :: r => ins_settled (nrm_settled r)
theorem nrm_self : ∀ {ls : List Lay}, Settled ls → nrm ls = ls
  | [], _ => rfl
  | l :: r, h => by
    show ins l (nrm r) = _
    rw [nrm_self h.2]
    cases r with
    | nil => rfl
    | cons m r =>
      unfold ins
      rw [if_neg]
      rintro ⟨a, b⟩
      have := h.1 m rfl a
      omega
theorem nrm_nrm (ls : List Lay) : nrm (nrm ls) = nrm ls := nrm_self (nrm_settled ls)
theorem ins_comm {a b : Lay} (e : a.1 = b.1) : ∀ s : List Lay, ins a (ins b s) = ins b (ins a s)
  | [] => by
    obtain ⟨t, x⟩ := a
    obtain ⟨u, y⟩ := b
    simp only at e
    subst e
    unfold ins ins
    simp only [true_and]
    rcases Int.lt_trichotomy x y with q | q | q
    · rw [if_neg (by omega), if_pos q]
    · subst q
      rfl
    · rw [if_pos q, if_neg (by omega)]
  | m :: s => by
    have ih := ins_comm e s
    obtain ⟨t, x⟩ := a
    obtain ⟨u, y⟩ := b
    obtain ⟨v, z⟩ := m
    simp only at e
    subst e
    by_cases tv : t = v
    · subst tv
      by_cases h1 : z < x
      · by_cases h2 : z < y
        · have e1 : ins (t, y) ((t, z) :: s) = (t, z) :: ins (t, y) s := by simp [ins, h2]
          have e2 : ins (t, x) ((t, z) :: s) = (t, z) :: ins (t, x) s := by simp [ins, h1]
          have e3 : ins (t, x) ((t, z) :: ins (t, y) s) = (t, z) :: ins (t, x) (ins (t, y) s) := by simp [ins, h1]
          have e4 : ins (t, y) ((t, z) :: ins (t, x) s) = (t, z) :: ins (t, y) (ins (t, x) s) := by simp [ins, h2]
          rw [e1, e2, e3, e4, ih]
        · have h3 : y < x := by omega
          have h4 : ¬ x < y := by omega
          simp [ins, h1, h2, h3, h4]
      · by_cases h2 : z < y
        · have h3 : x < y := by omega
          have h4 : ¬ y < x := by omega
          simp [ins, h1, h2, h3, h4]
        · rcases Int.lt_trichotomy x y with q | q | q
          · have h4 : ¬ y < x := by omega
            simp [ins, h1, h2, q, h4]
          · subst q
            rfl
          · have h4 : ¬ x < y := by omega
            simp [ins, h1, h2, q, h4]
    · rcases Int.lt_trichotomy x y with q | q | q
      · have h4 : ¬ y < x := by omega
        simp [ins, tv, q, h4]
      · subst q
        rfl
      · have h4 : ¬ x < y := by omega
        simp [ins, tv, q, h4]
theorem nrm_swap {a b : Lay} (e : a.1 = b.1) (r : List Lay) : ∀ p : List Lay, nrm (p ++ a :: b :: r) = nrm (p ++ b :: a :: r)
  | [] => ins_comm e (nrm r)
  | x :: p => by
    show ins x (nrm (p ++ a :: b :: r)) = ins x (nrm (p ++ b :: a :: r))
    rw [nrm_swap e r p]
def Uni (g : List Lay) : Prop := ∀ x ∈ g, ∀ y ∈ g, x.1 = y.1
theorem nrm_uni {g h : List Lay} (p : g.Perm h) : Uni g → nrm g = nrm h := by
  induction p with
  | nil => exact fun _ => rfl
  | cons x p ih =>
    intro u
    show ins x _ = ins x _
    rw [ih fun a ma b mb => u a (List.mem_cons_of_mem _ ma) b (List.mem_cons_of_mem _ mb)]
  | swap x y l =>
    intro u
    exact ins_comm (u y (List.mem_cons_self ..) x (List.mem_cons_of_mem _ (List.mem_cons_self ..))) (nrm l)
  | trans p q ih1 ih2 =>
    intro u
    rw [ih1 u]
    exact ih2 fun a ma b mb => u a (p.mem_iff.mpr ma) b (p.mem_iff.mpr mb)
theorem sorted_settled : ∀ {g : List Lay}, g.Pairwise leL → Settled g
  | [], _ => trivial
  | x :: r, h => by
    obtain ⟨a, b⟩ := List.pairwise_cons.mp h
    refine ⟨fun y hy e => ?_, sorted_settled b⟩
    have q := a y (List.mem_of_mem_head? hy)
    unfold leL ltL at q
    rw [if_pos e.symm] at q
    have := of_decide_eq_false q
    omega
/-- what sorted gives of a stretch -/
theorem sorted_nrm {g ms : List Lay} (u : Uni g) (p : ms.Perm g) (s : ms.Pairwise leL) : ms = nrm g := by
  rw [nrm_uni p.symm u, nrm_self (sorted_settled s)]
theorem ins_app {x : Lay} {S : List Lay} (h : ∀ m, S.head? = some m → x.1 ≠ m.1) : ∀ T : List Lay, ins x (T ++ S) = ins x T ++ S
  | [] => by
    cases S with
    | nil => rfl
    | cons m S =>
      show ins x (m :: S) = x :: m :: S
      unfold ins
      rw [if_neg]
      exact fun q => h m rfl q.1
  | m :: T => by
    show ins x (m :: (T ++ S)) = _
    unfold ins
    by_cases q : x.1 = m.1 ∧ m.2 < x.2
    · rw [if_pos q, if_pos q, ins_app h T]
      rfl
    · rw [if_neg q, if_neg q]
      rfl
theorem nrm_head {R : List Lay} {m : Lay} (h : (nrm R).head? = some m) : ∃ m', R.head? = some m' ∧ m'.1 = m.1 := by
  have t := nrm_tags R
  cases e : nrm R with
  | nil => rw [e] at h; cases h
  | cons a b =>
    rw [e] at h t
    obtain rfl := Option.some.inj h
    cases R with
    | nil => cases t
    | cons c d => exact ⟨c, rfl, (List.cons.inj t).1.symm⟩
theorem nrm_app {R : List Lay} : ∀ {g : List Lay}, (∀ x ∈ g, ∀ m, R.head? = some m → x.1 ≠ m.1) → nrm (g ++ R) = nrm g ++ nrm R
  | [], _ => rfl
  | x :: g, h => by
    show ins x (nrm (g ++ R)) = ins x (nrm g) ++ nrm R
    rw [nrm_app fun y my => h y (List.mem_cons_of_mem _ my)]
    refine ins_app (fun m hm => ?_) (nrm g)
    obtain ⟨m', h1, h2⟩ := nrm_head hm
    rw [← h2]
    exact h x (List.mem_cons_self ..) m' h1
/-- neighbours have unlike tags -/
def Adj : List (List Lay) → Prop
  | [] => True
  | [_] => True
  | g :: h :: r => (∀ x ∈ g, ∀ y ∈ h, x.1 ≠ y.1) ∧ Adj (h :: r)
theorem nrm_flat : ∀ {gss : List (List Lay)}, Adj gss → (∀ g ∈ gss, g ≠ []) → nrm gss.flatten = (gss.map nrm).flatten
  | [], _, _ => rfl
  | [g], _, _ => by simp
  | g :: h :: r, a, ne => by
    have ih := nrm_flat a.2 fun x m => ne x (List.mem_cons_of_mem _ m)
    show nrm (g ++ (h :: r).flatten) = nrm g ++ ((h :: r).map nrm).flatten
    rw [← ih]
    refine nrm_app fun x mx m hm => ?_
    cases h with
    | nil => exact absurd rfl (ne [] (List.mem_cons_of_mem _ (List.mem_cons_self ..)))
    | cons c d =>
      have e : ((c :: d) :: r).flatten.head? = some c := rfl
      rw [e] at hm
      obtain rfl := Option.some.inj hm
      exact a.1 x mx c (List.mem_cons_self ..)
theorem adj_new {h : List Lay} : ∀ {i : List (List Lay)} {g : List Lay}, Adj (i ++ [g]) → (∀ x ∈ g, ∀ y ∈ h, x.1 ≠ y.1) → Adj (i ++ [g] ++ [h])
  | [], g, _, k => ⟨k, trivial⟩
  | [a], g, q, k => ⟨q.1, k, trivial⟩
  | a :: b :: i, g, q, k => ⟨q.1, adj_new (i := b :: i) q.2 k⟩
theorem adj_more {h : List Lay} : ∀ {i : List (List Lay)} {g : List Lay}, Adj (i ++ [g]) → (∀ y ∈ h, ∃ x ∈ g, y.1 = x.1) → Adj (i ++ [h])
  | [], g, _, k => trivial
  | [a], g, q, k => ⟨fun x mx y my => by
      obtain ⟨z, mz, e⟩ := k y my
      rw [e]
      exact q.1 x mx z mz, trivial⟩
  | a :: b :: i, g, q, k => ⟨q.1, adj_more (i := b :: i) q.2 k⟩
/-! inversions -/
def inv : List Lay → Nat
  | [] => 0
  | l :: r => r.countP (fun m => decide (m.2 < l.2)) + inv r
theorem inv_swap {a b : Lay} (h : b.2 < a.2) (r : List Lay) : ∀ p : List Lay, inv (p ++ b :: a :: r) + 1 = inv (p ++ a :: b :: r)
  | [] => by
    show (a :: r).countP _ + (r.countP _ + inv r) + 1 = (b :: r).countP _ + (r.countP _ + inv r)
    rw [List.countP_cons_of_neg (by simp; omega), List.countP_cons_of_pos (by simpa using h)]
    omega
  | x :: p => by
    have ih := inv_swap h r p
    show (p ++ b :: a :: r).countP _ + inv (p ++ b :: a :: r) + 1 = (p ++ a :: b :: r).countP _ + inv (p ++ a :: b :: r)
    have pm : (p ++ b :: a :: r).Perm (p ++ a :: b :: r) := List.Perm.append_left p (List.Perm.swap a b r)
    rw [pm.countP_eq]
    omega
theorem inv_le : ∀ ls : List Lay, inv ls ≤ ls.length * ls.length
  | [] => Nat.le_refl _
  | l :: r => by
    have ih := inv_le r
    have c := List.countP_le_length (p := fun m : Lay => decide (m.2 < l.2)) (l := r)
    show r.countP _ + inv r ≤ _
    rw [List.length_cons, Nat.mul_succ, Nat.succ_mul]
    omega
theorem settled_of : ∀ {ls : List Lay}, (∀ (k : Nat) a b, ls[k]? = some a → ls[k + 1]? = some b → a.1 = b.1 → a.2 ≤ b.2) → Settled ls
  | [], _ => trivial
  | x :: r, h => by
    refine ⟨fun y hy e => h 0 x y rfl (by rw [List.getElem?_cons_succ, ← List.head?_eq_getElem?]; exact hy) e, settled_of fun k a b p q => h (k + 1) a b (by simpa using p) (by simpa using q)⟩
theorem parts2 {ls : List Lay} {k : Nat} {a b : Lay} (h : ls[k]? = some a) (h2 : ls[k + 1]? = some b) : ls = ls.take k ++ a :: b :: ls.drop (k + 2) := by
  obtain ⟨l1, e1⟩ := List.getElem?_eq_some_iff.mp h
  obtain ⟨l2, e2⟩ := List.getElem?_eq_some_iff.mp h2
  conv => lhs; rw [← List.take_append_drop k ls, List.drop_eq_getElem_cons l1, List.drop_eq_getElem_cons l2, e1, e2]
theorem inv_zero {ls : List Lay} (h : inv ls = 0) : Settled ls := settled_of fun k a b p q e => by
  by_cases z : b.2 < a.2
  · have s := inv_swap z (ls.drop (k + 2)) (ls.take k)
    rw [← parts2 p q] at s
    omega
  · omega
end Fd

/-! ### sorted of a tuple of layers -/
namespace Fd
open PySem PySem.Spec PyProof.Rows L2 SrtO Srt HT
section
variable {prog : Program} {w : World} {A : Around} {E : Value → Shared → Prop} {s : Shared}
/-- the heap behind what collects the items of a tuple -/
def gathered (h : Heap) (vs : List Value) : Heap := (h.push (seqObj "list" #[] 0)).update h.objs.size (Obj.mapSeq (· ++ vs.toArray))
theorem gathered_size (h : Heap) (vs : List Value) : (gathered h vs).objs.size = h.objs.size + 1 := by
  unfold gathered
  rw [Heap.size_update, size_push']
theorem gathered_old {h : Heap} {vs : List Value} {b : Addr} {o : Obj} (e : h.get? b = some o) : (gathered h vs).get? b = some o := by
  have lt : b < h.objs.size := Heap.lt_size e
  unfold gathered
  rw [Heap.get?_update_ne _ _ _ _ (Nat.ne_of_lt lt)]
  exact Heap.get?_push_of_some _ e
theorem collectT {l : Addr} {vs : List Value} {Q : List Value → Shared → Prop} (ht : IsTup s.heap l vs.toArray) (hz : vs.length ≤ sizeLine) (h : Q vs { s with heap := gathered s.heap vs }) : wpAny (model prog w) A (collect (.ref l)) Q E s := by
  obtain ⟨o, ho, hc, n, hd⟩ := ht
  have old : (s.heap.push (seqObj "list" #[] 0)).get? l = some o := Heap.get?_push_of_some _ ho
  have new : (s.heap.push (seqObj "list" #[] 0)).get? s.heap.objs.size = some (seqObj "list" #[] 0) := Heap.get?_push_size _ rfl
  unfold collect
  refine wpAny_bind (wpAny_runValue (codeAny_builtin entry_proto_collect' ?_))
  refine wpAny_bind (wpAny_newList (wpAny_pure ⟨Code.quiet_builtin _ (by decide +kernel), codeAny_builtin entry_list_iadd' ?_⟩))
  show wpAny _ _ (Builtin.List.listExtendWith (.ref s.heap.objs.size) (.ref l) (.ref s.heap.objs.size)) _ _ { s with heap := s.heap.push (seqObj "list" #[] 0) }
  unfold Builtin.List.listExtendWith
  refine wpAny_bind (wpAny_typeOf (T := "tuple") ⟨o, old, hc⟩ ?_)
  have tt : (Value.type "tuple" == Value.type "tuple") = true := by rfl
  rw [if_pos (by rw [tt]; simp)]
  refine wpAny_bind (listItems_at old hd (wpAny_bind (listItems_at new rfl ?_)))
  rw [if_neg (by simp)]
  refine wpAny_bind (listUpdate_at new rfl ?_ (Nat.zero_le _) (by show (#[] ++ vs.toArray).size ≤ sizeLine + 1; simp; omega))
  refine wpAny_pure ?_
  show wpAny (model prog w) A (do
      let o ← load s.heap.objs.size
      match o.data with
      | .seq xs _ => pure xs.toList
      | _ => unsupported "internal:collect") Q E { s with heap := gathered s.heap vs }
  refine wpAny_bind (wpAny_load (get?_update_seq new _) ?_)
  show wpAny _ _ (pure ((#[] : Array Value) ++ vs.toArray).toList) Q E _
  rw [show ((#[] : Array Value) ++ vs.toArray).toList = vs by simp]
  exact wpAny_pure h
theorem sortedLaysT {l : Addr} {vs : List Value} {k : Value → Lay} {Q : Value → Shared → Prop} (hl : IsTup s.heap l vs.toArray) (hz : vs.length ≤ sizeLine) (hp : ∀ v ∈ vs, IsLay s.heap v (k v))
    (h : ∀ (h' : Heap) (d : Addr) (out : List Value), Srtd (fun v u => ltL (k v) (k u)) out → Stb (fun v u => ltL (k v) (k u)) out vs → (∀ b o, s.heap.get? b = some o → h'.get? b = some o) → s.heap.objs.size ≤ d → (∃ n, h'.get? d = some (seqObj "list" out.toArray n)) → Q (.ref d) { s with heap := h' }) :
    wpAny (model prog w) A (call (.builtin "sorted") [.ref l]) Q E s := by
  have O : Swo fun v u => ltL (k v) (k u) := ⟨fun x y h => swoL.asym _ _ h, fun x y z h1 h2 => swoL.tr _ _ _ h1 h2⟩
  refine Calls.call_function_entry kind_sorted plain_sorted entry_sorted (args_sorted1 _) ?_
  unfold Builtin.«sorted»
  refine wpAny_bind (m := checkCount "sorted" 1 1 _) (wpAny_pure (wpAny_bind (collectT hl hz (wpAny_bind (wpAny_newList ?_ hz)))))
  have at1 : ((gathered s.heap vs).push (seqObj "list" vs.toArray 0)).get? (s.heap.objs.size + 1) = some (seqObj "list" vs.toArray 0) := by
    rw [← gathered_size s.heap vs]
    exact Heap.get?_push_size _ rfl
  have old : ∀ b o, s.heap.get? b = some o → ((gathered s.heap vs).push (seqObj "list" vs.toArray 0)).get? b = some o := fun b o q => Heap.get?_push_of_some _ (gathered_old q)
  show wpAny _ _ _ _ _ { s with heap := (gathered s.heap vs).push (seqObj "list" vs.toArray 0) }
  rw [gathered_size]
  refine wpAny_bind (wpAny_holding (wpAny_call_entry slot_list_sort ⟨_, at1, rfl⟩ entry_list_sort (list_sort_ord O at1 hz (fun h2 => ?_) fun out hs hb => ⟨_, rfl, ?_⟩) (args_list_sort _)))
  · refine laysSortable (s := { s with heap := (gathered s.heap vs).push (seqObj "list" vs.toArray 0) }) (by omega) (fun v hm => (hp v hm).keeps fun b o e _ => old b o e) fun o e => ?_
    have e' : some o = some (seqObj "list" vs.toArray 0) := e.symm.trans at1
    cases e'
    intro c
    exact absurd (Value.type.inj c) (by decide)
  · refine wpAny_pure ⟨_, rfl, h _ _ out hs hb (fun b o e => ?_) (Nat.le_succ _) (sortedHeap_at at1)⟩
    rw [sortedHeap_old (Nat.ne_of_lt (Nat.lt_succ_of_lt (Heap.lt_size e))) (Nat.lt_trans (Heap.lt_size e) (by rw [size_push', gathered_size]; omega))]
    exact old b o e
end
/-- sorted(t), t a tuple of layers -/
def rSortedT (K : PySem.W.Frag) : List V → Hp → VK → Prop := fun vs H Q => ∃ (a : Addr) (xs : List V) (ls : List Lay), vs = [V.ref a] ∧ SqT K H a xs ∧ DpAll K H xs (ls.map layD) ∧
  ∀ (ys : List V) (ms : List Lay) (p : Addr), ms.Perm ls → ms.Pairwise leL → DpAll K H ys (ms.map layD) → H p = none → Q (.ref p) (upd H p (.lst ys))
section
variable {X : Cx} {K : PySem.W.Frag}
theorem k_sortedT (h : X.K = K) : CallR X (.builtin "sorted") (rSortedT K) := by
  subst h
  intro pins s σ H vs us Q I r h
  obtain ⟨a, xs, ls, rfl, hs, hx, q⟩ := h
  obtain ⟨its, rv, ht, hz⟩ := I.tuple hs
  obtain ⟨u, rfl, ru⟩ := vals1 r
  obtain rfl : u = Value.ref a := ru
  obtain ⟨k, hk, e1, e2, mapk⟩ := laysOf I rv hx
  refine sortedLaysT (k := k) ht (by rw [← rv.length]; exact hz) (fun v hv => (hk v hv).1) fun h' d out h1 h2 kp hd hn => ?_
  have mem : ∀ u ∈ out, u ∈ its := fun u hu => h2.perm.mem_iff.mp hu
  have h3 : ∀ u ∈ out, ∃ a, u = Value.ref a := fun u hu => e2 u (mem u hu)
  obtain ⟨n, hn⟩ := hn
  have all : ∀ o : List Value, (∀ u ∈ o, u ∈ its) → DpAll X.K H (o.map backV) ((o.map k).map layD) := fun o => by
    induction o with
    | nil => exact fun _ => .nil
    | cons u o ih => exact fun m => .cons (hk u (m u (List.mem_cons_self ..))).2 (ih fun y my => m y (List.mem_cons_of_mem _ my))
  refine ⟨.ref d, upd H d (.lst (out.map backV)), I.laid (t' := s.toks) kp hd ⟨?_, out, n, vals_back h3, hn⟩, rfl, q _ (out.map k) d ?_ ?_ (all out mem) (I.hok.fresh hd)⟩
  · rw [List.length_map, h2.perm.length_eq, ← rv.length]
    exact hz
  · rw [← mapk]
    exact h2.perm.map k
  · exact List.pairwise_map.mpr h1
end
end Fd

/-! ### a comprehension of two clauses -/
namespace Fd
open PySem PySem.Spec PyProof.Rows L2
def Lc2K (J : It) (g : TG) (tt : TT) (wi1 : TI) (g1 : TG) (tt1 : TT) (te : TE) (vs vs1 : List Nat) (σ : L2.St) (Q : VK) (H1 : Hp) : Prop := ∀ D, H1 D = none → ∃ W : Nat → Nat → Hp → Prop, (∃ m, W 0 m (upd H1 D (.lst []))) ∧ ∀ i m H, W i m H →
  (J.stop i H ∧ Q (.ref D) H) ∨ (J.go i H ∧ ∃ Nx : Hp → Prop, (∀ H', Nx H' → ∃ m', m' < m ∧ W (i + 1) m' H') ∧ ∀ x H', J.yld i H x H' → g x (wipe σ vs) H' fun σ2 H2 => wipe σ2 vs = wipe σ vs ∧ tt σ2 H2 fun b H3 =>
    if b = true then wi1 σ2 H3 fun J1 H4 => ∃ W1 : Nat → Nat → Hp → Prop, (∃ m, W1 0 m H4) ∧ ∀ j k H, W1 j k H →
      (J1.stop j H ∧ Nx H) ∨ (J1.go j H ∧ ∃ Nx1 : Hp → Prop, (∀ H', Nx1 H' → ∃ k', k' < k ∧ W1 (j + 1) k' H') ∧ ∀ x H', J1.yld j H x H' → g1 x (wipe σ2 vs1) H' fun σ3 H5 => wipe σ3 vs1 = wipe σ2 vs1 ∧ tt1 σ3 H5 fun b H6 =>
        if b = true then te σ3 H6 fun y H7 => ∃ acc, H7 D = some (.lst acc) ∧ acc.length < sizeLine ∧ Nx1 (upd H7 D (.lst (acc ++ [y]))) else Nx1 H6)
    else Nx H3)
theorem tLc2E {wi : TI} {g : TG} {tt : TT} {wi1 : TI} {g1 : TG} {tt1 : TT} {te : TE} {vs vs1 : List Nat} {σ : L2.St} {H : Hp} {Q : VK} :
    tLc2 wi g tt wi1 g1 tt1 te vs vs1 σ H Q = wi σ H fun J H1 => Lc2K J g tt wi1 g1 tt1 te vs vs1 σ Q H1 := rfl
/-- over a list, and for each over a new list whose items are kept as they are -/
theorem lc2Lst {K : PySem.W.Frag} {wi1 : TI} {te : TE} {vs vs1 : List Nat} {σ : L2.St} {H1 : Hp} {Q : VK} {a : Addr} {xs : List V} {j0 j1 : Nat} (R : Nat → List PyData → Prop)
    (hx : H1 a = some (.lst xs)) (hb : ∀ i ds, R i ds → ds.length ≤ 1000) (r0 : R 0 [])
    (hw : ∀ x, wipe ((wipe σ vs).set j0 (some x)) vs = wipe σ vs) (hw1 : ∀ x y, wipe ((wipe ((wipe σ vs).set j0 (some x)) vs1).set j1 (some y)) vs1 = wipe ((wipe σ vs).set j0 (some x)) vs1)
    (hte : ∀ x y H (C : V → Hp → Prop), C y H → te ((wipe ((wipe σ vs).set j0 (some x)) vs1).set j1 (some y)) H C)
    (step : ∀ i x Ha ds (C : It → Hp → Prop), xs[i]? = some x → St none H1 Ha → flatTs ds = true → R i ds →
      (∀ q ys es, Ha q = none → DpAll K Ha ys es → flatTs es = true → R (i + 1) (ds ++ es) → C (Itl K q) (upd Ha q (.lst ys))) → wi1 ((wipe σ vs).set j0 (some x)) Ha C)
    (done : ∀ D acc ds H', H1 D = none → St none H1 H' → H' D = some (.lst acc) → flatTs ds = true → DpAll K H' acc ds → R xs.length ds → Q (.ref D) H') :
    Lc2K (Itl K a) (gName j0) tYes wi1 (gName j1) tYes te vs vs1 σ Q H1 := by
  intro D hD
  have line : (1000 : Nat) < sizeLine := by decide
  have w : Walk (Itl K a) xs.length (fun H => SqL K H a xs) (YAt xs) := walk_list
  let Pv : Nat → Hp → Prop := fun i H => ∃ acc ds, St none H1 H ∧ H D = some (.lst acc) ∧ flatTs ds = true ∧ DpAll K H acc ds ∧ R i ds
  refine ⟨fun i m H => m = xs.length - i ∧ i ≤ xs.length ∧ Pv i H, ⟨xs.length, by simp, Nat.zero_le _, [], [], St.new potN hD, upd_same, by simp [flatTs], .nil, r0⟩, ?_⟩
  rintro i m H ⟨rfl, hi, acc, ds, sH, hl, fl, al, r⟩
  have hxH := SqL.of (K := K) (sH.same a _ (fun z => nomatch z) hx)
  by_cases hlt : i < xs.length
  · refine .inr ⟨w.goes i H hlt hxH, Pv (i + 1), fun H' p' => ⟨xs.length - (i + 1), by omega, rfl, hlt, p'⟩, fun x H' y => ?_⟩
    obtain ⟨rfl, e⟩ := w.yields i H x H' hlt hxH y
    refine ⟨hw x, ?_⟩
    simp only [tYes, ↓reduceIte]
    refine step i x _ ds _ e sH fl r fun q ys es nq dy fe r' => ?_
    have nqD : D ≠ q := fun z => by rw [← z, hl] at nq; cases nq
    have w1 : Walk (Itl K q) ys.length (fun H => SqL K H q ys) (YAt ys) := walk_list
    have s4 : St none H' (upd H' q (.lst ys)) := St.new potN nq
    have lenE : ys.length = es.length := DpAll.len dy
    have lenA : acc.length = ds.length := DpAll.len al
    have bound := hb _ _ r'
    rw [List.length_append] at bound
    let Pw : Nat → Hp → Prop := fun j H => ∃ acc, St none H1 H ∧ H D = some (.lst acc) ∧ H q = some (.lst ys) ∧ DpAll K H ys es ∧ DpAll K H acc (ds ++ es.take j)
    refine ⟨fun j k H => k = ys.length - j ∧ j ≤ ys.length ∧ Pw j H, ⟨ys.length, by simp, Nat.zero_le _, acc, sH.trans s4, (upd_ne nqD).trans hl, upd_same, dpsSt potN s4 fe dy, by simpa using dpsSt potN s4 fl al⟩, ?_⟩
    rintro j k Hj ⟨rfl, hj, acc1, sj, hlj, hqj, dyj, alj⟩
    have hqs := SqL.of (K := K) hqj
    by_cases jlt : j < ys.length
    · refine .inr ⟨w1.goes j Hj jlt hqs, Pw (j + 1), fun H' p' => ⟨ys.length - (j + 1), by omega, rfl, jlt, p'⟩, fun y Hk yy => ?_⟩
      obtain ⟨rfl, ey⟩ := w1.yields j Hj y Hk jlt hqs yy
      refine ⟨hw1 x y, ?_⟩
      refine hte x y _ _ ⟨acc1, hlj, ?_, acc1 ++ [y], St.put potN sj hD, upd_same, (upd_ne (Ne.symm nqD)).trans hqj, DpAll.move (fun _ _ => tup_put hlj) fe dyj, ?_⟩
      · have := DpAll.len alj
        rw [List.length_append, List.length_take] at this
        omega
      · obtain ⟨d, ed, kd⟩ := DpAll.get dyj ey
        have fd : flatT d = true := flatTs_mem fe d (List.mem_of_getElem? ed)
        have e2 : ds ++ es.take (j + 1) = (ds ++ es.take j) ++ [d] := by
          rw [List.take_add_one, ed, List.append_assoc]
          rfl
        rw [e2]
        refine DpAll.app (DpAll.move (fun _ _ => tup_put hlj) (flatTs_app fl (flatTs_of fun z m => flatTs_mem fe z (List.mem_of_mem_take m))) alj) (.cons (Dp.move (fun _ _ => tup_put hlj) fd kd) .nil)
    · have ej : j = ys.length := by omega
      subst ej
      refine .inl ⟨w1.stops Hj hqs, acc1, ds ++ es, sj, hlj, flatTs_app fl fe, ?_, r'⟩
      rw [List.take_of_length_le (by omega)] at alj
      exact alj
  · have e : i = xs.length := by omega
    subst e
    exact .inl ⟨w.stops H hxH, done D acc ds H hD sH hl fl al r⟩
end Fd
namespace Fd
open PySem PySem.Spec PyProof.Rows L2
theorem pi_listK {X : Cx} {K : PySem.W.Frag} {tg l : Expr} {tl : TE} (h : X.K = K) (hl : PE X l tl) : PI X tg l (iList K tl) := h ▸ pi_list hl
end Fd

/-! ### repr of things that may be dicts of ints by texts -/
namespace Fd
open PySem PySem.Spec PyProof.Rows L2
/-- the entries, as values and as data -/
def entsV (es : List (Str × Int)) : List (L2.Key × V) := es.map fun e => (Sum.inr e.1, V.int e.2)
def entsD (es : List (Str × Int)) : PyData := .dict (es.map fun e => (.str e.1, .int e.2))
theorem readsEnts {P : Program} {w : World} {h : Heap} : ∀ {ds : List DictEntry} {vs : List (L2.Key × Value)} {es : List (Str × Int)}, Pairs (mixKind P w) ds vs → KV (entsV es) vs →
    ReadsAll h (ds.map (·.key)) (es.map fun e => PyData.str e.1) [] ∧ ReadsAll h (ds.map (·.val)) (es.map fun e => PyData.int e.2) []
  | _, _, [], p, q => by
    cases q
    cases p
    exact ⟨.nil, .nil⟩
  | _, _, e :: es, p, q => by
    cases q with
    | cons a t =>
      cases p with
      | cons k v r =>
        obtain ⟨i1, i2⟩ := readsEnts r t
        obtain ⟨a1, tk, a2⟩ := a
        rw [← a1] at k
        have k2 : keyIs (Sum.inr e.1) _ = true := k
        rcases keyIs_shape k2 with ⟨i, u, z, _⟩ | ⟨x, u, z, z2⟩
        · cases z
        · cases z
          refine ⟨?_, ?_⟩
          · refine .cons (as := []) (bs := []) ?_ i1
            show Reads h (DictEntry.key _) _ _
            rw [z2]
            exact .str _ _
          · refine .cons (as := []) (bs := []) ?_ i2
            show Reads h (DictEntry.val _) _ _
            rw [v, a2]
            exact .int _ _
/-- plain data that repr can tell, or a dict of ints by texts -/
def Th (K : PySem.W.Frag) (H : Hp) (v : V) (d : PyData) : Prop := (Dp K H v d ∧ Nice d) ∨
  ∃ a es, v = .ref a ∧ H a = some (.dK (entsV es)) ∧ d = entsD es ∧ d.showable = true ∧ d.shown.length ≤ 1000 ∧ d.depth ≤ 10
def rReprX (K : PySem.W.Frag) : List V → Hp → VK → Prop := fun xs H Q => ∃ v d, xs = [v] ∧ Th K H v d ∧ Q (.str d.shown) H
theorem k_reprX {X : Cx} {K : PySem.W.Frag} (h : X.K = K) (gd : X.A.guards = some []) (hu : X.A.units + 70 < cLine) : CallR X (.builtin "repr") (rReprX K) := by
  subst h
  intro pins s σ H xs us Q I r h
  obtain ⟨v, d, rfl, th, q⟩ := h
  rcases th with ⟨hd, nice⟩ | ⟨a, es, rfl, ha, rfl, sh, len, dp⟩
  · exact call_reprD gd hu pins s σ H _ us Q I r ⟨v, d, rfl, hd, nice, q⟩
  · obtain ⟨u, rfl, ru⟩ := vals1 r
    cases ru
    obtain ⟨z, sm, vs, kv, o, ds, ep, ho, ex, hdat, _, pr, _⟩ := dk_of I.hok ha
    obtain ⟨i1, i2⟩ := readsEnts (h := s.heap) pr kv
    have rd : Reads s.heap (.ref a) (entsD es) (a :: [] ++ []) := by
      refine .dict ho ex.1 hdat ?_ ?_
      · rw [List.map_map]
        exact i1
      · rw [List.map_map]
        exact i2
    have line : (1000 : Nat) < sizeLine := by decide
    exact repr_of_reads' rd sh (fun _ m => by
      have e : sysModules = a := by simpa using m
      rw [e] at sm
      simp at sm) gd (by omega) (fun _ _ e => e) (fun h' u tk k => ⟨.str _, H, I.kept k, ⟨_, rfl⟩, q⟩) (by omega)
end Fd
namespace Fd
open PySem PySem.Spec PyProof.Rows L2
mutual
/-- data stay where nothing that stood is written -/
theorem dpKeep {K : PySem.W.Frag} {H H1 : Hp} (s : Same H H1) : ∀ {v : V} {d : PyData}, Dp K H v d → Dp K H1 v d
  | _, _, .non => .non
  | _, _, .bl b => .bl b
  | _, _, .int i => .int i
  | _, _, .str x => .str x
  | _, _, .lst h k => .lst (s.seq h) (dpsKeep s k)
  | _, _, .tup h k => .tup (St.tup potN (St.ofSame potN s) h) (dpsKeep s k)
theorem dpsKeep {K : PySem.W.Frag} {H H1 : Hp} (s : Same H H1) : ∀ {vs : List V} {ds : List PyData}, DpAll K H vs ds → DpAll K H1 vs ds
  | _, _, .nil => .nil
  | _, _, .cons a b => .cons (dpKeep s a) (dpsKeep s b)
end
theorem Th.keep {K : PySem.W.Frag} {H H1 : Hp} {v : V} {d : PyData} (s : Same H H1) (h : Th K H v d) : Th K H1 v d := by
  rcases h with ⟨hd, n⟩ | ⟨a, es, e, ha, r⟩
  · exact .inl ⟨dpKeep s hd, n⟩
  · exact .inr ⟨a, es, e, s _ _ ha, r⟩
/-- what isinstance says of a thing -/
def Cl (K : PySem.W.Frag) (H : Hp) (v : V) : Prop := (∃ z : Str, v = .str z ∧ z.length ≤ 20 ∧ ∀ c ∈ z.cps.toList, c < 128) ∨ (∃ i : Int, v = .int i) ∨ (∃ b : Bool, v = .bl b) ∨
  ∃ t : String, TyX K H v (.type t) ∧ kitB t "str" = some false ∧ kitB t "int" = some false ∧ kitB t "bool" = some false ∧ (∀ z : Str, v ≠ .str z) ∧ (∀ i : Int, v ≠ .int i)
theorem Cl.keep {K : PySem.W.Frag} {H H1 : Hp} {v : V} (s : Same H H1) (h : Cl K H v) : Cl K H1 v := by
  rcases h with h | h | h | ⟨t, ty, r⟩
  · exact .inl h
  · exact .inr (.inl h)
  · exact .inr (.inr (.inl h))
  · refine .inr (.inr (.inr ⟨t, ?_, r⟩))
    cases ty with
    | base b =>
      cases b with
      | non => exact .base .non
      | bl x => exact .base (.bl x)
      | int x => exact .base (.int x)
      | str x => exact .base (.str x)
      | flt x => exact .base (.flt x)
      | lst e => exact .base (.lst (s _ _ e))
      | frz e => exact .base (.frz (s _ _ e))
      | tup e => exact .base (.tup (s _ _ e))
      | dK e => exact .base (.dK (s _ _ e))
      | dT e => exact .base (.dT (s _ _ e))
    | byt b => exact .byt b
    | set e => exact .set (s _ _ e)
    | kList e c => exact .kList e c
    | kTuple e c => exact .kTuple e c
    | kDict e c => exact .kDict e c
    | fTuple e => exact .fTuple (s _ _ e)
    | fDict e => exact .fDict (s _ _ e)
/-- a short text of plain signs -/
def TxtOk (z : Str) : Prop := z.length ≤ 20 ∧ ∀ c ∈ z.cps.toList, c < 128
theorem strOk_txt {z : Str} (h : ∀ c ∈ z.cps.toList, c < 128) : PyData.strOk z = true := by
  unfold PyData.strOk
  rw [Array.all_eq_true']
  intro c m
  have := h c (Array.mem_toList_iff.mpr m)
  simp
  omega
theorem niceW_txt {z : Str} (h : TxtOk z) : NiceW 20 (.str z) := by
  refine ⟨by simp only [PyData.showable], by simp only [PyData.hasDict], ?_, by simp only [PyData.weight]; exact h.1, ?_, by simp [PyData.depth]⟩
  · simp only [PyData.leavesShort, List.all_eq_true, decide_eq_true_eq]
    intro c m
    have := h.2 c m
    omega
  · simp only [PyData.canLay0]
    exact strOk_txt h.2
theorem nice_txt {z : Str} (h : TxtOk z) : Nice (.str z) := (niceW_txt h).nice (by decide)
theorem nice_txts {zs : List Str} (n : zs.length ≤ 60) (h : ∀ z ∈ zs, TxtOk z) : NiceW (21 * zs.length) (.list (zs.map PyData.str)) := by
  have q := niceWs (n := 20) (k := 0) (ds := zs.map PyData.str) fun d m => by
    obtain ⟨z, mz, rfl⟩ := List.mem_map.mp m
    exact ⟨niceW_txt (h z mz), by simp [PyData.depth]⟩
  have := q.lst (by decide)
  rw [List.length_map] at this
  exact this
theorem niceW_bool (b : Bool) : NiceW 10 (.bool b) := by
  refine ⟨by simp only [PyData.showable], by simp only [PyData.hasDict], ?_, ?_, ?_, by simp [PyData.depth]⟩ <;> cases b <;> decide
theorem nice_bools {bs : List Bool} (n : bs.length ≤ 60) : Nice (.list (bs.map PyData.bool)) := by
  have q := niceWs (n := 10) (k := 0) (ds := bs.map PyData.bool) fun d m => by
    obtain ⟨z, mz, rfl⟩ := List.mem_map.mp m
    exact ⟨niceW_bool z, by simp [PyData.depth]⟩
  refine (q.lst (by decide)).nice ?_
  rw [List.length_map]
  omega
theorem dps_bools {K : PySem.W.Frag} {H : Hp} : ∀ bs : List Bool, DpAll K H (bs.map V.bl) (bs.map PyData.bool)
  | [] => .nil
  | b :: bs => .cons (.bl b) (dps_bools bs)
end Fd
namespace Fd
open PySem PySem.Spec PyProof.Rows L2
/-- over a text, the target a name, with a test -/
theorem lcStrT {K : PySem.W.Frag} {tt : TT} {te : TE} {vs : List Nat} {σ : L2.St} {H1 : Hp} {Q : VK} {z : Str} {j : Nat} (p : Option Addr) (R : Nat → List PyData → Prop) (hp : PotO p H1) (hn : z.cps.size ≤ 1000000) (r0 : R 0 []) (hw : ∀ x, wipe ((wipe σ vs).set j (some x)) vs = wipe σ vs)
    (step : ∀ i c Ha ds (C : V → Hp → Prop) (N : Hp → Prop), z.cps[i]? = some c → St p H1 Ha → flatTs ds = true → R i ds →
      (∀ y H4 d, St p Ha H4 → flatT d = true → Dp K H4 y d → R (i + 1) (ds ++ [d]) → C y H4) → (∀ H3, St p Ha H3 → R (i + 1) ds → N H3) →
      tt ((wipe σ vs).set j (some (.str ⟨#[c]⟩))) Ha fun b H3 => if b = true then te ((wipe σ vs).set j (some (.str ⟨#[c]⟩))) H3 C else N H3)
    (done : ∀ D acc ds H', H1 D = none → St p H1 H' → H' D = some (.lst acc) → flatTs ds = true → DpAll K H' acc ds → R z.cps.size ds → Q (.ref D) H') : LcK (Its z) (gName j) tt te vs σ Q H1 := by
  refine lcW walk_str p R hp (fun _ _ => trivial) hn r0 ?_ done
  rintro i x Ha H' ds C N hi s fl r ⟨rfl, c, e, rfl⟩ k k2
  exact ⟨hw _, step i c _ ds C N e s fl r k k2⟩
theorem cps_get {z : Str} {i c : Nat} (h : z.cps[i]? = some c) : z.cps.toList[i]? = some c := by
  rw [Array.getElem?_toList]
  exact h
theorem cps_size (z : Str) : z.cps.toList.length = z.cps.size := Array.length_toList
end Fd

namespace Fd
open PySem PySem.Spec PySem.Calls PySem.W PyProof.Rows L2
/-! ### a, *rest = a tuple or a list -/
section
variable {prog : Program} {w : World} {A : Around} {E : Value → Shared → Prop} {s : Shared} {env : Env}
theorem starT {l : Addr} {items : Array Value} {n i : Nat} {Q : List Value → Shared → Prop} (hl : PyProof.Rows.IsTup s.heap l items) (hh : A.handled = none) (hi : i < n) (hn : n ≤ items.size + 1) (hz : items.size ≤ 16384)
    (h : ∀ (h' : Heap) (tk : Nat), (∀ b o, s.heap.get? b = some o → h'.get? b = some o) →
      Q (items.toList.take i ++ [.ref h'.objs.size] ++ (items.toList.drop i).drop (items.size + 1 - n)) { s with heap := h'.push { cls := .type "list", data := .seq ((items.toList.drop i).take (items.size + 1 - n)).toArray }, toks := tk }) :
    wpAny (model prog w) A (unpackItems (.ref l) n (some i)) Q E s := by
  have hlt : l ≠ s.heap.objs.size := by obtain ⟨o, ho, _⟩ := hl; exact Nat.ne_of_lt (Heap.lt_size ho)
  have hll : l < s.heap.objs.size := by obtain ⟨o, ho, _⟩ := hl; exact Heap.lt_size ho
  unfold unpackItems
  refine wpAny_bind ?_
  unfold notIterableAtAll
  refine wpAny_bind (wpAny_specialOf hl.typeIs slot_tuple_iter.lookup ?_)
  refine wpAny_pure ?_
  simp only [Bool.false_eq_true, if_false]
  refine wpAny_bind (wpAny_holding (iter_tuple hl ?_))
  refine wpAny_bind (wpAny_holding (draw_tuple hlt i 0 _ _ ⟨_, Heap.get?_push_size _ rfl, rfl, rfl⟩ (hl.push _) (by omega) fun h₁ hit₁ hs₁ => ?_))
  have hl₁ : PyProof.Rows.IsTup h₁ l items := (hl.push _).extBut hs₁.extBut hlt
  rw [Nat.zero_add] at hit₁
  have hit₁' := hit₁
  obtain ⟨oi, hoi, _⟩ := hit₁'
  have hl₁' := hl₁
  obtain ⟨ol, hol, _⟩ := hl₁'
  rw [List.drop_zero]
  have hfl : (items.toList.take i).length = i := by rw [List.length_take, Array.length_toList]; omega
  rw [if_neg (show ¬ ((items.toList.take i).length < i) by rw [hfl]; omega)]
  refine wpAny_bind (wpAny_holding (kun_collect (s := { s with heap := h₁ }) (T := "tuple_iterator") (.inr (.inr (.inr rfl))) (Walks.tuple (A := A.in1) hh s.heap.objs.size l hlt items) (fun j u st => st.1.typeIs) (k := i) (by omega) ⟨hit₁, hl₁⟩ (Heap.lt_size hoi) (Heap.lt_size hol) (fun h₂ tk hk => ?_) (by rw [sizeLine_eq]; omega)))
  have hrl : (items.toList.drop i).length = items.size - i := by rw [List.length_drop, Array.length_toList]
  have hmid : (items.toList.drop i).length - (n - 1 - i) = items.size + 1 - n := by rw [hrl]; omega
  show wpAny _ _ (if (items.toList.drop i).length < n - 1 - i then _ else _) _ _ _
  rw [if_neg (by rw [hrl]; omega)]
  show wpAny _ _ (newList ((items.toList.drop i).take ((items.toList.drop i).length - (n - 1 - i))) >>= fun d => pure (items.toList.take i ++ [d] ++ (items.toList.drop i).drop ((items.toList.drop i).length - (n - 1 - i)))) _ _ _
  rw [hmid]
  have he : ∀ b o, s.heap.get? b = some o → h₂.get? b = some o := fun b o e => hk b o (Nat.ne_of_lt (Heap.lt_size e)) (hs₁.extBut b o (Nat.ne_of_lt (Heap.lt_size e)) (Heap.get?_push_of_some _ e))
  exact wpAny_bind (wpAny_newObj_type (wpAny_pure (h h₂ tk he)) (by show (List.toArray _).size ≤ sizeLine; rw [List.size_toArray, List.length_take, hrl, sizeLine_eq]; omega))
theorem starL {l : Addr} {items : Array Value} {n i : Nat} {Q : List Value → Shared → Prop} (hl : s.heap.IsList l items) (hh : A.handled = none) (hi : i < n) (hn : n ≤ items.size + 1) (hz : items.size ≤ 16384)
    (h : ∀ (h' : Heap) (tk : Nat), (∀ b o, s.heap.get? b = some o → h'.get? b = some o) →
      Q (items.toList.take i ++ [.ref h'.objs.size] ++ (items.toList.drop i).drop (items.size + 1 - n)) { s with heap := h'.push { cls := .type "list", data := .seq ((items.toList.drop i).take (items.size + 1 - n)).toArray }, toks := tk }) :
    wpAny (model prog w) A (unpackItems (.ref l) n (some i)) Q E s := by
  have hlt : l ≠ s.heap.objs.size := by obtain ⟨o, ho, _⟩ := hl; exact Nat.ne_of_lt (Heap.lt_size ho)
  have hll : l < s.heap.objs.size := by obtain ⟨o, ho, _⟩ := hl; exact Heap.lt_size ho
  unfold unpackItems
  refine wpAny_bind ?_
  unfold notIterableAtAll
  refine wpAny_bind (wpAny_specialOf hl.typeIs slot_list_iter.lookup ?_)
  refine wpAny_pure ?_
  simp only [Bool.false_eq_true, if_false]
  refine wpAny_bind (wpAny_holding (wpAny_pyIter_list hl ?_))
  refine wpAny_bind (wpAny_holding (kun_draw hlt i 0 _ _ ⟨_, Heap.get?_push_size _ rfl, rfl, rfl⟩ (hl.push _) (by omega) fun h₁ hit₁ hs₁ => ?_))
  have hl₁ : h₁.IsList l items := (hl.push _).extBut hs₁.extBut hlt
  rw [Nat.zero_add] at hit₁
  have hit₁' := hit₁
  obtain ⟨oi, hoi, _⟩ := hit₁'
  have hl₁' := hl₁
  obtain ⟨ol, hol, _⟩ := hl₁'
  rw [List.drop_zero]
  have hfl : (items.toList.take i).length = i := by rw [List.length_take, Array.length_toList]; omega
  rw [if_neg (show ¬ ((items.toList.take i).length < i) by rw [hfl]; omega)]
  refine wpAny_bind (wpAny_holding (kun_collect (s := { s with heap := h₁ }) (T := "list_iterator") (.inr (.inr (.inl rfl))) (Walks.list (A := A.in1) hh s.heap.objs.size l hlt items) (fun j u st => st.1.typeIs) (k := i) (by omega) ⟨hit₁, hl₁⟩ (Heap.lt_size hoi) (Heap.lt_size hol) (fun h₂ tk hk => ?_) (by rw [sizeLine_eq]; omega)))
  have hrl : (items.toList.drop i).length = items.size - i := by rw [List.length_drop, Array.length_toList]
  have hmid : (items.toList.drop i).length - (n - 1 - i) = items.size + 1 - n := by rw [hrl]; omega
  show wpAny _ _ (if (items.toList.drop i).length < n - 1 - i then _ else _) _ _ _
  rw [if_neg (by rw [hrl]; omega)]
  show wpAny _ _ (newList ((items.toList.drop i).take ((items.toList.drop i).length - (n - 1 - i))) >>= fun d => pure (items.toList.take i ++ [d] ++ (items.toList.drop i).drop ((items.toList.drop i).length - (n - 1 - i)))) _ _ _
  rw [hmid]
  have he : ∀ b o, s.heap.get? b = some o → h₂.get? b = some o := fun b o e => hk b o (Nat.ne_of_lt (Heap.lt_size e)) (hs₁.extBut b o (Nat.ne_of_lt (Heap.lt_size e)) (Heap.get?_push_of_some _ e))
  exact wpAny_bind (wpAny_newObj_type (wpAny_pure (h h₂ tk he)) (by show (List.toArray _).size ≤ sizeLine; rw [List.size_toArray, List.length_take, hrl, sizeLine_eq]; omega))
end
section
variable {X : Cx} {pos : Pos}
theorem pgs_star {e : Expr} {es : List Expr} {p : Pos} {t : TG} {u : TGs} (h1 : PG X e t) (h2 : PGs X es u)
    (hs : (assignEach (.Starred e p :: es) X.env).map (·.2) = assign e X.env :: (assignEach es X.env).map (·.2) := by rfl) : PGs X (.Starred e p :: es) (gCons t u) := by
  refine ⟨fun pins s σ H vs us Q I r h => ?_⟩
  obtain ⟨v, vr, e1, h⟩ := h
  subst e1
  cases r with
  | cons r rr =>
    rw [hs]
    refine assignInOrder_cons (thn (h1.run pins s σ H _ _ _ I r h) fun _ s1 ⟨σ1, H1, I1, q1⟩ => ?_)
    exact h2.run pins s1 σ1 H1 _ _ Q I1 rr q1
/-- a, .., *rest, .., z = a tuple or a list: n targets, the i-th is starred -/
def gStar (K : PySem.W.Frag) (n i : Nat) (t : TGs) : TG := fun v σ H Q => ∃ a xs, v = .ref a ∧ (SqT K H a xs ∨ SqL K H a xs) ∧ n ≤ xs.length + 1 ∧ xs.length ≤ 16384 ∧
  ∀ D, H D = none → t (xs.take i ++ .ref D :: (xs.drop i).drop (xs.length + 1 - n)) σ (upd H D (.lst ((xs.drop i).take (xs.length + 1 - n)))) Q
theorem Vals_take : ∀ {vs : List V} {us : List Value} (k : Nat), Vals vs us → Vals (vs.take k) (us.take k)
  | _, _, 0, _ => .nil
  | _, _, _ + 1, .nil => .nil
  | _, _, k + 1, .cons r h => .cons r (Vals_take k h)
theorem Vals_drop : ∀ {vs : List V} {us : List Value} (k : Nat), Vals vs us → Vals (vs.drop k) (us.drop k)
  | _, _, 0, h => h
  | _, _, _ + 1, .nil => .nil
  | _, _, k + 1, .cons _ h => Vals_drop k h
theorem pg_star {es : List Expr} {k : Nat} {t : TGs} {n i : Nat} (hc : X.calm = true) (hi : i < n) (h : PGs X es t)
    (hn : (assignEach es X.env).length = n := by rfl) (hst : (assignEach es X.env).findIdx? (·.1) = some i := by rfl) : PG X (.Tuple es k pos) (gStar X.K n i t) := by
  refine ⟨fun pins s σ H v u Q I r hw => ?_⟩
  obtain ⟨a, xs, e1, hq, hl, hz, hw⟩ := hw
  subst e1
  cases r
  have fin : ∀ (its : List Value), Vals xs its → ∀ (h' : Heap) (tk : Nat), (∀ b o, s.heap.get? b = some o → h'.get? b = some o) →
      wpAny (model X.prog X.w) X.A (assignInOrder ((assignEach es X.env).map (·.2)) (its.take i ++ [.ref h'.objs.size] ++ (its.drop i).drop (its.length + 1 - n)))
        (fun _ s' => ∃ σ' H', Inv X pins σ' H' s' ∧ Q σ' H') X.xe { s with heap := h'.push { cls := .type "list", data := .seq ((its.drop i).take (its.length + 1 - n)).toArray }, toks := tk } := by
    intro its rv h' tk hk
    have el : its.length = xs.length := rv.length.symm
    have I1 : Inv X pins σ H { s with heap := h', toks := tk } := I.kept (t' := tk) hk
    have hf : H h'.objs.size = none := I1.hok.fresh (Nat.le_refl _)
    have I2 : Inv X pins σ (upd H h'.objs.size (.lst ((xs.drop i).take (xs.length + 1 - n)))) { s with heap := h'.push { cls := .type "list", data := .seq ((its.drop i).take (its.length + 1 - n)).toArray }, toks := tk } :=
      I1.laid (t' := tk) (fun b u e => Heap.get?_push_of_some _ e) (Nat.le_refl _) ⟨by rw [List.length_take, List.length_drop, sizeLine_eq]; omega, _, 0, (by rw [el]; exact Vals_take _ (Vals_drop _ rv)), Heap.get?_push_size _ rfl⟩
    refine h.run pins _ σ _ _ _ Q I2 ?_ (hw _ hf)
    rw [el, List.append_assoc]
    exact (Vals_take i rv).append (.cons rfl (Vals_drop _ (Vals_drop i rv)))
  rw [PyProof.Rows.assign_Tuple]
  refine wpAny_bind (wpAny_standAt ?_)
  unfold unpack
  rw [hn, hst]
  rcases hq with hq | hq
  · obtain ⟨its, rv, ht, _⟩ := I.tuple hq
    have el : its.length = xs.length := rv.length.symm
    have sz : its.toArray.size = xs.length := by rw [List.size_toArray, el]
    refine wpAny_bind (wpAny_holding (starT (items := its.toArray) ht (I.ok.hd hc) hi (by rw [sz]; exact hl) (by rw [sz]; exact hz) fun h' tk hk => ?_))
    have q := fin its rv h' tk hk
    simpa using q
  · obtain ⟨its, rv, pl, _⟩ := I.list hq
    have hl' : s.heap.IsList a its.toArray := by
      obtain ⟨o, m, e, c, d, q⟩ := pl
      exact ⟨o, e, c, m, q⟩
    have el : its.length = xs.length := rv.length.symm
    have sz : its.toArray.size = xs.length := by rw [List.size_toArray, el]
    refine wpAny_bind (wpAny_holding (starL (items := its.toArray) hl' (I.ok.hd hc) hi (by rw [sz]; exact hl) (by rw [sz]; exact hz) fun h' tk hk => ?_))
    have q := fin its rv h' tk hk
    simpa using q
/-- a, *rest = .. -/
def gHd (K : PySem.W.Frag) (t : TGs) : TG := fun v σ H Q => ∃ a y r, v = .ref a ∧ (SqT K H a (y :: r) ∨ SqL K H a (y :: r)) ∧ r.length ≤ 1000 ∧ ∀ D, H D = none → t [y, .ref D] σ (upd H D (.lst r)) Q
theorem pg_hd {es : List Expr} {k : Nat} {t : TGs} (hc : X.calm = true) (h : PGs X es t)
    (hn : (assignEach es X.env).length = 2 := by rfl) (hst : (assignEach es X.env).findIdx? (·.1) = some 1 := by rfl) : PG X (.Tuple es k pos) (gHd X.K t) := by
  refine ⟨fun pins s σ H v u Q I r hw => (pg_star (n := 2) (i := 1) hc (by decide) h hn hst).run pins s σ H v u Q I r ?_⟩
  obtain ⟨a, y, xs, rfl, hs, hl, q⟩ := hw
  refine ⟨a, y :: xs, rfl, hs, by simp, by simp; omega, fun D hD => ?_⟩
  have e1 : List.take 1 (y :: xs) ++ V.ref D :: List.drop ((y :: xs).length + 1 - 2) (List.drop 1 (y :: xs)) = [y, .ref D] := by simp
  have e2 : List.take ((y :: xs).length + 1 - 2) (List.drop 1 (y :: xs)) = xs := by simp
  rw [e1, e2]
  exact q D hD
end
end Fd

namespace Fd
open PySem PySem.Spec PySem.Calls PyProof.Rows L2
section
variable {prog : Program} {w : World} {K : Type} [DecidableEq K] {knd : KeyKind prog w K} {A : Around} {E : Value → Shared → Prop} {s : Shared}
theorem notRef {v : Value} (h : carriedByValue v = true) : ∀ a, v ≠ .ref a := by
  rintro a rfl
  exact nomatch h
theorem dictPut_pairs {d : Addr} {kvs : List (K × Value)} {k : K} {key v : Value} {Q : Unit → Shared → Prop} (hkey : knd.is k key = true) (hm : s.heap.DictOf knd d kvs)
    (hQ : ∀ h', h'.DictOf knd d (stored kvs k v) → Heap.SameBut d s.heap h' → Q () { s with heap := h' })
    (hsz : kvs.length ≤ sizeLine) :
    wpAny (model prog w) A (dictPut d (knd.hash k) key v) Q E s := by
  obtain ⟨o, es, ep, ho, hc, hd, hk, hp, hn⟩ := hm
  have hes : es.size ≤ sizeLine := by
    have e1 := hp.length
    have e2 : es.toList.length = es.size := by simp
    omega
  unfold dictPut
  refine wpAny_bind (wpAny_dictFind_of hkey ho hd hk ?_)
  have hidx : (es.findIdx? fun e => knd.is k e.key) = kvs.findIdx? fun kv => decide (kv.1 = k) := by
    rw [← hp.findIdx k]; obtain ⟨l⟩ := es; simp
  cases hi : es.findIdx? fun e => knd.is k e.key with
  | some i =>
    refine wpAny_updateDict ho hd (hQ _ ⟨_, _, ep, Heap.get?_update_self _ ho (Obj.isFreed_of_dict (Obj.data_mapDict hd _)),
      hc.mapDict _, Obj.data_mapDict hd _, hk.modify _ _, ?_, ?_⟩ (Heap.SameBut.update ..))
    · rw [stored, if_pos (any_of_findIdx_some (hidx ▸ hi))]
      have hl : (es.toList.findIdx? fun e => knd.is k e.key) = some i := by rw [← hi]; obtain ⟨l⟩ := es; simp
      have := hp.modify hn hl v
      obtain ⟨l⟩ := es
      simpa using this
    · rw [stored, if_pos (any_of_findIdx_some (hidx ▸ hi)), keys_map_store]; exact hn
  | none =>
    have hnot : k ∉ kvs.map (·.1) := not_mem_of_findIdx_none (hidx ▸ hi)
    have hany : ¬ (kvs.any fun kv => decide (kv.1 = k)) = true := by
      rw [List.any_eq_true]; rintro ⟨kv, hkv, he⟩
      exact hnot (List.mem_map.mpr ⟨kv, hkv, of_decide_eq_true he⟩)
    refine wpAny_updateDictKeys (hz := hes) ho hd (hQ _ ⟨_, _, ep + 1, Heap.get?_update_self _ ho (Obj.isFreed_of_dict (Obj.data_mapDictKeys hd _)),
      hc.mapDictKeys _, Obj.data_mapDictKeys hd _, hk.push hkey _, ?_, ?_⟩ (Heap.SameBut.update ..))
    · rw [stored, if_neg hany]
      have := hp.append hkey (knd.hash k) v
      obtain ⟨l⟩ := es
      simpa using this
    · rw [stored, if_neg hany, List.map_append, List.nodup_append]
      refine ⟨hn, by simp, ?_⟩
      intro a ha b hb
      simp only [List.map_cons, List.map_nil, List.mem_singleton] at hb
      subst hb
      exact fun e => hnot (e ▸ ha)
theorem mergeMap {d o : Addr} {kvs more : List (K × Value)} {Q : Unit → Shared → Prop} (hdo : d ≠ o) (hoS : (o == sysModules) = false)
    (hd : s.heap.DictOf knd d kvs) (ho : s.heap.DictOf knd o more)
    (hQ : ∀ h', h'.DictOf knd d (merged kvs more) → h'.DictOf knd o more → Heap.SameBut d s.heap h' → Q () { s with heap := h' })
    (hsz : kvs.length + more.length ≤ sizeLine) :
    wpAny (model prog w) A (mergeMapping d (.ref o) false) Q E s := by
  obtain ⟨od, esd, epd, hod, hcd, hdd, hkd, hpd, hnd⟩ := id hd
  obtain ⟨oo, eso, epo, hoo, hco, hdo', hko, hpo, hno⟩ := id ho
  unfold mergeMapping
  refine wpAny_bind (wpAny_isInstance ho.typeIs isSubtype_dict_dict ?_)
  rw [if_pos rfl]
  refine wpAny_bind (wpAny_specialOf ho.typeIs F.slot_dict_iter.lookup ?_)
  refine wpAny_bind (wpAny_pure ?_)
  have e0 : ((some (Value.builtin "dict.__iter__") : Option Value) == some (.builtin "dict.__iter__")) = true := by decide
  rw [e0]
  show wpAny _ _ (if (o == sysModules) = true then _ else _) _ _ _
  rw [if_neg (by rw [hoS]; exact Bool.false_ne_true)]
  have hlen : more.length = eso.size := by rw [← hpo.length]; simp
  have loop : wpAny (model prog w) A (do
      let l ← dictEntries o
      let epoch ← dictEpoch o
      forIn (List.range l.size) PUnit.unit fun i (_ : PUnit) => (do
          let l' ← dictEntries o
          match l'[i]? with
            | some e => do
              holding [e.key, e.val] (dictPut d e.hash e.key e.val)
              let ep' ← dictEpoch o
              if (ep' != epoch) = true then do
                  (unsupported "dict.changed-during-merge" : Sem PUnit)
                  pure (ForInStep.yield PUnit.unit)
                else pure (ForInStep.yield PUnit.unit)
            | _ => do
              (unsupported "dict.changed-during-merge" : Sem PUnit)
              pure (ForInStep.yield PUnit.unit) : Sem (ForInStep PUnit))
      pure ()) Q E s := by
    refine wpAny_bind (wpAny_dictEntries hoo hdo' ?_)
    refine wpAny_bind (wpAny_dictEpoch hoo hdo' ?_)
    refine wpAny_bind ?_
    rw [List.range_eq_range']
    refine wpAny_forIn_list _
      (fun rest _ s' => ∃ h' i, s' = { s with heap := h' } ∧ rest = List.range' i (eso.size - i) ∧ i ≤ eso.size ∧ h'.DictOf knd d (merged kvs (more.take i)) ∧ h'.get? o = some oo ∧ Heap.SameBut d s.heap h')
      _ ?_ ?_ _ _ ⟨s.heap, 0, rfl, by simp, Nat.zero_le _, by simpa [merged] using hd, hoo, Heap.SameBut.refl _ _⟩
    · rintro x rest b s' ⟨h', i, rfl, hr, hi, hd', hoo', hs'⟩
      have hlt : i < eso.size := by
        rcases Nat.lt_or_ge i eso.size with h | h
        · exact h
        · rw [Nat.sub_eq_zero_of_le h] at hr; simp at hr
      obtain ⟨rfl, hrest⟩ : x = i ∧ rest = List.range' (i + 1) (eso.size - (i + 1)) := by
        have e : eso.size - i = (eso.size - (i + 1)) + 1 := by omega
        rw [e, List.range'_succ] at hr
        injection hr with h1 h2
        exact ⟨h1, h2⟩
      refine wpAny_bind (wpAny_dictEntries hoo' hdo' ?_)
      rw [Array.getElem?_eq_getElem hlt]
      obtain ⟨kv, hkv⟩ : ∃ kv, more[x]? = some kv := ⟨more[x]'(by rw [hlen]; exact hlt), List.getElem?_eq_getElem _⟩
      obtain ⟨k, v⟩ := kv
      obtain ⟨hkey, hval⟩ := hpo.get? (e := eso[x]) (by simp [hlt]) hkv
      obtain ⟨k', hkey', hhash⟩ := hko eso[x] (Array.getElem_mem hlt)
      obtain rfl : k' = k := knd.inj _ _ _ hkey' hkey
      show wpAny _ _ (holding [eso[x].key, eso[x].val] (dictPut d eso[x].hash eso[x].key eso[x].val) >>= _) _ _ _
      rw [hhash, hval]
      have hmx : (merged kvs (more.take x)).length ≤ sizeLine := by
        have e1 := merged_length_le kvs (more.take x)
        have e2 : (more.take x).length ≤ more.length := by rw [List.length_take]; omega
        omega
      refine wpAny_bind (wpAny_holding (dictPut_pairs (hsz := hmx) hkey hd' fun h'' hd'' hs'' => ?_))
      have hoo'' : h''.get? o = some oo := (hs''.2 o (Ne.symm hdo)).trans hoo'
      refine wpAny_bind (wpAny_dictEpoch hoo'' hdo' ?_)
      rw [if_neg (by simp)]
      exact wpAny_pure ⟨h'', x + 1, rfl, hrest, hlt, by rw [merged_take_succ kvs more x (k', v) hkv]; exact hd'', hoo'', hs'.trans hs''⟩
    · rintro b s' ⟨h', i, rfl, hr, hi, hd', hoo', hs'⟩
      have hin : i = eso.size := by
        rcases Nat.lt_or_ge i eso.size with h | h
        · have e : eso.size - i = (eso.size - (i + 1)) + 1 := by omega
          rw [e, List.range'_succ] at hr; exact nomatch hr
        · exact Nat.le_antisymm hi h
      refine wpAny_pure (hQ h' ?_ ⟨oo, eso, epo, hoo', hco, hdo', hko, hpo, hno⟩ hs')
      rw [hin, ← hlen, List.take_length] at hd'; exact hd'
  refine wpAny_bind (wpAny_dictEntries hod hdd ?_)
  show wpAny _ _ (if esd.isEmpty = true then _ else _) _ _ _
  by_cases hemp : esd.isEmpty = true
  · rw [if_pos hemp]
    refine wpAny_bind (wpAny_dictEntries hoo hdo' ?_)
    refine wpAny_bind (PySem.MeetsSeq2.wpAny_forIn_array _ (fun rest _ s' => s' = s ∧ ∀ e ∈ rest, e ∈ eso) _ ?_ ?_ _ _ ⟨rfl, fun e h => by simpa using h⟩)
    · rintro x rest b s' ⟨rfl, hm⟩
      obtain ⟨k', hkey', _⟩ := hko x (hm x (List.mem_cons_self ..))
      have nr := notRef (knd.byValue _ _ hkey')
      have hm' : s' = s' ∧ ∀ e ∈ rest, e ∈ eso := ⟨rfl, fun e h => hm e (List.mem_cons_of_mem _ h)⟩
      dsimp only
      split
      · rename_i a ea
        exact absurd ea (nr a)
      · exact wpAny_pure hm'
    · rintro b s' ⟨rfl, _⟩
      exact loop
  · rw [if_neg hemp]
    exact loop
end
end Fd

namespace Fd
open PySem PySem.Spec PySem.Calls PyProof.Rows L2
section
variable {prog : Program} {w : World} {K : Type} [DecidableEq K] {knd : KeyKind prog w K} {A : Around} {E : Value → Shared → Prop} {s : Shared}
theorem dispSpread {g k x : Sem Value} {Q : Value → Shared → Prop}
    (h : wpAny (model prog w) A g (fun gv s1 => ∃ o more, gv = .ref o ∧ s.heap.objs.size ≠ o ∧ (o == sysModules) = false ∧ s1.heap.DictOf knd s.heap.objs.size [] ∧ s1.heap.DictOf knd o more ∧ more.length < sizeLine ∧
      ∀ h2, h2.DictOf knd s.heap.objs.size more → Heap.SameBut s.heap.objs.size s1.heap h2 →
        wpAny (model prog w) A k (fun kv s2 => wpAny (model prog w) A x (fun xv s3 => ∃ kk, knd.is kk kv = true ∧ s3.heap.DictOf knd h2.objs.size [] ∧ (h2.objs.size == sysModules) = false ∧
          ∀ h4, h4.DictOf knd h2.objs.size [(kk, xv)] → Heap.SameBut h2.objs.size s3.heap h4 → ∃ more', h4.DictOf knd s.heap.objs.size more' ∧ more'.length < sizeLine ∧
            ∀ h5, h5.DictOf knd s.heap.objs.size (stored more' kk xv) → h5.DictOf knd h2.objs.size [(kk, xv)] → Heap.SameBut s.heap.objs.size h4 h5 → Q (.ref s.heap.objs.size) { s3 with heap := h5, toks := s3.toks + 1 }) E s2)
          E { s1 with heap := h2.push { cls := .type "dict", data := .dict #[] } }) E { s with heap := s.heap.push { cls := .type "dict", data := .dict #[] } }) :
    wpAny (model prog w) A (dictDisplay [(none, g), (some k, x)]) Q E s := by
  unfold dictDisplay
  dsimp only
  rw [List.forIn_cons]
  simp only [List.isEmpty_nil, if_true, pure_bind, bind_assoc]
  refine wpAny_bind (wpAny_alloc ?_)
  refine wpAny_bind (wpAny_holding (wpAny_mono h (fun gv s1 h1 => ?_) fun _ _ e => e))
  obtain ⟨o, more, rfl, hdo, hoS, hd, ho, hm, h1⟩ := h1
  refine wpAny_bind (wpAny_onRaise (wpAny_tryCatch (wpAny_onRaise (wpAny_holding (mergeMap (knd := knd) hdo hoS hd ho (fun h2 hd2 ho2 sb => ?_) (by simp; omega))))))
  have e0 : merged [] more = more := by
    obtain ⟨_, _, _, _, _, _, _, _, hn⟩ := ho
    exact merged_nil_of_nodup more hn
  rw [e0] at hd2
  have h2' := h1 h2 hd2 sb
  clear h1 h
  rw [List.forIn_cons]
  have l17 : (([(k, x)] : List (Sem Value × Sem Value)).length == 17) = false := rfl
  simp only [List.nil_append, l17, Bool.false_eq_true, if_false, pure_bind, List.forIn_nil, List.isEmpty_cons]
  have sub := wpAny_subDict (prog := prog) (w := w) (knd := knd) (A := A) (E := E) (s := { s1 with heap := h2 }) (pairs := [(k, x)])
    (Q := fun d2 s' => wpAny (model prog w) A ((holding [Value.ref s.heap.objs.size, Value.ref d2] (mergeMapping s.heap.objs.size (Value.ref d2) false)).onRaise fun y => do
      let _ ← holding [Value.ref s.heap.objs.size, y] (runValue (Code.builtin "proto.let_go" { }))
      pure ()) (fun _ s5 => Q (.ref s.heap.objs.size) s5) E s') (by show 1 ≤ 15; decide) ?_
  · refine wpAny_bind (wpAny_bind (wpAny_holding (wpAny_mono sub (fun d2 s4 h4 => ?_) fun _ _ e => e)))
    exact wpAny_bind (wpAny_mono h4 (fun _ s5 h5 => wpAny_pure (wpAny_pure h5)) fun _ _ e => e)
  · refine evalPairs_cons (wpAny_mono h2' (fun kv s2 q2 => wpAny_mono q2 (fun xv s3 q3 => evalPairs_nil ?_) fun _ _ e => e) fun _ _ e => e)
    obtain ⟨kk, hk, d3, ds, q3⟩ := q3
    refine ⟨[(kk, xv)], ⟨hk, rfl, True.intro⟩, d3, fun h4 d4 sb4 => ?_⟩
    have e1 : merged [] [(kk, xv)] = [(kk, xv)] := rfl
    rw [e1] at d4
    obtain ⟨more', dm, hm', q5⟩ := q3 h4 d4 sb4
    have ne : s.heap.objs.size ≠ h2.objs.size := by
      obtain ⟨oo, _, _, e, _⟩ := hd2
      exact Nat.ne_of_lt (Heap.lt_size e)
    refine wpAny_onRaise (wpAny_holding (mergeMap (knd := knd) ne ds dm d4 (fun h5 d5 d5' sb5 => ?_) (by simp; omega)))
    exact q5 h5 (by simpa [merged] using d5) d5' sb5
end
section
variable {X : Cx}
/-- {**g, k: x}: d the new dict, e the one that holds the pair for a while -/
def tSpread (tg tk tx : TE) : TE := fun σ H Q => ∀ d, H d = none → tg σ (upd H d (.dK [])) fun v H1 => ∃ o kvs, v = .ref o ∧ o ≠ d ∧ H1 d = some (.dK []) ∧ H1 o = some (.dK kvs) ∧ kvs.length ≤ 1000 ∧
  ∀ e, upd H1 d (.dK kvs) e = none → tk σ (upd (upd H1 d (.dK kvs)) e (.dK [])) fun y H3 => tx σ H3 fun z H4 => ∃ k : Key, y = kV k ∧ H4 e = some (.dK []) ∧ H4 d = some (.dK kvs) ∧
    Q (.ref d) (upd (upd H4 e (.dK [(k, z)])) d (.dK (putK kvs k z)))
theorem pe_spread {ge ke xe : Expr} {pos : Pos} {tg tk tx : TE} (hg : PE X ge tg) (hk : PE X ke tk) (hx : PE X xe tx) : PE X (.Dict [none, some ke] [ge, xe] pos) (tSpread tg tk tx) := by
  refine ⟨fun pins s σ H Q I h => ?_⟩
  rw [arm_eval_Dict]
  refine wpAny_bind (wpAny_standAt ?_)
  show wpAny _ _ (dictDisplay [(none, (do let x ← eval ge X.env; standAt pos; pure x)), (some (eval ke X.env), (do let x ← eval xe X.env; standAt pos; pure x))]) _ _ _
  have hn := I.hok.fresh (Nat.le_refl s.heap.objs.size)
  have I1 := I.laid (a := s.heap.objs.size) (o := .dK []) (h' := s.heap.push { cls := .type "dict", data := .dict #[] }) (t' := s.toks) (fun _ _ q => Heap.get?_push_of_some _ q) (Nat.le_refl _) (dk_empty s.heap I.big)
  refine dispSpread (knd := mixKind X.prog X.w) (wpAny_bind (thn (hg.run pins _ σ _ _ I1 (h _ hn)) fun gv s1 ⟨v, H1, I2, rg, o, kvs, ev, od, hd1, ho1, hl, h2⟩ => wpAny_bind (wpAny_standAt (wpAny_pure ?_))))
  subst ev
  cases rg
  obtain ⟨z1, m1, vs1, r1, dd1⟩ := dk_of I2.hok hd1
  cases r1
  obtain ⟨z2, m2, vs2, r2, dd2⟩ := dk_of I2.hok ho1
  have line : (1000 : Nat) < sizeLine := by decide
  refine ⟨o, vs2, rfl, Ne.symm od, m2, dd1, dd2, by rw [← r2.length]; omega, fun hp2 d2 sb => ?_⟩
  have he2 : ∃ q, hp2.get? s.heap.objs.size = some q := let ⟨q, _, _, hq, _⟩ := d2; ⟨q, hq⟩
  have I3 : Inv X pins σ (upd H1 s.heap.objs.size (.dK kvs)) { s1 with heap := hp2 } := d_write I2 (by rw [hd1]; exact True.intro) sb he2 (dk_new z2 m1 r2 d2)
  have hn3 := I3.hok.fresh (Nat.le_refl hp2.objs.size)
  have I4 := I3.laid (a := hp2.objs.size) (o := .dK []) (h' := hp2.push { cls := .type "dict", data := .dict #[] }) (t' := s1.toks) (fun _ _ q => Heap.get?_push_of_some _ q) (Nat.le_refl _) (dk_empty hp2 I3.big)
  refine thn (hk.run pins _ σ _ _ I4 (h2 _ hn3)) fun kv s2 ⟨y, H3, I5, ry, q5⟩ => wpAny_bind (thn (hx.run pins _ σ _ _ I5 q5) fun xv s3 ⟨z, H4, I6, rz, k, ey, he4, hd4, q6⟩ => wpAny_bind (wpAny_standAt (wpAny_pure ?_)))
  subst ey
  obtain ⟨z3, m3, vs3, r3, dd3⟩ := dk_of I6.hok he4
  cases r3
  refine ⟨k, kV_is ry, dd3, m3, fun hp4 d4 sb4 => ?_⟩
  have he4' : ∃ q, hp4.get? hp2.objs.size = some q := let ⟨q, _, _, hq, _⟩ := d4; ⟨q, hq⟩
  have I7 : Inv X pins σ (upd H4 hp2.objs.size (.dK [(k, z)])) { s3 with heap := hp4, toks := s3.toks } :=
    d_write (t' := s3.toks) I6 (by rw [he4]; exact True.intro) sb4 he4' (dk_new (by show 1 ≤ sizeLine; decide) m3 (KV.put (κ := Key) .nil k rz) d4)
  have ne : s.heap.objs.size ≠ hp2.objs.size := by
    obtain ⟨q, hq⟩ := he2
    exact Nat.ne_of_lt (Heap.lt_size hq)
  have hd5 : (upd H4 hp2.objs.size (.dK [(k, z)])) s.heap.objs.size = some (.dK kvs) := by rw [upd_ne ne]; exact hd4
  obtain ⟨z5, m5, vs5, r5, dd5⟩ := dk_of I7.hok hd5
  refine ⟨vs5, dd5, by rw [← r5.length]; omega, fun hp5 d5 d5' sb5 => ?_⟩
  have he5 : ∃ q, hp5.get? s.heap.objs.size = some q := let ⟨q, _, _, hq, _⟩ := d5; ⟨q, hq⟩
  have hl5 : (putK kvs k z).length ≤ sizeLine := by
    have := length_putK kvs k z
    omega
  have I8 := d_write (t' := s3.toks + 1) I7 (by rw [hd5]; exact True.intro) sb5 he5 (dk_new hl5 m1 (r5.put k rz) d5)
  exact ⟨.ref s.heap.objs.size, _, I8, rfl, q6⟩
end
end Fd

namespace Fd
open PySem PySem.Spec PySem.Calls PyProof.Rows L2 RZ
/-! ### zip of a list and a tuple -/
abbrev zH1 (h : Heap) (l1 : Addr) : Heap := h.push { cls := .type "list_iterator", data := .fields #[.ref l1, .int 0 0] }
abbrev zH2 (h : Heap) (l1 l2 : Addr) : Heap := (zH1 h l1).push { cls := .type "tuple_iterator", data := .fields #[.ref l2, .int 0 0] }
abbrev zH3 (h : Heap) (l1 l2 : Addr) : Heap := (zH2 h l1 l2).push { cls := .type "tuple", data := .seq #[.ref h.objs.size, .ref (zH1 h l1).objs.size] }
abbrev zH4 (h : Heap) (l1 l2 : Addr) : Heap := (zH3 h l1 l2).push { cls := .type "tuple", data := .seq #[.none, .none] }
abbrev zH5 (h : Heap) (l1 l2 : Addr) : Heap := (zH4 h l1 l2).push { cls := .type "zip", data := .fields #[.none, .bool false, .bool false, .ref (zH2 h l1 l2).objs.size, .ref (zH3 h l1 l2).objs.size] }
theorem meets_zipM (l1 l2 : Addr) (xs ys : Array Value) :
    Meets (Builtin.«zip.__new__» ⟨[.type "zip", .ref l1, .ref l2], []⟩) (fun _ R s => s.heap.IsList l1 xs ∧ s.heap.IsTuple l2 ys ∧
      R (.ok (.ret (.ref (zH4 s.heap l1 l2).objs.size))) { s with heap := zH5 s.heap l1 l2 }) :=
  .of_wp fun prog w A R s h => by
    obtain ⟨hp, g, d, tk, os⟩ := s; obtain ⟨hl1, hl2, h⟩ := h
    have hsub := sub_zip
    have hL1 : Heap.IsList (Shared.heap ⟨hp, g, d, tk, os⟩) l1 xs := hl1
    have hL2 : Heap.IsTuple (Shared.heap ⟨hp.push { cls := .type "list_iterator", data := .fields #[.ref l1, .int 0 0] }, g, d, tk, os⟩) l2 ys := Heap.IsTuple.push hl2 _
    wp_walk using wpAny_pyIter_list hL1, wpAny_pyIter_tuple hL2
    exact ⟨_, rfl, h⟩
section
variable {prog : Program} {w : World} {A : Around} {E : Value → Shared → Prop} {s : Shared}
theorem call_zipM {l1 l2 : Addr} {xs ys : Array Value} {Q : Value → Shared → Prop} (hl1 : s.heap.IsList l1 xs) (hl2 : s.heap.IsTuple l2 ys)
    (h : ∀ h', IsZip h' (s.heap.objs.size + 4) (s.heap.objs.size + 2) (s.heap.objs.size + 3) .none → IsPair h' (s.heap.objs.size + 2) (.ref s.heap.objs.size) (.ref (s.heap.objs.size + 1)) →
      IsPair h' (s.heap.objs.size + 3) .none .none → h'.IsListIter s.heap.objs.size l1 0 → h'.IsTupleIter (s.heap.objs.size + 1) l2 0 → h'.objs.size = s.heap.objs.size + 5 →
      (∀ c o, s.heap.get? c = some o → h'.get? c = some o) → Q (.ref (s.heap.objs.size + 4)) { s with heap := h' }) :
    wpAny (model prog w) A (call (.type "zip") [.ref l1, .ref l2]) Q E s := by
  refine callType_new F.called_zip (by decide) (F.typeCall_zip_2 _ _) (F.newCall_zip_2 _ _) (fun obj => F.args_object_init_3 obj _ _) F.entry_zip_new
    (meets_zipM l1 l2 xs ys) ⟨hl1, hl2, ?_⟩
  have z1 : (zH1 s.heap l1).objs.size = s.heap.objs.size + 1 := Heap.size_push ..
  have z2 : (zH2 s.heap l1 l2).objs.size = s.heap.objs.size + 2 := by rw [Heap.size_push, z1]
  have z3 : (zH3 s.heap l1 l2).objs.size = s.heap.objs.size + 3 := by rw [Heap.size_push, z2]
  have z4 : (zH4 s.heap l1 l2).objs.size = s.heap.objs.size + 4 := by rw [Heap.size_push, z3]
  have z5 : (zH5 s.heap l1 l2).objs.size = s.heap.objs.size + 5 := by rw [Heap.size_push, z4]
  have g5 : (zH5 s.heap l1 l2).get? (zH4 s.heap l1 l2).objs.size = some _ := Heap.get?_push_size _ rfl
  have g4 : (zH5 s.heap l1 l2).get? (zH3 s.heap l1 l2).objs.size = some _ := Heap.get?_push_of_some _ (Heap.get?_push_size _ rfl)
  have g3 : (zH5 s.heap l1 l2).get? (zH2 s.heap l1 l2).objs.size = some _ := Heap.get?_push_of_some _ (Heap.get?_push_of_some _ (Heap.get?_push_size _ rfl))
  have g2 : (zH5 s.heap l1 l2).get? (zH1 s.heap l1).objs.size = some _ := Heap.get?_push_of_some _ (Heap.get?_push_of_some _ (Heap.get?_push_of_some _ (Heap.get?_push_size _ rfl)))
  have g1 : (zH5 s.heap l1 l2).get? s.heap.objs.size = some _ := Heap.get?_push_of_some _ (Heap.get?_push_of_some _ (Heap.get?_push_of_some _ (Heap.get?_push_of_some _ (Heap.get?_push_size _ rfl))))
  show _ ∧ _
  rw [z2, z3, z4] at g5
  rw [z1, z2] at g3
  rw [z3] at g4
  rw [z1] at g2
  rw [z4]
  exact ⟨⟨_, g5, rfl⟩, h _ g5 g3 g4 ⟨_, g1, rfl, rfl⟩ ⟨_, g2, rfl, rfl⟩ z5 fun c o x =>
    Heap.get?_push_of_some _ (Heap.get?_push_of_some _ (Heap.get?_push_of_some _ (Heap.get?_push_of_some _ (Heap.get?_push_of_some _ x))))⟩
end
/-- the list at a and the tuple at b, the items in new pairs -/
def ItzM (K : PySem.W.Frag) (a b : Addr) : It :=
  ⟨fun i H => ∃ (xs ys : List V) (x y : V), SqL K H a xs ∧ SqT K H b ys ∧ xs[i]? = some x ∧ ys[i]? = some y,
    fun i H v H' => ∃ T x y, v = .ref T ∧ H T = none ∧ H' = upd H T (.tup [x, y]) ∧ (∀ xs, SqL K H a xs → xs[i]? = some x) ∧ ∀ ys, SqT K H b ys → ys[i]? = some y,
    fun i H => ∃ xs ys : List V, SqL K H a xs ∧ SqT K H b ys ∧ i ≤ xs.length ∧ i ≤ ys.length ∧ (xs.length = i ∨ ys.length = i)⟩
/-- the cells lie apart -/
def sep (z TI TO i1 i2 a b : Addr) : Prop := TI ≠ z ∧ TO ≠ z ∧ TI ≠ TO ∧ TI ≠ i1 ∧ TI ≠ i2 ∧ z ≠ i1 ∧ z ≠ i2 ∧ TO ≠ i1 ∧ TO ≠ i2 ∧ i1 ≠ i2 ∧
  a ≠ z ∧ a ≠ TO ∧ a ≠ i1 ∧ a ≠ i2 ∧ b ≠ z ∧ b ≠ TO ∧ b ≠ i1 ∧ b ≠ i2
theorem turn_zipM {P : Program} {w : World} {K : PySem.W.Frag} {elts : List Expr} {kk : Nat} {tpos : Pos} {a b z TI TO i1 i2 : Addr} (D : sep z TI TO i1 i2 a b) :
    Turn P w K (.Tuple elts kk tpos) (ItzM K a b) [z, TI, TO, i1, i2] z (fun i h => IsZip h z TI TO .none ∧ IsPair h TI (.ref i1) (.ref i2) ∧ (∃ x y, IsPair h TO x y) ∧ h.IsListIter i1 a i ∧ h.IsTupleIter i2 b i) where
  mem := by simp
  obj := fun i h st c hc => by
    obtain ⟨hz, hTI, ⟨x, y, hTO⟩, ⟨o1, e1, _, d1⟩, ⟨o2, e2, _, d2⟩⟩ := st
    have e' : c = z ∨ c = TI ∨ c = TO ∨ c = i1 ∨ c = i2 := by simpa using hc
    rcases e' with q | q | q | q | q
    · rw [q]; exact ⟨_, hz, fun v q => nomatch q⟩
    · rw [q]; exact ⟨_, hTI, fun v q => nomatch q⟩
    · rw [q]; exact ⟨_, hTO, fun v q => nomatch q⟩
    · rw [q]; exact ⟨o1, e1, fun v q => by rw [d1] at q; cases q⟩
    · rw [q]; exact ⟨o2, e2, fun v q => by rw [d2] at q; cases q⟩
  keep := fun i h h' st k => by
    obtain ⟨hz, hTI, ⟨x, y, hTO⟩, h1, h2⟩ := st
    exact ⟨k z (by simp) _ hz, k TI (by simp) _ hTI, ⟨x, y, k TO (by simp) _ hTO⟩, h1.at fun o q => k i1 (by simp) o q, h2.at fun o q => k i2 (by simp) o q⟩
  item := by
    intro X hP hw hK hc i pins s σ H E I hf st hg
    subst hP hw hK
    obtain ⟨hz, hTI, ⟨x0, y0, hTO⟩, h1, h2⟩ := st
    obtain ⟨xs, ys, x, y, hqx, hqy, hx, hy⟩ := hg
    obtain ⟨its, rv, p, _⟩ := I.list hqx
    obtain ⟨its2, rv2, p2, _⟩ := I.tuple hqy
    obtain ⟨u, hu, ru⟩ := rv.get hx
    obtain ⟨u2, hu2, ru2⟩ := rv2.get hy
    have hzl : z < s.heap.objs.size := Heap.lt_size hz
    obtain ⟨c1, c2, c3, c4, c5, c6, c7, c8, c9, c10, c11, c12, c13, c14, c15, c16, c17, c18⟩ := D
    have S : ZipSep2 z TI TO i1 i2 [i1, a] [i2, b] := ⟨c1, c2, c3, c4, by simp, by simp [c6, Ne.symm c11], by simp [c8, Ne.symm c12], c5, by simp, by simp [c7, Ne.symm c15], by simp [c9, Ne.symm c16], by simp [c10, Ne.symm c17], by simp [Ne.symm c10, Ne.symm c14]⟩
    have D1 := Draws.list (prog := X.prog) (w := X.w) (A := X.A.in1) (I.ok.hd hc) i1 a c13 its.toArray
    have D2 := Draws.tuple (prog := X.prog) (w := X.w) (A := X.A.in1) (I.ok.hd hc) i2 b c18 its2.toArray
    have hxl := (List.getElem?_eq_some_iff.mp hu).1
    have hyl := (List.getElem?_eq_some_iff.mp hu2).1
    refine wpAny_pyNext_zipD2_item (i := i) S D1 D2 hz hTI hTO ⟨h1, p.isList⟩ ⟨h2, p2⟩ (by simpa using hxl) (by simpa using hyl) fun x1 x2 h' tk y1 y2 z' TO' st1' st2' hT hsz hk => ?_
    obtain rfl : x1 = u := by
      have q : its.toArray[i]? = some u := by simpa using hu
      exact Option.some.inj (y1.symm.trans q)
    obtain rfl : x2 = u2 := by
      have q : its2.toArray[i]? = some u2 := by simpa using hu2
      exact Option.some.inj (y2.symm.trans q)
    refine ⟨_, rfl, wpAny_letOwnedTupleGo_zip (s := { s with heap := h', toks := tk }) z' fun h'' z'' sb => ?_⟩
    have hT2 : h''.get? s.heap.objs.size = some { cls := .type "tuple", data := .seq #[x1, x2] } := (sb.2 _ (Nat.ne_of_gt hzl)).trans hT
    have new : ObjOk X.prog X.w (upd H s.heap.objs.size (.tup [x, y])) h'' s.heap.objs.size (.tup [x, y]) :=
      ⟨by show 2 ≤ sizeLine; decide, [x1, x2], .cons ru (.cons ru2 .nil), ⟨_, hT2, rfl, _, rfl⟩⟩
    have I1 : Inv X pins σ (upd H s.heap.objs.size (.tup [x, y])) { s with heap := h'', toks := tk } :=
      I.turnedNew (t' := tk) (ch := [z, TI, TO, i1, i2]) (fun c o hb q => (sb.2 c (fun q' => hb (by simp [q']))).trans (hk c o (fun q' => hb (by simp [q'])) (fun q' => hb (by simp [q'])) (fun q' => hb (by simp [q'])) (fun q' => hb (by simp [q'])) q)) hf (Nat.le_refl _) new
    refine ⟨.ref s.heap.objs.size, _, I1, rfl, ⟨_, x, y, rfl, I.hok.fresh (Nat.le_refl _), rfl, fun l hl => by rw [I.list_inj hl hqx]; exact hx, fun l hl => by rw [I.tuple_inj hl hqy]; exact hy⟩, ⟨z'', ?_, ⟨x1, x2, ?_⟩, ?_, ?_⟩, fun c hcm => ?_⟩
    · exact (sb.2 _ c1).trans (hk _ _ c1 c3 c4 c5 hTI)
    · exact (sb.2 _ c2).trans TO'
    · exact st1'.1.at fun o q => (sb.2 _ (Ne.symm c6)).trans q
    · exact st2'.1.at fun o q => (sb.2 _ (Ne.symm c7)).trans q
    · have hlt : c < s.heap.objs.size := by
        have e' : c = z ∨ c = TI ∨ c = TO ∨ c = i1 ∨ c = i2 := by simpa using hcm
        rcases e' with q | q | q | q | q
        · rw [q]; exact hzl
        · rw [q]; exact Heap.lt_size hTI
        · rw [q]; exact Heap.lt_size hTO
        · rw [q]; obtain ⟨_, e1, _⟩ := h1; exact Heap.lt_size e1
        · rw [q]; obtain ⟨_, e2, _⟩ := h2; exact Heap.lt_size e2
      rw [upd_ne (Nat.ne_of_lt hlt)]
      exact (hf c hcm).1
  done := by
    intro X hP hw hK hc i pins s σ H E I hf st hg
    subst hP hw hK
    obtain ⟨hz, hTI, ⟨x0, y0, hTO⟩, h1, h2⟩ := st
    obtain ⟨xs, ys, hqx, hqy, hi1, hi2, hend⟩ := hg
    obtain ⟨its, rv, p, _⟩ := I.list hqx
    obtain ⟨its2, rv2, p2, _⟩ := I.tuple hqy
    have l1 := rv.length
    have l2 := rv2.length
    obtain ⟨c1, c2, c3, c4, c5, c6, c7, c8, c9, c10, c11, c12, c13, c14, c15, c16, c17, c18⟩ := D
    have S : ZipSep2 z TI TO i1 i2 [i1, a] [i2, b] := ⟨c1, c2, c3, c4, by simp, by simp [c6, Ne.symm c11], by simp [c8, Ne.symm c12], c5, by simp, by simp [c7, Ne.symm c15], by simp [c9, Ne.symm c16], by simp [c10, Ne.symm c17], by simp [Ne.symm c10, Ne.symm c14]⟩
    have D1 := Draws.list (prog := X.prog) (w := X.w) (A := X.A.in1) (I.ok.hd hc) i1 a c13 its.toArray
    have D2 := Draws.tuple (prog := X.prog) (w := X.w) (A := X.A.in1) (I.ok.hd hc) i2 b c18 its2.toArray
    refine wpAny_pyNext_zipD2_end (i := i) S D1 D2 hz hTI hTO ⟨h1, p.isList⟩ ⟨h2, p2⟩ (by simp; omega) (by simp; omega) (by simp; omega) fun h' tk hk => ⟨rfl, I.turnedL (t' := tk) (ch := [z, TI, TO, i1, i2]) (fun c o hb q =>
      hk c o (fun q' => hb (by simp [q'])) (fun q' => hb (by simp [q'])) (fun q' => hb (by simp [q'])) (fun q' => hb (by simp [q'])) q) hf⟩
  self := fun A i s Q E st h => wpAny_pyIter_zip st.1 h
def iZipM (K : PySem.W.Frag) (ta : TA) : TI := fun σ H R => ta σ H fun vs H1 => ∃ a b xs ys, vs = [.ref a, .ref b] ∧ SqL K H1 a xs ∧ SqT K H1 b ys ∧ R (ItzM K a b) H1
theorem pi_zipM {X : Cx} {e e2 : Expr} {ta : TA} {p pos tpos : Pos} {elts : List Expr} {kk : Nat} (hg : Gl X "zip") (hm : X.mg "zip" = none) (ha : PA X [e, e2] ta)
    (hs : starEach [e, e2] X.env = (false, eval e X.env) :: starEach [e2] X.env := by rfl) (hpl : (backTo pos (starEach [e2] X.env)).any (·.1) = false := by rfl) :
    PI X (.Tuple elts kk tpos) (.Call (.Name "zip" p) [e, e2] [] pos) (iZipM X.K ta) := by
  refine ⟨fun pins s σ H R I h => ?_⟩
  refine Call_ (ld_blt I hg hm PyProof.Rows.boot_zip (PyProof.Rows.callWith_type1 (thn (ha.run pos pins s σ H _ I h) fun us s1 ⟨vs, H1, I1, r1, q1⟩ => ?_) hs hpl))
  obtain ⟨a, b, xs, ys, ex, hqx, hqy, q⟩ := q1
  subst ex
  cases r1 with
  | cons r rr =>
    cases rr with
    | cons r' rr =>
      cases rr
      cases r
      cases r'
      have fresh5 : ∀ c, c ∈ [s1.heap.objs.size + 4, s1.heap.objs.size + 2, s1.heap.objs.size + 3, s1.heap.objs.size, s1.heap.objs.size + 1] → FpOk X pins H1 c := fun c hcm => by
        have hle : s1.heap.objs.size ≤ c := by
          have e' : c = s1.heap.objs.size + 4 ∨ c = s1.heap.objs.size + 2 ∨ c = s1.heap.objs.size + 3 ∨ c = s1.heap.objs.size ∨ c = s1.heap.objs.size + 1 := by simpa using hcm
          rcases e' with z | z | z | z | z <;> rw [z] <;> omega
        exact I1.fpOk hle (I1.hok.fresh hle)
      obtain ⟨its, rv, p1, _⟩ := I1.list hqx
      obtain ⟨its2, rv2, p2, _⟩ := I1.tuple hqy
      obtain ⟨o2, ho2, _⟩ := id p2
      have la : ∀ k : Nat, a ≠ s1.heap.objs.size + k := fun k => Nat.ne_of_lt (Nat.lt_add_right k p1.lt)
      have lb : ∀ k : Nat, b ≠ s1.heap.objs.size + k := fun k => Nat.ne_of_lt (Nat.lt_add_right k (Heap.lt_size ho2))
      refine call_zipM p1.isList (show s1.heap.IsTuple b its2.toArray from p2) fun h' hz hTI hTO h1 h2 hsz hk => wpAny_pyIter_zip hz ?_
      have I2 : Inv X pins σ H1 { s1 with heap := h' } := I1.kept (t' := s1.toks) hk
      refine ⟨s1.heap.objs.size + 4, [s1.heap.objs.size + 4, s1.heap.objs.size + 2, s1.heap.objs.size + 3, s1.heap.objs.size, s1.heap.objs.size + 1], _, _, H1, rfl, I2, turn_zipM ?_, ⟨hz, hTI, ⟨_, _, hTO⟩, h1, h2⟩, fresh5, q⟩
      unfold sep
      refine ⟨?_, ?_, ?_, ?_, ?_, ?_, ?_, ?_, ?_, ?_, ?_, ?_, ?_, ?_, ?_, ?_, ?_, ?_⟩ <;> intro z <;> first | exact la 4 z | exact la 3 z | exact la 1 z | exact la 0 z | exact lb 4 z | exact lb 3 z | exact lb 1 z | exact lb 0 z | (have z : (_ : Nat) = _ := z; omega)
theorem walk_zipM {K : PySem.W.Frag} {a b : Addr} {xs ys : List V} {n : Nat} (hn : n = min xs.length ys.length) : Walk (ItzM K a b) n (fun H => SqL K H a xs ∧ SqT K H b ys) (YPair (fun i => xs[i]?) (fun i => ys[i]?)) := by
  subst hn
  refine ⟨fun i _ hi q => ?_, fun _ q => ⟨xs, ys, q.1, q.2, by omega, by omega, by omega⟩, fun i H v H' _ q y => ?_⟩
  · have h1 : i < xs.length := by omega
    have h2 : i < ys.length := by omega
    exact ⟨xs, ys, xs[i], ys[i], q.1, q.2, by simp [h1], by simp [h2]⟩
  · obtain ⟨T, x, z, h1, h2, h3, h4, h5⟩ := y
    exact ⟨T, x, z, h1, h2, h3, h4 xs q.1, h5 ys q.2⟩
end Fd

namespace Fd
open PySem PySem.Spec PyProof.Rows L2
/-! ### objects of the text's own classes -/
structure HasM (P : Program) (w : World) (K : PySem.W.Frag) (mg : Str → Option Value) (base : Heap) (C : Addr) (m : Str) (k : Nat) (ps : List Str) (sp : Sp) : Prop where
  ex : ∃ f fd, FnOk P w K mg base CX0 k f fd ps sp ∧ Meth K C m f ∧ Binds K fd ps []
/-- a class by its global name: made, its attributes read and stored -/
structure HasC (K : PySem.W.Frag) (mg : Str → Option Value) (x : Str) (C : Addr) : Prop where
  cl : Cls K C
  at_ : mg x = some (.ref C)
def tFd (C : Addr) (ta : TE) (f : Str) : TE := fun σ H Q => ta σ H fun x H1 => ∃ a dx fs v, x = .ref a ∧ H1 a = some (.ins C dx fs) ∧ fs.lookup f = some v ∧ Q v H1
def sFd (C : Addr) (ta tv : TE) (f : Str) : TS := fun D σ H => tv σ H fun y H1 => ta σ H1 fun x H2 => ∃ a dx fs, x = .ref a ∧ H2 a = some (.ins C dx fs) ∧ fs.length < 1000 ∧ D.nx σ (upd H2 a (.ins C dx (putF f y fs)))
section
variable {X : Cx} {K : PySem.W.Frag} {C : Addr} {k j : Nat} {ps : List Str} {sp : Sp} {x f m : Str} {p pos apos pos' : Pos} {o e value : Expr} {es : List Expr} {ta te tv : TE} {t tk : TA}
theorem fldC (hK : X.K = K) (c : Cls K C) (n : NoAttr K C f) (he : PE X e ta) (hb : attributeBase e f X.env (eval e X.env) = eval e X.env := by rfl) : PE X (.Attribute e f pos) (tFd C ta f) := by
  subst hK
  refine ⟨fun pins s σ H Q I h => ?_⟩
  refine attr_of hb (thn (he.run pins s σ H _ I h) fun u s1 ⟨x, H1, I1, rx, a, dx, fs, v, ex, ea, l, q⟩ => ?_)
  subst ex
  obtain rfl : u = Value.ref a := rx
  exact getattr_ok I1 ea c n l fun u' s2 I2 ru => ⟨v, H1, I2, ru, q⟩
theorem stoC (hK : X.K = K) (c : Cls K C) (n : NoAttr K C f) (ha : PE X o ta) (hv : PE X value tv) (hs : swapsWith value (some (.Attribute o f pos')) pos.line X.env = pure false := by rfl) : PS X (.Assign [.Attribute o f pos'] value pos) (sFd C ta tv f) := by
  subst hK
  refine ⟨fun pins s σ H D I h => ?_⟩
  refine plainObj_wpAny_Assign_Attribute (thn (hv.run pins s σ H _ I h) fun u s1 ⟨y, H1, I1, ry, q⟩ => thn (ha.run pins s1 σ H1 _ I1 q) fun ov s2 ⟨x, H2, I2, rx, a, dx, fs, ex, ea, l, q2⟩ => ?_) hs
  subst ex
  obtain rfl : ov = Value.ref a := rx
  exact setattr_ok I2 ea c n l ry fun s3 I3 => ⟨σ, _, I3, q2⟩
theorem methC (M : HasM X.prog X.w X.K X.mg X.base C m k ps sp) (c : Cls X.K C) (hr : Room j X.A) (he : PE X o ta) (ha : PA X (e :: es) t) (hk : k ≤ j := by decide) {pl : Sem Bool}
    (hst : starEach (e :: es) X.env = (false, eval e X.env) :: starEach es X.env := by rfl) (hpl : (backTo pos (starEach es X.env)).any (·.1) = false := by rfl)
    (ht : eval (.Call (.Attribute o m apos) (e :: es) [] pos) X.env = (do
      let ov ← eval o X.env
      standAt apos.atName
      let (f, first) ← holding [ov] (getMethod ov m pl)
      callWith pos f first (backTo pos (starEach (e :: es) X.env)) (backToKw pos (keywordEach [] X.env))) := by rfl) :
    PE X (.Call (.Attribute o m apos) (e :: es) [] pos) (tMeth C m sp [] E0 ta t) := by
  obtain ⟨f, fd, F, hm, hb⟩ := M.ex
  exact pe_meth he c hm (F.mono hk) hr hb .nil pass0 ha hst hpl ht
theorem methC0 (M : HasM X.prog X.w X.K X.mg X.base C m k ps sp) (c : Cls X.K C) (hr : Room j X.A) (he : PE X o ta) (hk : k ≤ j := by decide) {pl : Sem Bool}
    (ht : eval (.Call (.Attribute o m apos) [] [] pos) X.env = (do
      let ov ← eval o X.env
      standAt apos.atName
      let (f, first) ← holding [ov] (getMethod ov m pl)
      callWith pos f first (backTo pos (starEach [] X.env)) (backToKw pos (keywordEach [] X.env))) := by rfl) :
    PE X (.Call (.Attribute o m apos) [] [] pos) (tMeth C m sp [] E0 ta tNil) := by
  obtain ⟨f, fd, F, hm, hb⟩ := M.ex
  exact pe_meth0 he c hm (F.mono hk) hr hb .nil pass0 ht
/-- a class made by C(e, ..) -/
structure HasI (P : Program) (w : World) (K : PySem.W.Frag) (mg : Str → Option Value) (base : Heap) (x : Str) (C : Addr) (k : Nat) (ps : List Str) (sp : Sp) : Prop where
  ex : ∃ f fd, FnOk P w K mg base CX0 k f fd ps sp ∧ Mk K C f ∧ Binds K fd ps [] ∧ mg x = some (.ref C)
theorem makeC (M : HasI X.prog X.w X.K X.mg X.base x C k ps sp) (hr : Room j X.A) (hg : Gl X x) (ha : PA X (e :: es) t) (hk : k + 1 ≤ j := by decide) (hdb : (x == ("__debug__" : Str)) = false := by decide)
    (he : starEach (e :: es) X.env = (false, eval e X.env) :: starEach es X.env := by rfl) (hpl : (backTo pos (starEach es X.env)).any (·.1) = false := by rfl) :
    PE X (.Call (.Name x p) (e :: es) [] pos) (tMake C sp [] E0 t) := by
  obtain ⟨f, fd, F, mk, hb, hm⟩ := M.ex
  exact pe_make mk F (hr.mono hk) hg hm hb .nil pass0 ha hdb he hpl
structure HasW (P : Program) (w : World) (K : PySem.W.Frag) (mg : Str → Option Value) (base : Heap) (x : Str) (C : Addr) (n : Nat) (ks : List Str) (k : Nat) (ps : List Str) (sp : Sp) : Prop where
  ex : ∃ f fd, FnOk P w K mg base CX0 k f fd ps sp ∧ Mk K C f ∧ KBn K fd ps (n + 1) ks (fun us ws => us ++ ws) (fun vs zs => vs ++ zs) ∧ mg x = some (.ref C)
theorem makeW {n : Nat} {ks : List Str} {kws : List Keyword} (M : HasW X.prog X.w X.K X.mg X.base x C n ks k ps sp) (hr : Room j X.A) (hg : Gl X x) (ha : PA X (e :: es) t) (hkw : PK X kws tk) (hk : k + 1 ≤ j := by decide)
    (hall : (backToKw pos (keywordEach kws X.env)).all (·.1.isSome) = true := by rfl) (hks : (backToKw pos (keywordEach kws X.env)).filterMap (·.1) = ks := by rfl) (hdb : (x == ("__debug__" : Str)) = false := by decide)
    (he : starEach (e :: es) X.env = (false, eval e X.env) :: starEach es X.env := by rfl) (hpl : ((backTo pos (starEach (e :: es) X.env)).any (·.1) || (backToKw pos (keywordEach kws X.env)).any (·.1.isNone)) = false := by rfl) :
    PE X (.Call (.Name x p) (e :: es) kws pos) (tMakeK C n ks.length sp (fun vs zs => vs ++ zs) E0 t tk) := by
  obtain ⟨f, fd, F, mk, hb, hm⟩ := M.ex
  exact pe_makeK mk F (hr.mono hk) hg hm hb pass0 ha hkw hall hks hdb he hpl
end
/-! ### one's own fields -/
def placeF (p : V) (w : Int) (g : Addr) (n : Int) : List (Str × V) := [("_palette", p), ("_wear", .int w), ("_ground", .ref g), ("_next_mark", .int n)]
theorem pf_g (p : V) (w : Int) (g g' : Addr) (n : Int) : putF "_ground" (.ref g') (placeF p w g n) = placeF p w g' n := by rfl
theorem pf_w (p : V) (w w' : Int) (g : Addr) (n : Int) : putF "_wear" (.int w') (placeF p w g n) = placeF p w' g n := by rfl
theorem pf_n (p : V) (w : Int) (g : Addr) (n n' : Int) : putF "_next_mark" (.int n') (placeF p w g n) = placeF p w g n' := by rfl
theorem pf_lp (p : V) (w : Int) (g : Addr) (n : Int) : (placeF p w g n).lookup ("_palette" : Str) = some p := by rfl
theorem pf_lw (p : V) (w : Int) (g : Addr) (n : Int) : (placeF p w g n).lookup ("_wear" : Str) = some (.int w) := by rfl
theorem pf_lg (p : V) (w : Int) (g : Addr) (n : Int) : (placeF p w g n).lookup ("_ground" : Str) = some (.ref g) := by rfl
theorem pf_ln (p : V) (w : Int) (g : Addr) (n : Int) : (placeF p w g n).lookup ("_next_mark" : Str) = some (.int n) := by rfl
theorem pf_m (p : V) (w : Int) (g : Addr) (n : Int) : (placeF p w g n).lookup ("lay" : Str) = none := by rfl
end Fd

namespace Fd
open PySem PySem.Spec PyProof.Rows L2
/-! ### rows whose tags may be anything flat -/
abbrev GLay := PyData × Int
def gD (g : GLay) : PyData := .tuple [g.1, .int g.2]
def gL (gs : List GLay) : List Lay := gs.map fun g => (("" : Str), g.2)
theorem gL_len (gs : List GLay) : (gL gs).length = gs.length := by simp [gL]
theorem dp_pair {K : PySem.W.Frag} {H : Hp} {v : V} {d : PyData} {i : Int} (h : Dp K H v (.tuple [d, .int i])) : ∃ a x, v = .ref a ∧ SqT K H a [x, .int i] ∧ Dp K H x d := by
  obtain ⟨a, xs, rfl, s, al⟩ := Dp.tupInv h
  cases al with
  | cons h1 r =>
    cases r with
    | cons h2 r =>
      cases r
      cases h2
      exact ⟨a, _, rfl, s, h1⟩
theorem gs_get {K : PySem.W.Frag} {H : Hp} {xs : List V} {gs : List GLay} {i : Nat} {v : V} (h : DpAll K H xs (gs.map gD)) (e : xs[i]? = some v) :
    ∃ g b x, gs[i]? = some g ∧ v = .ref b ∧ SqT K H b [x, .int g.2] ∧ Dp K H x g.1 ∧ Dp K H v (gD g) := by
  obtain ⟨d, q, k⟩ := DpAll.get h e
  rw [List.getElem?_map] at q
  cases eg : gs[i]? with
  | none => rw [eg] at q; cases q
  | some g =>
    rw [eg] at q
    obtain rfl : gD g = d := Option.some.inj q
    obtain ⟨a, x, e2, s, hx⟩ := dp_pair k
    exact ⟨g, a, x, rfl, e2, s, hx, k⟩
theorem gs_len {K : PySem.W.Frag} {H : Hp} {xs : List V} {gs : List GLay} (al : DpAll K H xs (gs.map gD)) : xs.length = gs.length := by
  rw [DpAll.len al, List.length_map]
theorem gs_at {K : PySem.W.Frag} {H : Hp} {xs : List V} {gs : List GLay} {i : Nat} (h : DpAll K H xs (gs.map gD)) (hi : i < gs.length) : ∃ g b x, gs[i]? = some g ∧ xs[i]? = some (.ref b) ∧ SqT K H b [x, .int g.2] ∧ Dp K H x g.1 := by
  have len := gs_len h
  have e : xs[i]? = some xs[i] := List.getElem?_eq_getElem (by omega)
  obtain ⟨g, b, x, q, e2, s, hx, _⟩ := gs_get h e
  exact ⟨g, b, x, q, by rw [e, e2], s, hx⟩
theorem str_gL (gs : List GLay) {i : Nat} {g : GLay} (h : gs[i]? = some g) : str (gL gs) i = g.2 := by
  unfold str gL
  rw [List.getElem?_map, h]
  rfl
/-! ### what changes, what stays -/
def Mu : HO → Prop
  | .ins _ _ _ => True
  | .dK _ => True
  | _ => False
structure Chg (S : List Addr) (H H' : Hp) : Prop where
  mu : ∀ q ∈ S, ∃ o, H q = some o ∧ Mu o
  same : ∀ a o, a ∉ S → H a = some o → H' a = some o
section
variable {K : PySem.W.Frag} {H H1 : Hp} {S : List Addr} {a : Addr} {xs : List V}
theorem Chg.of_mu (c : Chg S H H1) {o : HO} (h : H a = some o) (n : ¬ Mu o) : H1 a = some o := c.same a o (fun m => by
  obtain ⟨u, e, mu⟩ := c.mu a m
  rw [h] at e
  cases e
  exact n mu) h
theorem Chg.seqT (c : Chg S H H1) (h : SqT K H a xs) : SqT K H1 a xs := by
  rcases h with (h | ⟨ob, h⟩) | h
  · exact .inl (.inl (c.of_mu h (fun z => z)))
  · exact .inl (.inr ⟨ob, c.of_mu h (fun z => z)⟩)
  · exact .inr h
theorem Chg.seqL (c : Chg S H H1) (h : SqL K H a xs) : SqL K H1 a xs := by
  rcases h with (h | ⟨ob, h⟩) | h
  · exact .inl (.inl (c.of_mu h (fun z => z)))
  · exact .inl (.inr ⟨ob, c.of_mu h (fun z => z)⟩)
  · exact .inr h
theorem Chg.lst (c : Chg S H H1) (h : H a = some (.lst xs)) : H1 a = some (.lst xs) := c.of_mu h (fun z => z)
theorem Chg.dps (c : Chg S H H1) {ds : List PyData} (fl : flatTs ds = true) (h : DpAll K H xs ds) : DpAll K H1 xs ds := DpAll.move (fun _ _ t => c.seqT t) fl h
theorem Chg.dp (c : Chg S H H1) {v : V} {d : PyData} (fl : flatT d = true) (h : Dp K H v d) : Dp K H1 v d := Dp.move (fun _ _ t => c.seqT t) fl h
theorem smDps (c : Same H H1) {ds : List PyData} (fl : flatTs ds = true) (h : DpAll K H xs ds) : DpAll K H1 xs ds := DpAll.move (fun _ _ t => St.tup potN (St.ofSame potN c) t) fl h
theorem smDp (c : Same H H1) {v : V} {d : PyData} (fl : flatT d = true) (h : Dp K H v d) : Dp K H1 v d := Dp.move (fun _ _ t => St.tup potN (St.ofSame potN c) t) fl h
theorem smT {H2 : Hp} (c : Same H H1) (d : Same H1 H2) : Same H H2 := fun a o e => d a o (c a o e)
theorem smFr (c : Same H H1) (e : H1 a = none) : H a = none := by
  cases h : H a with
  | none => rfl
  | some o =>
    have := c a o h
    rw [e] at this
    cases this
end
/-! ### dicts whose keys are texts -/
theorem valV_txt {α : Type} (f : α → Str) (g : α → V) {z : Str} : ∀ {l : List α}, z ∉ l.map f → valV (l.map fun i => ((Sum.inr (f i) : L2.Key), g i)) (Sum.inr z) = none
  | [], _ => rfl
  | i :: l, h => by
    have h1 : ¬ f i = z := fun e => h (by simp [e])
    rw [List.map_cons, valV_neg (by intro e; exact h1 (Sum.inr.inj e))]
    exact valV_txt f g fun m => h (List.mem_cons_of_mem _ m)
theorem valV_txtS {α : Type} (f : α → Str) (g : α → V) {i : α} : ∀ {l : List α}, i ∈ l → (l.map f).Nodup → valV (l.map fun i => ((Sum.inr (f i) : L2.Key), g i)) (Sum.inr (f i)) = some (g i)
  | j :: l, h, nd => by
    rw [List.map_cons, List.nodup_cons] at nd
    rw [List.map_cons]
    by_cases e : f j = f i
    · rcases List.mem_cons.mp h with q | q
      · subst q
        exact valV_pos rfl
      · exact absurd (List.mem_map.mpr ⟨i, q, e.symm⟩) nd.1
    · rw [valV_neg (by intro q; exact e (Sum.inr.inj q))]
      refine valV_txtS f g ?_ nd.2
      rcases List.mem_cons.mp h with q | q
      · subst q
        exact absurd rfl e
      · exact q
theorem not_take {α : Type} (f : α → Str) {l : List α} (nd : (l.map f).Nodup) {i : Nat} {x : α} (h : l[i]? = some x) : f x ∉ (l.take i).map f := by
  intro m
  obtain ⟨y, my, e⟩ := List.mem_map.mp m
  obtain ⟨j, ej⟩ := List.mem_iff_getElem?.mp my
  rw [List.getElem?_take] at ej
  by_cases hj : j < i
  · rw [if_pos hj] at ej
    obtain ⟨hi, ei⟩ := List.getElem?_eq_some_iff.mp h
    obtain ⟨hj', ej'⟩ := List.getElem?_eq_some_iff.mp ej
    have n := (List.pairwise_iff_getElem.mp nd) j i (by rw [List.length_map]; exact hj') (by rw [List.length_map]; exact hi) hj
    rw [List.getElem_map, List.getElem_map, ej', ei] at n
    exact n e
  · rw [if_neg hj] at ej
    cases ej
/-! ### a palette -/
def palF (m f : Addr) : List (Str × V) := [("_made", .ref m), ("_fades", .ref f)]
def fadesK (inks : List Lay) : List (L2.Key × V) := inks.map fun i => (Sum.inr i.1, V.int i.2)
structure PalAt (K : PySem.W.Frag) (C : Addr) (H : Hp) (p m f : Addr) (inks : List Lay) : Prop where
  ob : ∃ dx, H p = some (.ins C dx (palF m f))
  made : ∃ vs, H m = some (.lst vs) ∧ DpAll K H vs (inks.map layD)
  fades : H f = some (.dK (fadesK inks))
def NmOk (z : Str) : Prop := TagOk z ∧ 1 ≤ z.length
structure InksOk (inks : List Lay) : Prop where
  ok : ∀ i ∈ inks, NmOk i.1 ∧ 0 ≤ i.2 ∧ i.2.natAbs < 2 ^ 250
  nd : (inks.map (·.1)).Nodup
  pos : 1 ≤ inks.length
  most : inks.length ≤ 8
theorem PalAt.same {K : PySem.W.Frag} {C : Addr} {H H' : Hp} {p m f : Addr} {inks : List Lay} (h : PalAt K C H p m f inks) (s : Same H H') : PalAt K C H' p m f inks := by
  obtain ⟨⟨dx, a⟩, ⟨vs, b, c⟩, d⟩ := h
  exact ⟨⟨dx, s _ _ a⟩, ⟨vs, s _ _ b, smDps s (flat_lays _) c⟩, s _ _ d⟩
theorem PalAt.chg {K : PySem.W.Frag} {C : Addr} {H H' : Hp} {p m f : Addr} {inks : List Lay} {S : List Addr} (h : PalAt K C H p m f inks) (s : Chg S H H') (np : p ∉ S) (nf : f ∉ S) : PalAt K C H' p m f inks := by
  obtain ⟨⟨dx, a⟩, ⟨vs, b, c⟩, d⟩ := h
  exact ⟨⟨dx, s.same _ _ np a⟩, ⟨vs, s.lst b, s.dps (flat_lays _) c⟩, s.same _ _ nf d⟩
/-! ### a place -/
abbrev Lyr := Nat × Str × Int
def mD (l : Lyr) : PyData := .tuple [.tuple [.str l.2.1, .int l.1], .int l.2.2]
def lD (l : Lyr) : PyData := .tuple [.int l.1, .str l.2.1, .int l.2.2]
def mG (l : Lyr) : GLay := (.tuple [.str l.2.1, .int l.1], l.2.2)
theorem mD_g (l : Lyr) : mD l = gD (mG l) := rfl
def mrow (ls : List Lyr) : PyData := .tuple (ls.map mD)
theorem flat_mD (l : Lyr) : flatT (mD l) = true := by simp [mD, flatT, flatTs]
theorem flat_lD (l : Lyr) : flatT (lD l) = true := by simp [lD, flatT, flatTs]
theorem flat_mDs (ls : List Lyr) : flatTs (ls.map mD) = true := flatTs_of fun d m => by
  obtain ⟨l, _, rfl⟩ := List.mem_map.mp m
  exact flat_mD l
theorem flat_lDs (ls : List Lyr) : flatTs (ls.map lD) = true := flatTs_of fun d m => by
  obtain ⟨l, _, rfl⟩ := List.mem_map.mp m
  exact flat_lD l
theorem flat_mrow (ls : List Lyr) : flatT (mrow ls) = true := by
  unfold mrow flatT
  exact flat_mDs ls
/-- rows of layers by inks, in order; in the heap a dict of an ink's row each -/
abbrev GGrd := List (Str × List GLay)
def FlatG (gr : GGrd) : Prop := ∀ r ∈ gr, ∀ g ∈ r.2, flatT g.1 = true
def rowG (gs : List GLay) : PyData := .tuple (gs.map gD)
theorem flat_gD {g : GLay} (h : flatT g.1 = true) : flatT (gD g) = true := by simp [gD, flatT, flatTs, h]
theorem flat_gDs {gs : List GLay} (h : ∀ g ∈ gs, flatT g.1 = true) : flatTs (gs.map gD) = true := flatTs_of fun d m => by
  obtain ⟨g, mg, rfl⟩ := List.mem_map.mp m
  exact flat_gD (h g mg)
theorem flat_rowG {gs : List GLay} (h : ∀ g ∈ gs, flatT g.1 = true) : flatT (rowG gs) = true := by
  unfold rowG flatT
  exact flat_gDs h
def GRel (K : PySem.W.Frag) (H : Hp) (kv : L2.Key × V) (r : Str × List GLay) : Prop := kv.1 = Sum.inr r.1 ∧ Dp K H kv.2 (rowG r.2)
def GrdG (K : PySem.W.Frag) (H : Hp) (g : Addr) (gr : GGrd) : Prop := ∃ kvs : List (L2.Key × V), H g = some (.dK kvs) ∧ Paired (GRel K H) kvs gr
theorem pairedMem {α β : Type} {R R' : α → β → Prop} : ∀ {xs : List α} {ys : List β}, Paired R xs ys → (∀ x y, y ∈ ys → R x y → R' x y) → Paired R' xs ys
  | _, _, .nil, _ => .nil
  | _, _, .cons h t, f => .cons (f _ _ (List.mem_cons_self ..) h) (pairedMem t fun x y m => f x y (List.mem_cons_of_mem _ m))
theorem grels {K : PySem.W.Frag} {H H' : Hp} {kvs : List (L2.Key × V)} {gr : GGrd} (fl : FlatG gr) (f : ∀ a xs, SqT K H a xs → SqT K H' a xs) (h : Paired (GRel K H) kvs gr) : Paired (GRel K H') kvs gr :=
  pairedMem h fun x y m r => ⟨r.1, Dp.move f (flat_rowG (fl y m)) r.2⟩
theorem GrdG.same {K : PySem.W.Frag} {H H' : Hp} {g : Addr} {gr : GGrd} (fl : FlatG gr) (h : GrdG K H g gr) (s : Same H H') : GrdG K H' g gr := by
  obtain ⟨kvs, a, b⟩ := h
  exact ⟨kvs, s _ _ a, grels fl (fun _ _ t => St.tup potN (St.ofSame potN s) t) b⟩
theorem GrdG.chg {K : PySem.W.Frag} {H H' : Hp} {g : Addr} {gr : GGrd} {S : List Addr} (fl : FlatG gr) (h : GrdG K H g gr) (s : Chg S H H') (n : g ∉ S) : GrdG K H' g gr := by
  obtain ⟨kvs, a, b⟩ := h
  exact ⟨kvs, s.same _ _ n a, grels fl (fun _ _ t => s.seqT t) b⟩
abbrev Grd := List (Str × List Lyr)
def gG (gr : Grd) : GGrd := gr.map fun r => (r.1, r.2.map mG)
theorem flat_gG (gr : Grd) : FlatG (gG gr) := by
  rintro r m g mg
  obtain ⟨r', _, rfl⟩ := List.mem_map.mp m
  obtain ⟨l, _, rfl⟩ := List.mem_map.mp mg
  simp [mG, flatT, flatTs]
def GrdAt (K : PySem.W.Frag) (H : Hp) (g : Addr) (gr : Grd) : Prop := GrdG K H g (gG gr)
structure PlaceAt (K : PySem.W.Frag) (cP cQ : Addr) (H : Hp) (x p m f g : Addr) (inks : List Lay) (wear : Int) (gr : Grd) (next : Nat) : Prop where
  ob : ∃ dx, H x = some (.ins cQ dx (placeF (.ref p) wear g next))
  pal : PalAt K cP H p m f inks
  grd : GrdAt K H g gr
  names : gr.map (·.1) = inks.map (·.1)
theorem GrdAt.same {K : PySem.W.Frag} {H H' : Hp} {g : Addr} {gr : Grd} (h : GrdAt K H g gr) (s : Same H H') : GrdAt K H' g gr := GrdG.same (flat_gG gr) h s
theorem GrdAt.chg {K : PySem.W.Frag} {H H' : Hp} {g : Addr} {gr : Grd} {S : List Addr} (h : GrdAt K H g gr) (s : Chg S H H') (n : g ∉ S) : GrdAt K H' g gr := GrdG.chg (flat_gG gr) h s n
theorem PlaceAt.same {K : PySem.W.Frag} {cP cQ : Addr} {H H' : Hp} {x p m f g : Addr} {inks : List Lay} {wear : Int} {gr : Grd} {next : Nat} (h : PlaceAt K cP cQ H x p m f g inks wear gr next) (s : Same H H') : PlaceAt K cP cQ H' x p m f g inks wear gr next := by
  obtain ⟨⟨dx, a⟩, b, c, d⟩ := h
  exact ⟨⟨dx, s _ _ a⟩, b.same s, c.same s, d⟩
theorem PlaceAt.chg {K : PySem.W.Frag} {cP cQ : Addr} {H H' : Hp} {x p m f g : Addr} {inks : List Lay} {wear : Int} {gr : Grd} {next : Nat} {S : List Addr} (h : PlaceAt K cP cQ H x p m f g inks wear gr next) (s : Chg S H H')
    (nx : x ∉ S) (np : p ∉ S) (nf : f ∉ S) (ng : g ∉ S) : PlaceAt K cP cQ H' x p m f g inks wear gr next := by
  obtain ⟨⟨dx, a⟩, b, c, d⟩ := h
  exact ⟨⟨dx, s.same _ _ nx a⟩, b.chg s np nf, c.chg s ng, d⟩
/-! ### what is seen -/
open Classical in
noncomputable def firstOf (gs : List GLay) : Option GLay := if h : ∃ t, IsTop (gL gs) t then gs[h.choose]? else none
theorem firstOf_top {gs : List GLay} {t : Nat} (h : IsTop (gL gs) t) : firstOf gs = gs[t]? := by
  unfold firstOf
  have e : ∃ t, IsTop (gL gs) t := ⟨t, h⟩
  rw [dif_pos e, IsTop.uniq e.choose_spec h]
theorem firstOf_nil : firstOf [] = none := by
  unfold firstOf
  rw [dif_neg]
  rintro ⟨t, h⟩
  have := h.1
  simp [gL] at this
noncomputable def topStep (acc : Option (Str × GLay)) (r : Str × List GLay) : Option (Str × GLay) :=
  match firstOf r.2 with
  | none => acc
  | some l => match acc with
    | none => some (r.1, l)
    | some a => if a.2.2 < l.2 then some (r.1, l) else some a
noncomputable def topG (gr : GGrd) : Option (Str × GLay) := gr.foldl topStep none
def seenD (a : Str × GLay) : PyData := .tuple [.str a.1, a.2.1, .int a.2.2]
/-- None, or a tuple of ink, tag, strength -/
def SeenV (K : PySem.W.Frag) (H : Hp) (v : V) : Option (Str × GLay) → Prop
  | none => v = .non
  | some a => Dp K H v (seenD a)
theorem grel_none {K : PySem.W.Frag} {H : Hp} {z : Str} : ∀ {kvs : List (L2.Key × V)} {gr : GGrd}, Paired (GRel K H) kvs gr → z ∉ gr.map (·.1) → valV kvs (Sum.inr z : L2.Key) = none
  | _, _, .nil, _ => rfl
  | kv :: kvs, r :: gr, .cons h t, n => by
    have h1 : ¬ kv.1 = (Sum.inr z : L2.Key) := fun e => n (by
      rw [h.1] at e
      rw [List.map_cons]
      exact (Sum.inr.inj e) ▸ List.mem_cons_self ..)
    rw [valV_neg h1]
    exact grel_none t fun m => n (by rw [List.map_cons]; exact List.mem_cons_of_mem _ m)
theorem grel_some {K : PySem.W.Frag} {H : Hp} {r : Str × List GLay} : ∀ {kvs : List (L2.Key × V)} {gr : GGrd}, Paired (GRel K H) kvs gr → (gr.map (·.1)).Nodup → r ∈ gr → ∃ v, valV kvs (Sum.inr r.1 : L2.Key) = some v ∧ Dp K H v (rowG r.2)
  | _, _, .nil, _, m => nomatch m
  | kv :: kvs, s :: gr, .cons h t, nd, m => by
    rw [List.map_cons, List.nodup_cons] at nd
    by_cases e : s.1 = r.1
    · rcases List.mem_cons.mp m with q | q
      · subst q
        exact ⟨kv.2, valV_pos h.1, h.2⟩
      · exact absurd (List.mem_map.mpr ⟨r, q, e.symm⟩) nd.1
    · have h1 : ¬ kv.1 = (Sum.inr r.1 : L2.Key) := fun q => e (by rw [h.1] at q; exact Sum.inr.inj q)
      rw [valV_neg h1]
      refine grel_some t nd.2 ?_
      rcases List.mem_cons.mp m with q | q
      · subst q
        exact absurd rfl e
      · exact q
/-- one ink's row put anew -/
def setG (gr : GGrd) (z : Str) (gs : List GLay) : GGrd := gr.map fun r => if r.1 = z then (r.1, gs) else r
theorem grel_map {K : PySem.W.Frag} {H : Hp} {z : Str} {gs : List GLay} {v : V} (hv : Dp K H v (rowG gs)) : ∀ {kvs : List (L2.Key × V)} {gr : GGrd}, Paired (GRel K H) kvs gr →
    Paired (GRel K H) (kvs.map fun kv => if kv.1 = (Sum.inr z : L2.Key) then (kv.1, v) else kv) (setG gr z gs)
  | _, _, .nil => .nil
  | kv :: kvs, r :: gr, .cons h t => by
    unfold setG
    rw [List.map_cons, List.map_cons]
    refine .cons ?_ (grel_map hv t)
    by_cases e : r.1 = z
    · rw [if_pos e, if_pos (by rw [h.1, e])]
      exact ⟨h.1, hv⟩
    · rw [if_neg e, if_neg (fun q => e (by rw [h.1] at q; exact Sum.inr.inj q))]
      exact h
theorem grel_put {K : PySem.W.Frag} {H : Hp} {z : Str} {gs : List GLay} {v : V} {kvs : List (L2.Key × V)} {gr : GGrd} (hv : Dp K H v (rowG gs)) (h : Paired (GRel K H) kvs gr) (nd : (gr.map (·.1)).Nodup) (m : z ∈ gr.map (·.1)) :
    Paired (GRel K H) (putK kvs (Sum.inr z : L2.Key) v) (setG gr z gs) := by
  obtain ⟨r, mr, rfl⟩ := List.mem_map.mp m
  obtain ⟨u, e, _⟩ := grel_some h nd mr
  unfold putK
  rw [valV_any, e, if_pos (by rfl)]
  exact grel_map hv h
theorem firstOf_mem {gs : List GLay} {l : GLay} (h : firstOf gs = some l) : l ∈ gs := by
  unfold firstOf at h
  split at h
  · exact List.mem_of_getElem? h
  · cases h
theorem fold_mem {a : Str × GLay} : ∀ {gr : GGrd} {acc : Option (Str × GLay)}, gr.foldl topStep acc = some a → acc = some a ∨ ∃ r ∈ gr, r.1 = a.1 ∧ a.2 ∈ r.2
  | [], _, h => .inl h
  | r :: gr, acc, h => by
    rw [List.foldl_cons] at h
    rcases fold_mem h with q | ⟨s, ms, q⟩
    · unfold topStep at q
      cases e : firstOf r.2 with
      | none => rw [e] at q; exact .inl q
      | some l =>
        rw [e] at q
        have ml := firstOf_mem e
        cases acc with
        | none =>
          have q' : some (r.1, l) = some a := q
          cases q'
          exact .inr ⟨r, List.mem_cons_self .., rfl, ml⟩
        | some b =>
          have q' : (if b.2.2 < l.2 then some (r.1, l) else some b) = some a := q
          by_cases c : b.2.2 < l.2
          · rw [if_pos c] at q'
            cases q'
            exact .inr ⟨r, List.mem_cons_self .., rfl, ml⟩
          · rw [if_neg c] at q'
            exact .inl q'
    · exact .inr ⟨s, List.mem_cons_of_mem _ ms, q⟩
theorem topG_mem {gr : GGrd} {a : Str × GLay} (h : topG gr = some a) : ∃ r ∈ gr, r.1 = a.1 ∧ a.2 ∈ r.2 := by
  rcases fold_mem h with q | q
  · cases q
  · exact q
theorem flat_take {gr : GGrd} (fl : FlatG gr) (n : Nat) : FlatG (gr.take n) := fun r m => fl r (List.mem_of_mem_take m)
theorem SeenV.move {K : PySem.W.Frag} {H H' : Hp} {v : V} {gr : GGrd} (fl : FlatG gr) (f : ∀ a xs, SqT K H a xs → SqT K H' a xs) (h : SeenV K H v (topG gr)) : SeenV K H' v (topG gr) := by
  cases e : topG gr with
  | none => rw [e] at h; exact h
  | some a =>
    rw [e] at h
    obtain ⟨r, mr, _, ma⟩ := topG_mem e
    exact Dp.move f (by simp [seenD, flatT, flatTs, fl r mr _ ma]) h
theorem topG_succ (gr : GGrd) {i : Nat} {r : Str × List GLay} (h : gr[i]? = some r) : topG (gr.take (i + 1)) = topStep (topG (gr.take i)) r := by
  unfold topG
  rw [List.take_add_one, h, List.foldl_append]
  rfl
theorem paired_len {α β : Type} {R : α → β → Prop} : ∀ {xs : List α} {ys : List β}, Paired R xs ys → xs.length = ys.length
  | _, _, .nil => rfl
  | _, _, .cons _ t => congrArg (· + 1) (paired_len t)
theorem paired_snoc {α β : Type} {R : α → β → Prop} {x : α} {y : β} (h : R x y) : ∀ {xs : List α} {ys : List β}, Paired R xs ys → Paired R (xs ++ [x]) (ys ++ [y])
  | _, _, .nil => .cons h .nil
  | _, _, .cons a t => .cons a (paired_snoc h t)
/-! ### comprehensions of dicts, kept folded -/
def DcK (J : It) (g : TG) (tt : TT) (tk tv : TE) (vs : List Nat) (σ : L2.St) (Q : VK) (H1 : Hp) : Prop := ∀ D, H1 D = none → ∃ W : Nat → Nat → Hp → Prop, (∃ m, W 0 m (upd H1 D (.dK []))) ∧ ∀ i m H, W i m H →
  (J.stop i H ∧ Q (.ref D) H) ∨ (J.go i H ∧ ∃ Nx : Hp → Prop, (∀ H', Nx H' → ∃ m', m' < m ∧ W (i + 1) m' H') ∧ ∀ x H', J.yld i H x H' → g x (wipe σ vs) H' fun σ2 H2 => wipe σ2 vs = wipe σ vs ∧ tt σ2 H2 fun b H3 =>
    if b = true then tk σ2 H3 fun y H4 => tv σ2 H4 fun z H5 => ∃ kvs k, y = kV k ∧ H5 D = some (.dK kvs) ∧ kvs.length < sizeLine ∧ Nx (upd H5 D (.dK (putK kvs k z))) else Nx H3)
theorem tDcE {wi : TI} {g : TG} {tt : TT} {tk tv : TE} {vs : List Nat} {σ : L2.St} {H : Hp} {Q : VK} : tDc wi g tt tk tv vs σ H Q = wi σ H fun J H1 => DcK J g tt tk tv vs σ Q H1 := rfl
section
variable {J : It} {n : Nat} {G : Hp → Prop} {Y : Nat → Hp → V → Hp → Prop}
theorem dcW (w : Walk J n G Y) {g : TG} {tt : TT} {tk tv : TE} {vs : List Nat} {σ : L2.St} {H1 : Hp} {Q : VK} (R : Nat → Hp → List (L2.Key × V) → Prop)
    (hn : n ≤ 1000000) (r0 : ∀ D, H1 D = none → R 0 (upd H1 D (.dK [])) []) (hG : ∀ i H kvs, Same H1 H → R i H kvs → G H)
    (step : ∀ i x Ha H' kvs D (C : V → V → Hp → Prop) (N : Hp → Prop), i < n → Same H1 Ha → H1 D = none → Ha D = some (.dK kvs) → R i Ha kvs → Y i Ha x H' →
      (∀ k z H5, Same Ha H5 → valV kvs k = none → (∀ H6, (∀ a o, a ≠ D → H5 a = some o → H6 a = some o) → R (i + 1) H6 (kvs ++ [(k, z)])) → C (kV k) z H5) →
      g x (wipe σ vs) H' fun σ2 H2 => wipe σ2 vs = wipe σ vs ∧ tt σ2 H2 fun b H3 => if b = true then tk σ2 H3 fun y H4 => tv σ2 H4 fun z H5 => C y z H5 else N H3)
    (done : ∀ D kvs H', H1 D = none → Same H1 H' → H' D = some (.dK kvs) → R n H' kvs → Q (.ref D) H') :
    DcK J g tt tk tv vs σ Q H1 := by
  intro D hD
  have line : (1000000 : Nat) < sizeLine := by decide
  refine ⟨fun i m H => m = n - i ∧ i ≤ n ∧ Same H1 H ∧ ∃ kvs, H D = some (.dK kvs) ∧ kvs.length ≤ i ∧ R i H kvs, ⟨n, by simp, Nat.zero_le _, same_new hD, [], upd_same, Nat.le_refl _, r0 D hD⟩, ?_⟩
  rintro i m H ⟨rfl, hi, sa, kvs, hd, hl, r⟩
  have q := hG i H kvs sa r
  by_cases hlt : i < n
  · refine .inr ⟨w.goes i H hlt q, fun H' => i + 1 ≤ n ∧ Same H1 H' ∧ ∃ kvs, H' D = some (.dK kvs) ∧ kvs.length ≤ i + 1 ∧ R (i + 1) H' kvs, fun H' p => ⟨n - (i + 1), by omega, rfl, p.1, p.2.1, p.2.2⟩, fun x H' y => ?_⟩
    refine step i x H H' kvs D (fun y z H5 => ∃ kvs k, y = kV k ∧ H5 D = some (.dK kvs) ∧ kvs.length < sizeLine ∧ _) _ hlt sa hD hd r (w.yields i H x H' hlt q y) fun k z H5 s5 nv h6 => ?_
    have hd5 := s5 _ _ hd
    refine ⟨kvs, k, rfl, hd5, by omega, hlt, fun a o e => ?_, kvs ++ [(k, z)], by rw [putK_new _ nv]; exact upd_same, by simp; omega, by rw [putK_new _ nv]; exact h6 _ fun a o n e => by rw [upd_ne n]; exact e⟩
    rw [upd_ne (ne_of_none e hD)]
    exact s5 _ _ (sa _ _ e)
  · have e : i = n := by omega
    subst e
    exact .inl ⟨w.stops H q, done D kvs H hD sa hd r⟩
end
end Fd

namespace Fd
open PySem PySem.Spec PyProof.Rows L2
/-! ### dicts whose keys are texts, paired with rows -/
theorem prel_some {ρ : Type} (key : ρ → Str) {R : L2.Key × V → ρ → Prop} (hk : ∀ kv r, R kv r → kv.1 = (Sum.inr (key r) : L2.Key)) {r : ρ} : ∀ {kvs : List (L2.Key × V)} {gr : List ρ}, Paired R kvs gr → (gr.map key).Nodup → r ∈ gr →
    ∃ kv, valV kvs (Sum.inr (key r) : L2.Key) = some kv.2 ∧ R kv r
  | _, _, .nil, _, m => nomatch m
  | kv :: kvs, s :: gr, .cons h t, nd, m => by
    rw [List.map_cons, List.nodup_cons] at nd
    by_cases e : key s = key r
    · rcases List.mem_cons.mp m with q | q
      · subst q
        exact ⟨kv, valV_pos (hk _ _ h), h⟩
      · exact absurd (List.mem_map.mpr ⟨r, q, e.symm⟩) nd.1
    · have h1 : ¬ kv.1 = (Sum.inr (key r) : L2.Key) := fun q => e (by rw [hk _ _ h] at q; exact Sum.inr.inj q)
      rw [valV_neg h1]
      refine prel_some key hk t nd.2 ?_
      rcases List.mem_cons.mp m with q | q
      · subst q
        exact absurd rfl e
      · exact q
theorem prel_map {ρ : Type} (key : ρ → Str) {R R' : L2.Key × V → ρ → Prop} (hk : ∀ kv r, R kv r → kv.1 = (Sum.inr (key r) : L2.Key)) {z : Str} {v : V} {f : ρ → ρ} : ∀ {kvs : List (L2.Key × V)} {gr : List ρ}, Paired R kvs gr →
    (∀ kv r, r ∈ gr → R kv r → key r ≠ z → R' kv r) → (∀ kv r, r ∈ gr → R kv r → key r = z → R' (kv.1, v) (f r)) →
    Paired R' (kvs.map fun kv => if kv.1 = (Sum.inr z : L2.Key) then (kv.1, v) else kv) (gr.map fun r => if key r = z then f r else r)
  | _, _, .nil, _, _ => .nil
  | kv :: kvs, r :: gr, .cons h t, h1, h2 => by
    rw [List.map_cons, List.map_cons]
    refine .cons ?_ (prel_map key hk t (fun kv r m => h1 kv r (List.mem_cons_of_mem _ m)) (fun kv r m => h2 kv r (List.mem_cons_of_mem _ m)))
    by_cases e : key r = z
    · rw [if_pos e, if_pos (by rw [hk _ _ h, e])]
      exact h2 _ _ (List.mem_cons_self ..) h e
    · rw [if_neg e, if_neg (fun q => e (by rw [hk _ _ h] at q; exact Sum.inr.inj q))]
      exact h1 _ _ (List.mem_cons_self ..) h e
theorem merge_app : ∀ (more acc : List (L2.Key × V)), ((acc ++ more).map (·.1)).Nodup → mergeK acc more = acc ++ more
  | [], acc, _ => by simp [mergeK]
  | kv :: more, acc, nd => by
    have n : valV acc kv.1 = none := by
      cases e : valV acc kv.1 with
      | none => rfl
      | some v =>
        have q := valV_any kv.1 acc
        rw [e] at q
        obtain ⟨p, mp, ep⟩ := List.any_eq_true.mp q
        have ep' : p.1 = kv.1 := of_decide_eq_true ep
        rw [List.map_append, List.map_cons, List.nodup_append] at nd
        exact absurd ep' (nd.2.2 p.1 (List.mem_map.mpr ⟨p, mp, rfl⟩) kv.1 (List.mem_cons_self ..))
    have e : mergeK acc (kv :: more) = mergeK (putK acc kv.1 kv.2) more := rfl
    rw [e, putK_new _ n, merge_app more (acc ++ [(kv.1, kv.2)]) (by simpa using nd)]
    simp
theorem merge_nil {more : List (L2.Key × V)} (nd : (more.map (·.1)).Nodup) : mergeK [] more = more := by
  have := merge_app more [] (by simpa using nd)
  simpa using this
/-! ### the laws' own model of a place -/
def modelK (li : Addr) (wr : Int) (n : Nat) (rw : Addr) : List (L2.Key × V) := [(Sum.inr "inks", .ref li), (Sum.inr "wear", .int wr), (Sum.inr "next", .int (n : Int)), (Sum.inr "rows", .ref rw)]
theorem mk_inks (li : Addr) (wr : Int) (n : Nat) (rw : Addr) : valV (modelK li wr n rw) (Sum.inr "inks" : L2.Key) = some (.ref li) := by rfl
theorem mk_wear (li : Addr) (wr : Int) (n : Nat) (rw : Addr) : valV (modelK li wr n rw) (Sum.inr "wear" : L2.Key) = some (.int wr) := by rfl
theorem mk_next (li : Addr) (wr : Int) (n : Nat) (rw : Addr) : valV (modelK li wr n rw) (Sum.inr "next" : L2.Key) = some (.int (n : Int)) := by rfl
theorem mk_rows (li : Addr) (wr : Int) (n : Nat) (rw : Addr) : valV (modelK li wr n rw) (Sum.inr "rows" : L2.Key) = some (.ref rw) := by rfl
theorem mk_put (li : Addr) (wr : Int) (n : Nat) (rw : Addr) : putK (modelK li wr n rw) (Sum.inr "next" : L2.Key) (.int ((n : Int) + 1)) = modelK li wr (n + 1) rw := by rfl
theorem mk_new (li : Addr) (wr : Int) (n : Nat) (rw : Addr) : mergeK [] (modelK li wr n rw) = modelK li wr n rw := by rfl
def LRel (K : PySem.W.Frag) (H : Hp) (kv : L2.Key × V) (r : Str × List Lyr) : Prop := kv.1 = Sum.inr r.1 ∧ ∃ l us, kv.2 = .ref l ∧ H l = some (.lst us) ∧ DpAll K H us (r.2.map lD)
def InksL (K : PySem.W.Frag) (H : Hp) (li : Addr) (inks : List Lay) : Prop := ∃ us, H li = some (.lst us) ∧ DpAll K H us (inks.map layD)
structure ModAt (K : PySem.W.Frag) (H : Hp) (mo rw li : Addr) (inks : List Lay) (wr : Int) (gr : Grd) (n : Nat) : Prop where
  ob : H mo = some (.dK (modelK li wr n rw))
  inks : InksL K H li inks
  rows : ∃ kvs, H rw = some (.dK kvs) ∧ Paired (LRel K H) kvs gr
section
variable {K : PySem.W.Frag} {H H' : Hp} {mo rw li : Addr} {inks : List Lay} {wr : Int} {gr : Grd} {n : Nat} {S : List Addr}
theorem LRel.same {kv : L2.Key × V} {r : Str × List Lyr} (s : Same H H') (h : LRel K H kv r) : LRel K H' kv r := by
  obtain ⟨a, l, us, b, c, d⟩ := h
  exact ⟨a, l, us, b, s _ _ c, smDps s (flat_lDs _) d⟩
theorem LRel.chg {kv : L2.Key × V} {r : Str × List Lyr} (s : Chg S H H') (h : LRel K H kv r) : LRel K H' kv r := by
  obtain ⟨a, l, us, b, c, d⟩ := h
  exact ⟨a, l, us, b, s.lst c, s.dps (flat_lDs _) d⟩
theorem InksL.same (h : InksL K H li inks) (s : Same H H') : InksL K H' li inks := by
  obtain ⟨us, a, b⟩ := h
  exact ⟨us, s _ _ a, smDps s (flat_lays _) b⟩
theorem InksL.chg (h : InksL K H li inks) (s : Chg S H H') : InksL K H' li inks := by
  obtain ⟨us, a, b⟩ := h
  exact ⟨us, s.lst a, s.dps (flat_lays _) b⟩
theorem ModAt.same (h : ModAt K H mo rw li inks wr gr n) (s : Same H H') : ModAt K H' mo rw li inks wr gr n := by
  obtain ⟨a, b, kvs, c, d⟩ := h
  exact ⟨s _ _ a, b.same s, kvs, s _ _ c, pairedMem d fun _ _ _ q => q.same s⟩
theorem ModAt.chg (h : ModAt K H mo rw li inks wr gr n) (s : Chg S H H') (nm : mo ∉ S) (nr : rw ∉ S) : ModAt K H' mo rw li inks wr gr n := by
  obtain ⟨a, b, kvs, c, d⟩ := h
  exact ⟨s.same _ _ nm a, b.chg s, kvs, s.same _ _ nr c, pairedMem d fun _ _ _ q => q.chg s⟩
end
/-- what the comprehension that makes the rows leaves -/
theorem made_rows {K : PySem.W.Frag} {H : Hp} : ∀ {ps : List (Addr × Addr)} {inks : List Lay}, Paired (fun (q : Addr × Addr) (r : Lay) => H q.1 = some (.tup [.str r.1, .ref q.2]) ∧ H q.2 = some (.lst [])) ps inks →
    ∃ kvs : List (L2.Key × V), Paired (fun p (kv : L2.Key × V) => SqT K H p [kV kv.1, kv.2]) (ps.map (·.1)) kvs ∧ Paired (LRel K H) kvs (inks.map fun i => (i.1, [])) ∧ kvs.map (·.1) = inks.map fun i => (Sum.inr i.1 : L2.Key)
  | _, _, .nil => ⟨[], .nil, .nil, rfl⟩
  | q :: ps, r :: inks, .cons h t => by
    obtain ⟨kvs, a, b, c⟩ := made_rows (K := K) t
    refine ⟨(Sum.inr r.1, .ref q.2) :: kvs, .cons (SqT.of h.1) a, .cons ⟨rfl, q.2, [], rfl, h.2, .nil⟩ b, ?_⟩
    rw [List.map_cons, List.map_cons, c]
theorem ls_len {K : PySem.W.Frag} {H : Hp} {xs : List V} {ls : List Lyr} (al : DpAll K H xs (ls.map lD)) : xs.length = ls.length := by
  rw [DpAll.len al, List.length_map]
theorem ls_at {K : PySem.W.Frag} {H : Hp} {xs : List V} {ls : List Lyr} {i : Nat} (h : DpAll K H xs (ls.map lD)) (hi : i < ls.length) :
    ∃ (l : Lyr) (b : Addr), ls[i]? = some l ∧ xs[i]? = some (.ref b) ∧ SqT K H b [.int l.1, .str l.2.1, .int l.2.2] := by
  have len := ls_len h
  have e : xs[i]? = some xs[i] := List.getElem?_eq_getElem (by omega)
  obtain ⟨d, q, k⟩ := DpAll.get h e
  rw [List.getElem?_map] at q
  have el : ls[i]? = some ls[i] := List.getElem?_eq_getElem hi
  rw [el] at q
  obtain rfl : lD ls[i] = d := Option.some.inj q
  obtain ⟨b, ys, e2, s, al⟩ := Dp.tupInv k
  cases al with
  | cons h1 r => cases r with
    | cons h2 r => cases r with
      | cons h3 r =>
        cases r
        cases h1
        cases h2
        cases h3
        exact ⟨ls[i], b, el, by rw [e, e2], s⟩
theorem str_mG (ls : List Lyr) {i : Nat} {l : Lyr} (h : ls[i]? = some l) : str (gL (ls.map mG)) i = l.2.2 := str_gL (ls.map mG) (g := mG l) (by rw [List.getElem?_map, h]; rfl)
/-! ### what may be shown -/
theorem niceW_lD {l : Lyr} (h : LayOk (l.2.1, l.2.2)) (h2 : l.1 < 1000) : NiceW 753 (lD l) := by
  have q := niceWs (n := 250) (k := 0) (ds := [.int l.1, .str l.2.1, .int l.2.2]) fun d m => by
    rcases List.mem_cons.mp m with e | m
    · rw [e]
      exact ⟨niceW_int (by have : ((l.1 : Int)).natAbs = l.1 := Int.natAbs_natCast _; rw [this]; exact Nat.lt_trans h2 (by decide)), by simp [PyData.depth]⟩
    rcases List.mem_cons.mp m with e | m
    · rw [e]
      have : NiceW 8 (.str l.2.1) := niceW_tag h.1
      exact ⟨⟨this.sh, this.nd, this.lf, by have := this.wt; omega, this.lay, this.dp⟩, by simp [PyData.depth]⟩
    · rw [List.mem_singleton.mp m]
      exact ⟨niceW_int h.2, by simp [PyData.depth]⟩
  exact q.tup (by decide)
theorem nice_lds {ls : List Lyr} (n : ls.length ≤ 50) (h : ∀ l ∈ ls, LayOk (l.2.1, l.2.2) ∧ l.1 < 1000) : Nice (.list (ls.map lD)) := by
  have q := niceWs (n := 753) (k := 1) (ds := ls.map lD) fun d m => by
    obtain ⟨l, ml, rfl⟩ := List.mem_map.mp m
    exact ⟨niceW_lD (h l ml).1 (h l ml).2, by simp [lD, PyData.depth, PyData.depthAll]⟩
  refine (q.lst (by decide)).nice ?_
  rw [List.length_map]
  omega
theorem nice_nil : Nice (.list []) := nice_ints (ns := []) (by decide) (fun _ h => nomatch h)
theorem eqv_lnil (ds : List PyData) : PyData.eqv (.list ds) (.list []) = ds.isEmpty := by
  simp only [PyData.eqv]
  exact eqvAll_nil ds
theorem niceW_none : NiceW 250 .none := by
  refine ⟨?_, ?_, ?_, ?_, ?_, ?_⟩ <;> simp [PyData.showable, PyData.hasDict, PyData.leavesShort, PyData.weight, PyData.canLay0, PyData.depth]
end Fd

namespace Fd
open PySem PySem.Spec PyProof.Rows L2
/-! ### error classes of the text, over any of Python's own errors, with an __init__ of the text -/
structure OxC (K : PySem.W.Frag) (C : Addr) : Prop where
  base : ∃ (B newId initId : String) (bmB : List Value), PySem.ExcBaseFacts B newId initId bmB ∧ PySem.StoreFacts B bmB "object.__setattr__" "object" ∧ PySem.W.excInitIn K C bmB newId = true ∧ PySem.W.excOver K C bmB = true
  setA : PySem.W.findIn K (.ref C) "__setattr__" = some (some (.builtin "object.__setattr__"))
  below : PySem.W.subIn K (.ref C) (.type "BaseException") = some true
  meta_ : PySem.W.typeIn K (.ref C) = some (.type "type")
  kept : PySem.W.keepIn K (.ref C) = true
  dicts : PySem.W.hasDictIn K C = true
section
open PySem.W PySem.Calls Builtin Builtin.ObjectAttr
variable {prog : Program} {w : World} {A : Around} {R : Result → Shared → Prop} {hp : Heap} {g : Array GenState} {d : Drawn} {t : Nat} {os : OsState}
/-- the first field of such an error -/
theorem firstField {K : PySem.W.Frag} {x C : Addr} {fv : Array Value} {name : Str} {tk : Tok} {v : Value} (T : OxC K C) (X : K.In hp) (hx : hp.get? x = some { cls := .ref C, data := .fields fv }) (no : PySem.W.findIn K (.ref C) name = some none)
    (want : ∀ h' tk' dx, (∀ b o, b ≠ x → hp.get? b = some o → h'.get? b = some o) → hp.objs.size ≤ dx → dx ≠ x → h'.get? x = some { cls := .ref C, dict := some dx, data := .fields fv } →
      h'.Ns1 dx (fun y => if y = name then some v else none) → R (.ok (.ret .none)) ⟨h', g, d, tk', os⟩) :
    codeAny (model prog w) A (.call (.builtin "object.__setattr__") ⟨[.ref x, .str name tk, v], []⟩) R ⟨hp, g, d, t, os⟩ := by
  obtain ⟨B, newId, initId, bmB, FB, SF, i1, i2⟩ := T.base
  have I : InstAt hp x { cls := .ref C, data := .fields fv } C none := ⟨hx, rfl, rfl, trivial⟩
  obtain ⟨cd, hc, hd⟩ := any_some T.dicts
  have Lc : Looks (model prog w) hp (classData C) cd := looks_clsIn X hc
  have nx : x ≠ hp.objs.size := Nat.ne_of_lt (Heap.lt_size hx)
  have taker : takerIn K C name = some none := by
    unfold takerIn
    rw [no]
    rfl
  refine osa_openX (s := ⟨hp, g, d, t, os⟩) (od := none) SF X I i2 taker fun b => ?_
  obtain ⟨nm, bs, mro, ns, qn, hasD, sn, sb, ab, col, del⟩ := cd
  dsimp only at hd
  subst hd
  show wpAny _ _ (storeInOwnDict (.ref x) (.ref C) (.str name tk) name v b) _ _ _
  unfold storeInOwnDict ownDictForStores
  repeat (first | with_reducible refine HandSPX.store_in_new ?_ ?_ | with_reducible refine wpAny_loadPart_at hx ?_ | with_reducible refine Lc.at ?_ | wp_step)
  · exact ⟨_, #[], _, (Heap.get?_update_ne _ _ _ _ nx.symm).trans (Heap.get?_push_at rfl rfl), rfl, fun e he => absurd he (by simp), fun _ => rfl⟩
  · intro h' tk' ns1 same
    have old : (hp.push { cls := .type "dict", data := .dict #[] }).get? x = some { cls := .ref C, data := .fields fv } := Heap.get?_push_of_some _ hx
    refine want h' tk' hp.objs.size (fun b o hb ho => ?_) (Nat.le_refl _) nx.symm ?_ ns1
    · exact (same.2 b (Nat.ne_of_lt (Heap.lt_size ho))).trans ((Heap.get?_update_ne _ _ _ _ hb).trans (Heap.get?_push_of_some _ ho))
    · exact (same.2 x nx).trans (Heap.get?_update_self _ old rfl)
end
end Fd
namespace Fd
open PySem PySem.Spec PyProof.Rows L2
section
variable {X : Cx} {pins : List (Addr × Obj)} {σ : L2.St} {H : Hp} {s : Shared} {a C : Addr} {f : Str} {y : V} {u : Value} {Q : Unit → Shared → Prop} {E : Value → Shared → Prop} {A : Around}
/-- a fresh error's first field is stored -/
theorem exStore (T : OxC X.K C) (I : Inv X pins σ H s) (e : H a = some (exo a C none)) (no : PySem.W.findIn X.K (.ref C) f = some none) (ry : RelV y u)
    (want : ∀ dx s', H dx = none → dx ≠ a → Inv X pins σ (upd (upd H dx (exd dx [(f, y)])) a (exo a C (some dx))) s' → Q () s') : wpAny (model X.prog X.w) A (setAttr (.ref a) f u) Q E s := by
  obtain ⟨t1, at_⟩ := exo_at I.hok e
  obtain ⟨h0, g0, d0, k0, o0⟩ := s
  refine PySem.W.set_plain I.kIn (ox := { cls := .ref C, dict := none, data := .fields #[.ref t1, .none, .none, .none, .bool false, .none] }) (od := none) ⟨at_, rfl, rfl, trivial⟩ T.setA ?_
  refine firstField T I.kIn at_ no fun h1 k1 dx old big ne obj ns => ?_
  have fresh : H dx = none := I.hok.fresh big
  have ndx : ∀ {c : Addr} {z : Obj}, h0.get? c = some z → c ≠ dx := fun q => Nat.ne_of_lt (Nat.lt_of_lt_of_le (Heap.lt_size q) big)
  have nda : ∀ {c : Addr}, H c = none → c ≠ a := fun n z => by
    rw [z, e] at n
    cases n
  have away : ∀ {c : Addr} {z : HO}, H c = some z → z ≠ exo a C none → upd (upd H dx (exd dx [(f, y)])) a (exo a C (some dx)) c = some z := fun {c z} q w => by
    rw [upd_ne (at_ne e q (fun r => w r.symm)), upd_ne (ne_of_none q fresh)]
    exact q
  have un : Un X.fs [] H (upd (upd H dx (exd dx [(f, y)])) a (exo a C (some dx))) h0 h1 := by
    refine ⟨fun c z q n _ _ => old c z (nda n) q, fun c z q n _ _ => ⟨z.slots, old c z (nda n) q⟩, fun c z q n _ => ?_, fun c z q _ => ?_, fun c zs q => away q fun r => exo_tup r.symm, fun c z v q => away q fun r => exo_frz r.symm, fun c zs q => ⟨#[], ?_⟩⟩
    · rw [upd_ne (nda n), upd_ne (ndx q)]
      exact n
    · by_cases w : c = a
      · exact ⟨_, by rw [w]; exact obj⟩
      · exact ⟨z, old c z w q⟩
    · rw [away q fun r => exo_tbl r.symm]
      simp
  refine want dx _ fresh ne (I.un (t' := k1) un fun c z q => ?_)
  by_cases w : c = a
  · subst w
    rw [upd_same] at q
    cases q
    exact exo_ok obj
  · rw [upd_ne w] at q
    by_cases w2 : c = dx
    · subst w2
      rw [upd_same] at q
      cases q
      exact exd_ok ns (relO_put (fs := []) ry fun _ => True.intro)
    · rw [upd_ne w2] at q
      refine (I.hok c z q).stay (fun b v m r => old b v ?_ r) (fun b m => away m fun r => exo_own r.symm) fun b zs m => away m fun r => exo_tup r.symm
      rcases m with m | m
      · rw [m]
        exact w
      · exact at_ne e m exo_own
end
/-- self.f = e in an error's __init__ -/
def tOs (K : PySem.W.Frag) (f : Str) (to te : TE) : TS := fun D σ H => te σ H fun y H1 => to σ H1 fun x H2 => ∃ a C : Addr, x = .ref a ∧ OxC K C ∧ PySem.W.findIn K (.ref C) f = some none ∧
  H2 a = some (exo a C none) ∧ ∀ dx, H2 dx = none → dx ≠ a → D.nx σ (upd (upd H2 dx (exd dx [(f, y)])) a (exo a C (some dx)))
section
variable {X : Cx} {K : PySem.W.Frag} {o e : Expr} {es : List Expr} {to te : TE} {ta : TA} {f : Str} {p p' pos : Pos}
theorem ps_os (hK : X.K = K) (ho : PE X o to) (he : PE X e te) (hs : swapsWith e (some (.Attribute o f p')) pos.line X.env = pure false := by rfl) : PS X (.Assign [.Attribute o f p'] e pos) (tOs K f to te) := by
  subst hK
  refine ⟨fun pins s σ H D I h => ?_⟩
  refine plainObj_wpAny_Assign_Attribute (thn (he.run pins s σ H _ I h) fun v s1 ⟨y, H1, I1, r1, q1⟩ => thn (ho.run pins s1 σ H1 _ I1 q1) fun u s2 ⟨x, H2, I2, r2, a, C, ex, T, no, ea, q⟩ => ?_) hs
  subst ex
  obtain rfl : u = Value.ref a := r2
  exact exStore T I2 ea no r1 fun dx s' n ne J => ⟨σ, _, J, q dx n ne⟩
/-- what C(..) leaves for the raise -/
def tMk (C : Addr) (sp : Sp) (dvs : List V) (ta : TA) : L2.St → Hp → XK → Prop := fun σ H Q => ta σ H fun vs H1 => vs.length ≤ 1000 ∧ ∀ a, H1 a = none → sp (.ref a :: (vs ++ dvs)) (upd H1 a (exo a C none))
  (fun v H2 => v = .non ∧ ∃ (d : Addr) (fs : List (Str × V)), H2 a = some (exo a C (some d)) ∧ H2 d = some (exd d fs) ∧ H1 d = none ∧ Q (.ref C) (some d) (upd (L2.del H2 a) d (.xd fs))) (fun _ _ _ => False)
variable {CX : CXT} {x : Str} {C fI : Addr} {k : Nat} {fd : FuncData} {ps : List Str} {sp : Sp} {ds : List Value} {dvs : List V}
theorem runMk (T : OxC X.K C) (iC : PySem.W.findIn X.K (.ref C) "__init__" = some (some (.ref fI))) (tI : PySem.W.typeIn X.K (.ref fI) = some (.type "function"))
    (F : FnOk X.prog X.w X.K X.mg X.base CX k fI fd ps sp) (hr : Room (k + 1) X.A) (hb : Binds X.K fd ps ds) (hd : Vals dvs ds) (hx : Passes CX X (fun _ _ _ => False))
    {pins : List (Addr × Obj)} {σ : L2.St} {H : Hp} {s : Shared} {Q : XK} {us : List Value} {vs : List V} (I : Inv X pins σ H s) (r : Vals vs us) (hz : vs.length ≤ 1000)
    (h : ∀ a, H a = none → sp (.ref a :: (vs ++ dvs)) (upd H a (exo a C none))
      (fun v H2 => v = .non ∧ ∃ (d : Addr) (fs : List (Str × V)), H2 a = some (exo a C (some d)) ∧ H2 d = some (exd d fs) ∧ H d = none ∧ Q (.ref C) (some d) (upd (L2.del H2 a) d (.xd fs))) (fun _ _ _ => False)) :
    wpAny (model X.prog X.w) X.A (call (.ref C) us) (MkP X pins σ Q) X.xe s := by
  obtain ⟨B, newId, initId, bmB, FB, SF, i1, i2⟩ := T.base
  obtain ⟨nm, N, qn, bs, bm, hdct, sn, sub, ab, col, dd, k0, k1, k2, k3, k5, hC, hT⟩ := PySem.W.excInit_of I.kIn i1
  obtain ⟨hp, g, dr, tk, os⟩ := s
  have big : hp.objs.size ≤ hp.objs.size + 1 := Nat.le_succ _
  have fresh : H (hp.objs.size + 1) = none := I.hok.fresh big
  have want := h (hp.objs.size + 1) fresh
  have kk : ∀ b o, hp.get? b = some o → ((hp.push (PySem.W.kdv_tup us)).push (PySem.HandSPX.excO C hp.objs.size)).get? b = some o := fun b o q => Heap.get?_push_of_some _ (Heap.get?_push_of_some _ q)
  have made : ((hp.push (PySem.W.kdv_tup us)).push (PySem.HandSPX.excO C hp.objs.size)).get? (hp.objs.size + 1) = some (PySem.HandSPX.excO C hp.objs.size) := by heap_get
  have J : Inv X pins σ (upd H (hp.objs.size + 1) (exo (hp.objs.size + 1) C none)) ⟨(hp.push (PySem.W.kdv_tup us)).push (PySem.HandSPX.excO C hp.objs.size), g, dr, tk, os⟩ :=
    I.laid (t' := tk) kk big (exo_ok made)
  have rr : Vals (V.ref (hp.objs.size + 1) :: (vs ++ dvs)) (Value.ref (hp.objs.size + 1) :: (us ++ ds)) := .cons rfl (r.append hd)
  have ll : (Value.ref (hp.objs.size + 1) :: us ++ ds).length = ps.length := by
    have q := rr.length
    rw [F.len _ _ _ _ want] at q
    exact q.symm
  have lus : us.length ≤ sizeLine := by
    rw [← Paired.length r, sizeLine_eq]
    omega
  refine wpAny_call (PySem.HandSPX.call_own FB hT hC (PySem.W.looks_findIn I.kIn iC) (fun self => PySem.W.bind_fn I.kIn self tI) lus
    (codeAny_mono (F.run _ X.stack _ _ ⟨Value.ref (hp.objs.size + 1) :: us, []⟩ (Value.ref (hp.objs.size + 1) :: (us ++ ds)) _ _ (fun _ _ _ => False) (hr.make C us []) (J.env0.make C us []) (hb _ (Value.ref (hp.objs.size + 1) :: us) J.kIn ll) rr want) fun q s' told => ?_))
  match q, told with
  | .error er, told => exact hx pins σ _ _ er s' J told
  | .ok .next, told => exact False.elim told
  | .ok .brk, told => exact False.elim told
  | .ok .cont, told => exact False.elim told
  | .ok (.ret v), ⟨w, H2, os2, bare, un, ok, rv, ew, d, fs, ea, ed, hd1, q2⟩ =>
    subst ew
    obtain ⟨h2, g2, d2, t2, os'⟩ := s'
    exact ⟨rv, mk_end (raises_own T.below T.meta_) I big kk un ok os2 bare ea ed hd1 q2⟩
/-- C(e, ..), for a raise -/
theorem pmk_x (T : OxC X.K C) (iC : PySem.W.findIn X.K (.ref C) "__init__" = some (some (.ref fI))) (tI : PySem.W.typeIn X.K (.ref fI) = some (.type "function"))
    (F : FnOk X.prog X.w X.K X.mg X.base CX k fI fd ps sp) (hr : Room (k + 1) X.A) (hb : Binds X.K fd ps ds) (hd : Vals dvs ds) (hx : Passes CX X (fun _ _ _ => False)) (hg : Gl X x) (hm : X.mg x = some (.ref C)) (ha : PA X (e :: es) ta)
    (hdb : (x == ("__debug__" : Str)) = false := by decide) (he : starEach (e :: es) X.env = (false, eval e X.env) :: starEach es X.env := by rfl) (hpl : (backTo pos (starEach es X.env)).any (·.1) = false := by rfl) :
    PMk X (.Call (.Name x p) (e :: es) [] pos) (tMk C sp dvs ta) := by
  intro pins s σ H Q I h
  refine wpAny_Call_Name_kw (ld_glob I hg hm ?_ hdb)
  exact PySem.W.callWith_K (h₀ := X.base) I.ok.mod.kin T.kept (thn (ha.run pos pins s σ H _ I h) fun us s1 ⟨vs, H1, I1, r1, hz, q1⟩ => ⟨I1.kIn, runMk T iC tI F hr hb hd hx I1 r1 hz q1⟩) he hpl
/-- C(), for a raise -/
theorem pmk_x0 (T : OxC X.K C) (iC : PySem.W.findIn X.K (.ref C) "__init__" = some (some (.ref fI))) (tI : PySem.W.typeIn X.K (.ref fI) = some (.type "function"))
    (F : FnOk X.prog X.w X.K X.mg X.base CX k fI fd ps sp) (hr : Room (k + 1) X.A) (hb : Binds X.K fd ps ds) (hd : Vals dvs ds) (hx : Passes CX X (fun _ _ _ => False)) (hg : Gl X x) (hm : X.mg x = some (.ref C))
    (hdb : (x == ("__debug__" : Str)) = false := by decide) : PMk X (.Call (.Name x p) [] [] pos) (tMk C sp dvs tNil) := by
  intro pins s σ H Q I h
  obtain ⟨hz, q⟩ := (show ([] : List V).length ≤ 1000 ∧ _ from h)
  refine wpAny_Call_Name_kw (ld_glob I hg hm ?_ hdb)
  exact PySem.W.callWith_K0 I.kIn T.kept (runMk (us := []) (vs := []) T iC tI F hr hb hd hx I .nil hz q)
end
/-- what an error's own __init__ with one field does -/
def spInit (K : PySem.W.Frag) (f : Str) : Sp := fun vs H Q _ => ∃ (a C : Addr) (v : V), vs = [.ref a, v] ∧ OxC K C ∧ PySem.W.findIn K (.ref C) f = some none ∧ H a = some (exo a C none) ∧
  ∀ dx, H dx = none → dx ≠ a → Q .non (upd (upd H dx (exd dx [(f, v)])) a (exo a C (some dx)))
/-- the heap behind a made error: its dict alone is new -/
theorem mkHeap {H1 : Hp} {a C d : Addr} {fs : List (Str × V)} (ha : H1 a = none) (hd : d ≠ a) : upd (L2.del (upd (upd (upd H1 a (exo a C none)) d (exd d fs)) a (exo a C (some d))) a) d (.xd fs) = upd H1 d (.xd fs) := by
  funext b
  by_cases w : b = d
  · rw [w, upd_same, upd_same]
  · rw [upd_ne w, upd_ne w]
    by_cases w2 : b = a
    · rw [w2, del_same, ha]
    · rw [del_ne w2, upd_ne w2, upd_ne w, upd_ne w2]
/-- tMk, by such an __init__ -/
theorem tMk_one {K : PySem.W.Frag} {C : Addr} {f : Str} {dvs : List V} {ta : TA} {σ : L2.St} {H : Hp} {Q : XK} (T : OxC K C) (no : PySem.W.findIn K (.ref C) f = some none)
    (h : ta σ H fun vs H1 => ∃ v, vs ++ dvs = [v] ∧ ∀ d, H1 d = none → Q (.ref C) (some d) (upd H1 d (.xd [(f, v)]))) (mono : ∀ {P P' : List V → Hp → Prop}, (∀ vs H1, P vs H1 → P' vs H1) → ta σ H P → ta σ H P') : tMk C (spInit K f) dvs ta σ H Q := by
  refine mono (fun vs H1 => ?_) h
  rintro ⟨v, e, q⟩
  refine ⟨?_, fun a ha => ⟨a, C, v, by rw [e], T, no, upd_same, fun dx n ne => ⟨rfl, dx, [(f, v)], upd_same, ?_, ?_, ?_⟩⟩⟩
  · have := congrArg List.length e
    rw [List.length_append] at this
    simp only [List.length_cons, List.length_nil] at this
    omega
  · rw [upd_ne ne, upd_same]
  · rw [upd_ne ne] at n
    exact n
  · rw [mkHeap ha ne]
    refine q dx ?_
    rw [upd_ne ne] at n
    exact n
/-! ### calls that may raise -/
def tMethX (C : Addr) (m : Str) (sp : Sp) (E : L2.St → XK) (ta : TE) (t : TA) : TE := fun σ H Q => ta σ H fun x H1 => ∃ a dx fs, x = .ref a ∧ H1 a = some (.ins C dx fs) ∧ fs.lookup m = none ∧ t σ H1 fun vs H2 => sp (x :: vs) H2 Q (E σ)
structure HasX (P : Program) (w : World) (K : PySem.W.Frag) (mg : Str → Option Value) (base : Heap) (x : Str) (k : Nat) (ps : List Str) (sp : Sp) : Prop where
  ex : ∃ f fd, FnOk P w K mg base (L2.CX P w) k f fd ps sp ∧ mg x = some (.ref f) ∧ PySem.W.keepIn K (.ref f) = true ∧ Binds K fd ps []
structure HasMX (P : Program) (w : World) (K : PySem.W.Frag) (mg : Str → Option Value) (base : Heap) (C : Addr) (m : Str) (k : Nat) (ps : List Str) (sp : Sp) : Prop where
  ex : ∃ f fd, FnOk P w K mg base (L2.CX P w) k f fd ps sp ∧ Meth K C m f ∧ Binds K fd ps []
section
variable {X : Cx} {k j : Nat} {C : Addr} {ps : List Str} {sp : Sp} {x m : Str} {W : WX} {p apos pos : Pos} {e o : Expr} {es : List Expr} {ta : TE} {t : TA}
theorem callX (M : HasX X.prog X.w X.K X.mg X.base x k ps sp) (hr : Room j X.A) (tk : Takes X W) (hg : Gl X x) (ha : PA X (e :: es) t) (hk : k ≤ j := by decide) (hdb : (x == ("__debug__" : Str)) = false := by decide)
    (he : starEach (e :: es) X.env = (false, eval e X.env) :: starEach es X.env := by rfl) (hpl : (backTo pos (starEach es X.env)).any (·.1) = false := by rfl) : PE X (.Call (.Name x p) (e :: es) [] pos) (tCallS sp (WE W) t) := by
  obtain ⟨f, fd, F, hm, kp, hb⟩ := M.ex
  exact pe_callS F (hr.mono hk) hg hm kp hb (fun σ => passAt tk σ) ha hdb he hpl
theorem methX (M : HasMX X.prog X.w X.K X.mg X.base C m k ps sp) (c : Cls X.K C) (hr : Room j X.A) (tk : Takes X W) (he : PE X o ta) (ha : PA X (e :: es) t) (hk : k ≤ j := by decide) {pl : Sem Bool}
    (hst : starEach (e :: es) X.env = (false, eval e X.env) :: starEach es X.env := by rfl) (hpl : (backTo pos (starEach es X.env)).any (·.1) = false := by rfl)
    (ht : eval (.Call (.Attribute o m apos) (e :: es) [] pos) X.env = (do
      let ov ← eval o X.env
      standAt apos.atName
      let (f, first) ← holding [ov] (getMethod ov m pl)
      callWith pos f first (backTo pos (starEach (e :: es) X.env)) (backToKw pos (keywordEach [] X.env))) := by rfl) :
    PE X (.Call (.Attribute o m apos) (e :: es) [] pos) (tMethX C m sp (WE W) ta t) := by
  obtain ⟨f, fd, F, hm, hb⟩ := M.ex
  refine ⟨fun pins s σ H Q I h => ?_⟩
  refine PySem.W.methodCall_KW (pl := pl) (thn (he.run pins s σ H _ I h) fun u s1 ⟨x, H1, I1, rx, a, dx, fs, ex, ea, l, q⟩ => ?_) ht
  subst ex
  obtain rfl : u = Value.ref a := rx
  refine getmeth_ok I1 ea c hm l ?_
  exact PySem.W.callWith_K (first := [.ref a]) (h₀ := X.base) I.ok.mod.kin hm.kp (thn (ha.run pos pins s1 σ H1 _ I1 q) fun us s2 ⟨vs, H2, I2, r, q2⟩ => ⟨I2.kIn,
    run_fnS (us := .ref a :: us) (vs := .ref a :: vs) F (hr.mono hk) hb (passAt tk σ) I2 (.cons rfl r) q2⟩) hst hpl
theorem methX0 (M : HasMX X.prog X.w X.K X.mg X.base C m k ps sp) (c : Cls X.K C) (hr : Room j X.A) (tk : Takes X W) (he : PE X o ta) (hk : k ≤ j := by decide) {pl : Sem Bool}
    (ht : eval (.Call (.Attribute o m apos) [] [] pos) X.env = (do
      let ov ← eval o X.env
      standAt apos.atName
      let (f, first) ← holding [ov] (getMethod ov m pl)
      callWith pos f first (backTo pos (starEach [] X.env)) (backToKw pos (keywordEach [] X.env))) := by rfl) :
    PE X (.Call (.Attribute o m apos) [] [] pos) (tMethX C m sp (WE W) ta tNil) := by
  obtain ⟨f, fd, F, hm, hb⟩ := M.ex
  refine ⟨fun pins s σ H Q I h => ?_⟩
  refine PySem.W.methodCall_KW (pl := pl) (thn (he.run pins s σ H _ I h) fun u s1 ⟨x, H1, I1, rx, a, dx, fs, ex, ea, l, q⟩ => ?_) ht
  subst ex
  obtain rfl : u = Value.ref a := rx
  refine getmeth_ok I1 ea c hm l ?_
  exact PySem.W.callWith_K0 (first := [.ref a]) I1.kIn hm.kp (run_fnS (us := [.ref a]) (vs := [.ref a]) F (hr.mono hk) hb (passAt tk σ) I1 (.cons rfl .nil) q)
end
/-! ### o.m( *e), e a list or a tuple -/
structure HasB (P : Program) (w : World) (K : PySem.W.Frag) (mg : Str → Option Value) (base : Heap) (C : Addr) (m : Str) (k : Nat) (sp : Sp) : Prop where
  ex : ∃ g, FnR P w K mg base CX0 k g sp ∧ BMeth K C m g
def tMethB (K : PySem.W.Frag) (C : Addr) (m : Str) (sp : Sp) (ta te : TE) : TE := fun σ H Q => ta σ H fun x H1 => ∃ a dx fs, x = .ref a ∧ H1 a = some (.ins C dx fs) ∧ fs.lookup m = none ∧
  ∀ q g, H1 q = none → te σ (upd H1 q (.met g a)) fun y H2 => ∃ b vs, y = .ref b ∧ (SqT K H2 b vs ∨ SqL K H2 b vs) ∧ H2 q = some (.met g a) ∧ sp (.ref a :: vs) H2 Q E0
theorem methB {X : Cx} {j k : Nat} {C : Addr} {m : Str} {sp : Sp} {o e : Expr} {ta te : TE} {p apos pos : Pos} (M : HasB X.prog X.w X.K X.mg X.base C m k sp) (he : PE X o ta) (c : Cls X.K C) (hr : Room j X.A)
    (ha : PE X e te) (hk : k ≤ j := by decide) (hbase : attributeBase o m X.env (eval o X.env) = eval o X.env := by rfl) : PE X (.Call (.Attribute o m apos) [.Starred e p] [] pos) (tMethB X.K C m sp ta te) := by
  obtain ⟨g, F, b⟩ := M.ex
  refine ⟨fun pins s σ H Q I h => ?_⟩
  refine starcall_of hbase (thn (he.run pins s σ H _ I h) fun u s1 ⟨x, H1, I1, rx, a, dx, fs, ex, ea, l, q⟩ => ?_)
  subst ex
  obtain rfl : u = Value.ref a := rx
  refine getbound_ok I1 ea c b l fun q1 s2 hq1 I2 => ?_
  refine PySem.W.ks_call (P := PySem.W.MethP X.K q1 g (.ref a)) rfl (PySem.W.keeps_M b.fi) (PySem.W.ks_lone ?_)
  refine thn (ha.run pins s2 σ _ _ I2 (q q1 g hq1)) fun v s3 ⟨y, H2, I3, ry, t, vs, ey, ht, hm, hsp⟩ => ?_
  subst ey
  obtain rfl : v = Value.ref t := ry
  exact StX.star_any I3 ht fun us s4 I4 rv => ⟨met_P I4 hm, wpAny_call (PySem.W.method_call (met_P I4 hm).1 (run_fnR (us := Value.ref a :: us) (vs := V.ref a :: vs) F (hr.mono hk) pass0 I4 (.cons rfl rv) hsp))⟩
end Fd

namespace Fd
open PySem PySem.Spec PyProof.Rows L2 L2H
/-! ### defs that get a caught error as an argument: no loops, no raise there -/
abbrev SpP := Addr → Value → Option Addr → List V → Hp → VK → Prop
structure FnP (P : Program) (w : World) (K : PySem.W.Frag) (mg : Str → Option Value) (base : Heap) (k : Nat) (f : Addr) (fd : FuncData) (ps : List Str) (sp : SpP) : Prop where
  len : ∀ a c d vs H Q, sp a c d vs H Q → vs.length = ps.length
  run : ∀ (A : Around) (outer : List Env) (s : Shared) (H : Hp) (args : Args) (us : List Value) (vs : List V) (Q : VK) (p : Addr × Obj) (c : Value) (d : Option Addr), RoomH k A → PinOk outer H s p → Zc c d p.2 → (∃ fs, p.2.data = .fields fs) →
    Env0 P w K mg base A outer s H → BindsTo s fd args (ps.zip us) → Vals vs us → sp p.1 c d vs H Q → codeAny (model P w) A (.call (.ref f) args) (CR CX0 outer P w H s Q E0) s
abbrev cxP (P : Program) (w : World) (K : PySem.W.Frag) (mg : Str → Option Value) (base : Heap) (N : List Str) (qual : Str) (scope : Scope) (f : Addr) (cd : Value) (A : Around) (outer : List Env) (s : Shared) (H : Hp) (p : Addr × Obj) : Cx := cxH CX0 P w K mg base N qual scope f cd A outer s H E0 p
section
variable {P : Program} {w : World} {K : PySem.W.Frag} {mg : Str → Option Value} {base : Heap} {x qual : Str} {st : Stmt} {f : Addr} {fd : FuncData} {N ps : List Str} {k : Nat} {sp : SpP}
theorem Fun.okP (F : Fun K x qual st f fd) (S : FnScope N ps (defScope st)) (len : ∀ a c d vs H Q, sp a c d vs H Q → vs.length = ps.length)
    (hbody : ∀ (cdv : Value) (A : Around) (outer : List Env) (s : Shared) (H : Hp) (vs : List V) (Q : VK) (p : Addr × Obj) (c : Value) (d : Option Addr), Zc c d p.2 → (∃ fs, p.2.data = .fields fs) → RoomH k (A.deeper (envOfC qual (defScope st) s.heap.objs.size f cdv)) → sp p.1 c d vs H Q →
      ∃ t, PSs (cxP P w K mg base N qual (defScope st) f cdv A outer s H p) (defBody st) t ∧ t { nx := fun _ H' => Q .non H', rt := Q } (L2.start N vs) H) : FnP P w K mg base (k + 1) f fd ps sp := by
  obtain ⟨oc, od, kV, doc, pm, an, cdv, ct, osl, rfl, lk, hcd⟩ := F.ex
  refine ⟨len, fun A outer s H args us vs Q p c d hr pin hz hf e0 hb r hsp => ?_⟩
  have inK : K.In s.heap := e0.mod.kin.keeps fun b o e => (e0.bs b o e).1
  have par : ∀ y ∈ ps.zip us, (defScope st).names.lookup y.1 = some .local ∨ ((defScope st).names.lookup y.1 = some .cell ∧ ((cellsFrom (s.heap.objs.size + 1) (defScope st).names []).lookup y.1).isSome = true) := fun y hy =>
    (S.par y.1 (List.of_mem_zip (a := y.1) (b := y.2) hy).1).imp id fun q => ⟨q, PySem.W.cellsFrom_some _ _ _ (.inl q)⟩
  refine codeAny_call_function hr.depth (inK _ _ lk) rfl S.co S.gen rfl (PySem.W.codeRec_of inK hcd) (hb _ _ _ _ (wpAny_newFunctionEnv_cells S.kind par ?_))
  rintro _ rfl s1 x1
  refine ⟨(e0.mod.nolimit.keeps fun b o e => (e0.bs b o e).1).keeps x1.toInCall.keep, codeAny_func ?_⟩
  obtain ⟨t, ht, q⟩ := hbody cdv A outer s H vs Q p c d hz hf (hr.deeper _) hsp
  refine wpAny_mono (ht.run [] s1 _ H _ (inv_startH S pin e0 (len _ _ _ _ _ _ hsp) r x1) q) (fun fl s2 h => ?_) fun _ _ h => h
  match fl, h with
  | .ret u, ⟨v, σ2, H2, J, rv, q2⟩ => exact ⟨v, H2, J.os, J.bare, J.base, J.hok, rv, q2⟩
  | .next, ⟨σ2, H2, J, q2⟩ => exact ⟨V.non, H2, J.os, J.bare, J.base, J.hok, rfl, q2⟩
  | .brk, ⟨_, _, _, q2⟩ => exact q2.elim
  | .cont, ⟨_, _, _, q2⟩ => exact q2.elim
end
/-! ### f(e) in the except suite -/
structure HasP (P : Program) (w : World) (K : PySem.W.Frag) (mg : Str → Option Value) (base : Heap) (x : Str) (k : Nat) (ps : List Str) (sp : SpP) : Prop where
  ex : ∃ f fd, FnP P w K mg base k f fd ps sp ∧ mg x = some (.ref f) ∧ PySem.W.keepIn K (.ref f) = true ∧ Binds K fd ps []
def tCallP (sp : SpP) (a : Addr) (c : Value) (d : Option Addr) (t : TA) : TE := fun σ H Q => t σ H fun vs H1 => sp a c d vs H1 Q
section
variable {X : Cx} {k j : Nat} {ps : List Str} {sp : SpP} {x : Str} {p pos : Pos} {e : Expr} {es : List Expr} {t : TA} {a : Addr} {oe : Obj} {c : Value} {d : Option Addr} {pn : List (Addr × Obj)}
theorem roomS {X : Cx} {k : Nat} {a : Addr} {pn : List (Addr × Obj)} (r : Room k X.A) : RoomH k (X.suite a pn).A := ⟨by have := r.dp; exact this, by have := r.un; exact this⟩
theorem callP (M : HasP X.prog X.w X.K X.mg X.base x k ps sp) (hr : Room j X.A) (hz : Zc c d oe) (hf : ∃ vs, oe.data = .fields vs) (hg : Gl X x) (ha : PA (X.suite a ((a, oe) :: pn)) (e :: es) t) (hk : k ≤ j := by decide) (hdb : (x == ("__debug__" : Str)) = false := by decide)
    (he : starEach (e :: es) X.env = (false, eval e X.env) :: starEach es X.env := by rfl) (hpl : (backTo pos (starEach es X.env)).any (·.1) = false := by rfl) : PE (X.suite a ((a, oe) :: pn)) (.Call (.Name x p) (e :: es) [] pos) (tCallP sp a c d t) := by
  obtain ⟨f, fd, F, hm, kp, hb⟩ := M.ex
  refine ⟨fun pins s σ H Q I h => ?_⟩
  refine wpAny_Call_Name_kw (ld_glob I hg hm ?_ hdb)
  refine PySem.W.callWith_K (h₀ := X.base) I.ok.mod.kin kp (thn (ha.run pos pins s σ H _ I h) fun us s1 ⟨vs, H1, I1, r, q⟩ => ⟨I1.kIn, ?_⟩) he hpl
  have hl : us.length = ps.length := by rw [← r.length]; exact F.len _ _ _ _ _ _ q
  have b := hb s1 us I1.kIn (by rw [List.append_nil]; exact hl)
  rw [List.append_nil] at b
  have P1 := I1.pin (a, oe) (List.mem_append_left _ List.mem_cons_self)
  have hpin : PinOk X.stack H1 s1 (a, oe) := ⟨P1.1, P1.2.1, fun hm => (List.mem_cons.mp (I1.stkSub a hm)).elim P1.2.2.1 P1.2.2.2.1, P1.2.2.2.2⟩
  refine wpAny_call (codeAny_mono (F.run _ X.stack s1 H1 ⟨us, []⟩ us vs Q (a, oe) c d ((roomS hr).mono hk) hpin hz hf I1.env0 b r q) fun r s' hq => ?_)
  match r, hq with
  | .ok (.ret u), hq => exact I1.after hq
  | .ok .next, hq => exact hq.elim
  | .ok .brk, hq => exact hq.elim
  | .ok .cont, hq => exact hq.elim
  | .error e, hq => exact hq.elim
end
/-! ### isinstance of the error -/
structure PinC (K : PySem.W.Frag) (C : Addr) : Prop where
  cl : (PySem.W.clsIn K C).isSome = true
  ga : PySem.W.findIn K (.ref C) "__getattribute__" = some (some (.builtin "BaseException.__getattribute__"))
  gt : PySem.W.findIn K (.ref C) "__getattr__" = some none
  sb : PySem.W.subIn K (.ref C) (.type "BaseException") = some true
  ca : PySem.W.findIn K (.ref C) "__class__" = some (some (.builtin "object.__class__"))
  sp : PySem.W.specialIn K (.builtin "object.__class__") "__get__" = some (some (.builtin "getset_descriptor.__get__"))
  tk : PySem.W.takesIn K (.builtin "object.__class__") = some true
  mr : PySem.W.mroIn K C (.type "object") = some true
def rIsiP (K : PySem.W.Frag) (a C : Addr) (d : Option Addr) : List V → Hp → VK → Prop := fun xs H Q => ∃ (c : V) (u : Value) (b : Bool) (dd : Addr) (fs : List (Str × V)), xs = [.ref a, c] ∧ d = some dd ∧ H dd = some (.xd fs) ∧ ClsV c u ∧ PySem.W.kitOne K (.ref C) u = some b ∧ Q (.bl b) H
def rIsiPT (K : PySem.W.Frag) (a C : Addr) (d : Option Addr) : List V → Hp → VK → Prop := fun xs H Q => ∃ (tp : Addr) (cs : List V) (us : List Value) (b : Bool) (dd : Addr) (fs : List (Str × V)), xs = [.ref a, .ref tp] ∧ d = some dd ∧ H dd = some (.xd fs) ∧ H tp = some (.tup cs) ∧ Paired ClsV cs us ∧
  PySem.W.kitAny K (.ref C) us = some b ∧ Q (.bl b) H
section
variable {X : Cx} {a C : Addr} {oe : Obj} {d : Option Addr}
theorem pin_at {pins : List (Addr × Obj)} {σ : L2.St} {H : Hp} {s : Shared} (hp : (a, oe) ∈ X.pn) (hz : Zc (.ref C) d oe) (hf : ∃ vs, oe.data = .fields vs) (I : Inv X pins σ H s) {dd : Addr} {fs : List (Str × V)} (ed : d = some dd) (e : H dd = some (.xd fs)) :
    ∃ od, PySem.W.InstAt s.heap a oe C (some od) := by
  subst ed
  obtain ⟨mA, hns, hr⟩ := (show ObjOk X.prog X.w H s.heap dd (.xd fs) from I.hok dd _ e)
  obtain ⟨od, ho, hl⟩ := lookIn_ns hns
  obtain ⟨vs, hd⟩ := hf
  refine ⟨od, (I.pin (a, oe) (List.mem_append_left _ hp)).1, hz.1, ?_, ?_⟩
  · unfold PySem.W.notCls
    rw [hd]
  · rw [hz.2]
    exact ho
theorem call_isiP {K : PySem.W.Frag} (hK : X.K = K) (hp : (a, oe) ∈ X.pn) (hz : Zc (.ref C) d oe) (hf : ∃ vs, oe.data = .fields vs) (T : PinC K C) : CallR X (.builtin "isinstance") (rIsiP K a C d) := by
  subst hK
  intro pins s σ H xs us Q I r h
  obtain ⟨c, u, b, dd, fs, rfl, ed, e, k, kb, q⟩ := h
  obtain ⟨u1, u2, rfl, r1, r2⟩ := vals2 r
  obtain rfl : u1 = Value.ref a := r1
  have e2 := k.eq r2
  subst e2
  obtain ⟨od, J⟩ := pin_at hp hz hf I ed e
  exact PySem.W.kia_one (PySem.W.kitx_exc T.cl T.ga T.gt T.sb T.ca T.sp T.tk T.mr) I.kIn J kb (fun z => nomatch z) fun tk => ⟨.bl b, H, I.tok tk, rfl, q⟩
theorem call_isiPT {K : PySem.W.Frag} (hK : X.K = K) (hp : (a, oe) ∈ X.pn) (hz : Zc (.ref C) d oe) (hf : ∃ vs, oe.data = .fields vs) (T : PinC K C) : CallR X (.builtin "isinstance") (rIsiPT K a C d) := by
  subst hK
  intro pins s σ H xs us Q I r h
  obtain ⟨tp, cs, ws, b, dd, fs, rfl, ed, e, hT, k, kb, q⟩ := h
  obtain ⟨u1, u2, rfl, r1, r2⟩ := vals2 r
  obtain rfl : u1 = Value.ref a := r1
  obtain rfl : u2 = Value.ref tp := r2
  obtain ⟨od, J⟩ := pin_at hp hz hf I ed e
  obtain ⟨_, its, rv, o, h1, h2, n, h3⟩ := (show ObjOk X.prog X.w H s.heap tp (.tup cs) from I.hok tp _ hT)
  have e3 := ClsV.all k rv
  subst e3
  obtain ⟨oc, od, dt, sl⟩ := o
  simp only at h2 h3
  subst h2 h3
  exact PySem.W.kia_tup (PySem.W.kitx_exc T.cl T.ga T.gt T.sb T.ca T.sp T.tk T.mr) I.kIn J h1 kb (fun z => nomatch z) fun tk => ⟨.bl b, H, I.tok tk, rfl, q⟩
end
/-! ### l.count(x), flat items -/
def rCntF (K : PySem.W.Frag) : V → List V → Hp → VK → Prop := fun x xs H Q => ∃ (p : Addr) (ys : List V) (y : V), x = .ref p ∧ xs = [y] ∧ SqL K H p ys ∧ flatV y = true ∧ ys.all flatV = true ∧ Q (.int ((ys.countP fun z => eqV z y : Nat) : Int)) H
theorem countP_eqU {y : V} : ∀ {ys : List V} {us : List Value}, Vals ys us → ys.all flatV = true → us.countP (eqU y) = ys.countP fun z => eqV z y
  | _, _, .nil, _ => rfl
  | z :: ys, u :: us, .cons r t, f => by
    rw [List.all_cons, Bool.and_eq_true] at f
    rw [List.countP_cons, List.countP_cons, countP_eqU t f.2, eqU_of r f.1]
theorem mt_count {X : Cx} {K : PySem.W.Frag} (hK : X.K = K) : MtR X "list.count" (rCntF K) := by
  subst hK
  intro pins s σ H x xs v us Q I rx rxs h
  obtain ⟨p, ys, y, rfl, rfl, hs, fy, fys, q⟩ := h
  obtain rfl : v = Value.ref p := rx
  obtain ⟨uy, rfl, ry⟩ := rxs.one
  obtain ⟨its, rv, ⟨⟨cls, dd, data, sl⟩, n, ho, hc, hdn, hd⟩, hlen⟩ := I.list hs
  simp only at hc hd
  subst hc hd
  refine call_meets PySem.F.slot_list_count ⟨_, ho, rfl⟩ PySem.F.entry_list_count (PySem.F.args_list_count_2 _ _)
    (SeqAt.list_countAt p its.toArray n dd sl uy (eqU y)) ⟨ho, fun u' hu' => mem_eqAt ry fy rv fys u' (by simpa using hu'), ?_⟩
  refine ⟨.int ((ys.countP fun z => eqV z y : Nat) : Int), H, I.tok _, ⟨s.toks, ?_⟩, q⟩
  rw [← countP_eqU rv fys]
theorem mt_indexK {X : Cx} {K : PySem.W.Frag} (hK : X.K = K) : MtR X "list.index" (rIndex K) := hK ▸ mt_index
theorem _root_.L2H.RoomH.units {k : Nat} {A : Around} (r : RoomH k A) : A.units + 64 < cLine := by have := r.un; omega
section
variable {P : Program} {w : World} {K : PySem.W.Frag} {mg : Str → Option Value} {base : Heap} {N : List Str} {qual : Str} {scope : Scope} {f : Addr} {cd : Value} {A : Around} {outer : List Env} {s : Shared} {H : Hp} {p : Addr × Obj}
theorem cxPK : (cxH CX0 P w K mg base N qual scope f cd A outer s H E0 p).K = K := rfl
end
/-- a class that isinstance is asked of -/
structure ErrC (K : PySem.W.Frag) (mg : Str → Option Value) (cW : Addr) (x : Str) (b : Bool) (c : Addr) : Prop where
  gl : mg x = some (.ref c)
  ki : PySem.W.kitOne K (.ref cW) (.ref c) = some b
end Fd

namespace Fd
open PySem PySem.Spec PyProof.Rows L2
/-! ### except (A, B, ..) as e -/
/-- the class or classes that an except clause names -/
def TestOk (X : Cx) (t : Expr) (cs : List Value) : Prop := ∀ (pins : List (Addr × Obj)) (σ : L2.St) (H : Hp) (s : Shared) (a : Addr) (oe : Obj) (cls : Value) (b : Bool) (Q : Bool → Shared → Prop) (E : Value → Shared → Prop), Inv (X.suite a ((a, oe) :: (X.pn ++ pins))) [] σ H s → X.K.In s.heap →
  PySem.W.Looks (model X.prog X.w) s.heap (typeOf (.ref a)) cls → PySem.W.exmAny X.K cls cs = some b → (∀ h', (∀ q o, s.heap.get? q = some o → h'.get? q = some o) → Q b { s with heap := h' }) →
    wpAny (model X.prog X.w) (X.A.mark (some (.ref a))) (eval t X.env) (fun c s1 => wpAny (model X.prog X.w) (X.A.mark (some (.ref a))) (excMatches (.ref a) c) Q E s1) E s
section
variable {X : Cx} {a : Addr} {oe : Obj} {pins : List (Addr × Obj)} {σ : L2.St} {H : Hp} {s : Shared} {x : Str} {c : Value} {np : Pos}
theorem test_nm {Q E : Value → Shared → Prop} (hc : Names X x c) (S : Inv (X.suite a ((a, oe) :: (X.pn ++ pins))) [] σ H s) (q : Q c s) : wpAny (model X.prog X.w) (X.A.mark (some (.ref a))) (eval (.Name x np) X.env) Q E s := by
  obtain ⟨hg, hdbg, hm | ⟨hm, hv, hnn⟩⟩ := hc
  · exact ld_glob (X := X.suite a ((a, oe) :: (X.pn ++ pins))) S hg hm q hdbg
  · exact ld_blt (X := X.suite a ((a, oe) :: (X.pn ++ pins))) S hg hm hv q hnn hdbg
end
section
variable {X : Cx} {x1 x2 x3 x4 : Str} {c1 c2 c3 c4 : Value} {p1 p2 p3 p4 tpos : Pos} {kk : Nat}
theorem test_t2 (n1 : Names X x1 c1) (n2 : Names X x2 c2) : TestOk X (.Tuple [.Name x1 p1, .Name x2 p2] kk tpos) [c1, c2] := fun pins σ H s a oe cls b Q E S KI LT he q => by
  refine wpAny_Tuple ?_
  refine wpAny_items_cons (test_nm n1 S ?_)
  refine wpAny_items_cons (test_nm n2 S ?_)
  refine wpAny_items_nil ⟨by size_fits, ?_⟩
  have kp : ∀ q o, s.heap.get? q = some o → (s.heap.push { cls := .type "tuple", data := .seq [c1, c2].toArray }).get? q = some o := fun _ _ z => Heap.get?_push_of_some _ z
  exact (PySem.W.exm_tup2 (KI.keeps kp) (LT.keeps kp) (Heap.get?_push_size s.heap rfl) he).here (q _ kp)
theorem test_t3 (n1 : Names X x1 c1) (n2 : Names X x2 c2) (n3 : Names X x3 c3) : TestOk X (.Tuple [.Name x1 p1, .Name x2 p2, .Name x3 p3] kk tpos) [c1, c2, c3] := fun pins σ H s a oe cls b Q E S KI LT he q => by
  refine wpAny_Tuple ?_
  refine wpAny_items_cons (test_nm n1 S ?_)
  refine wpAny_items_cons (test_nm n2 S ?_)
  refine wpAny_items_cons (test_nm n3 S ?_)
  refine wpAny_items_nil ⟨by size_fits, ?_⟩
  have kp : ∀ q o, s.heap.get? q = some o → (s.heap.push { cls := .type "tuple", data := .seq [c1, c2, c3].toArray }).get? q = some o := fun _ _ z => Heap.get?_push_of_some _ z
  exact (PySem.W.exm_tup3 (KI.keeps kp) (LT.keeps kp) (Heap.get?_push_size s.heap rfl) he).here (q _ kp)
theorem test_t4 (n1 : Names X x1 c1) (n2 : Names X x2 c2) (n3 : Names X x3 c3) (n4 : Names X x4 c4) : TestOk X (.Tuple [.Name x1 p1, .Name x2 p2, .Name x3 p3, .Name x4 p4] kk tpos) [c1, c2, c3, c4] := fun pins σ H s a oe cls b Q E S KI LT he q => by
  refine wpAny_Tuple ?_
  refine wpAny_items_cons (test_nm n1 S ?_)
  refine wpAny_items_cons (test_nm n2 S ?_)
  refine wpAny_items_cons (test_nm n3 S ?_)
  refine wpAny_items_cons (test_nm n4 S ?_)
  refine wpAny_items_nil ⟨by size_fits, ?_⟩
  have kp : ∀ q o, s.heap.get? q = some o → (s.heap.push { cls := .type "tuple", data := .seq [c1, c2, c3, c4].toArray }).get? q = some o := fun _ _ z => Heap.get?_push_of_some _ z
  exact (PySem.W.exm_tup4 (KI.keeps kp) (LT.keeps kp) (Heap.get?_push_size s.heap rfl) he).here (q _ kp)
theorem test_t1 (n1 : Names X x1 c1) : TestOk X (.Name x1 p1) [c1] := fun pins σ H s a oe cls b Q E S KI LT he q => by
  obtain ⟨b1, d1, e1, e2, e3⟩ := PySem.W.exmAny_cons he
  have w : some false = some d1 := e2
  cases w
  rw [Bool.or_false] at e3
  subst e3
  exact test_nm n1 S ((PySem.W.exm_one KI LT e1).here (q _ fun _ _ z => z))
end
section
variable {B : Heap} {l : List Env} {e : Addr} {Z : Obj → Prop} {h h' : Heap}
theorem flyZ_keeps (R : HandSPX.FlyingZ B l e Z h) (k : ∀ b o, h.get? b = some o → h'.get? b = some o) : HandSPX.FlyingZ B l e Z h' := by
  obtain ⟨f1, f2, f3, oe, vs, T, oT, ts, he, hz, hd, h1, hn, hne, hT, hdT, h3⟩ := R
  exact ⟨fun b o q => k b o (f1 b o q), f2, f3.of_keeps fun b o q _ => ⟨o, k b o q, rfl⟩, oe, vs, T, oT, ts, k _ _ he, hz, hd, h1, hn, hne, k _ _ hT, hdT, h3⟩
end
/-- several clauses, each with one or more classes, with or without a name: what they wish of an exception of the body -/
structure Clause where
  cs : List Value
  i : Option Nat
  ts : Addr → Value → Option Addr → TS
def endN (D : Ends) : Option Nat → Ends
  | none => D
  | some i => { nx := fun σ' H' => D.nx (σ'.set i none) H', rt := D.rt, bk := fun σ' H' => D.bk (σ'.set i none) H', ct := fun σ' H' => D.ct (σ'.set i none) H' }
def setN (σ : L2.St) (a : Addr) : Option Nat → L2.St
  | none => σ
  | some i => σ.set i (some (.ref a))
def wCl (K : PySem.W.Frag) (Wout : WX) (D : Ends) : List Clause → WX
  | [] => Wout
  | c :: r => fun cls d σ H => ∃ b, PySem.W.exmAny K cls c.cs = some b ∧ (b = true → ∀ a, H a = none → c.ts a cls d (endN D c.i) (setN σ a c.i) H) ∧ (b = false → wCl K Wout D r cls d σ H)
inductive ClsOk (X : Cx) : List ExceptHandler → List Clause → Prop
  | nil : ClsOk X [] []
  | cons {t : Expr} {cs : List Value} {ts : Addr → Value → Option Addr → TS} {b₀ : Stmt} {suite : List Stmt} {pos' : Pos} {hds : List ExceptHandler} {l : List Clause} (hc : TestOk X t cs)
      (hsu : ∀ (a : Addr) (oe : Obj) (cls : Value) (d : Option Addr) (pn : List (Addr × Obj)), Zc cls d oe → (∃ vs, oe.data = .fields vs) → PSs (X.suite a ((a, oe) :: pn)) (b₀ :: suite) (ts a cls d)) (r : ClsOk X hds l) :
      ClsOk X (.ExceptHandler (some t) none (b₀ :: suite) pos' :: hds) (⟨cs, none, ts⟩ :: l)
  | consAs {t : Expr} {cs : List Value} {i : Nat} {n : Str} {ts : Addr → Value → Option Addr → TS} {b₀ : Stmt} {suite : List Stmt} {pos' : Pos} {hds : List ExceptHandler} {l : List Clause} (hi : X.N[i]? = some n) (hln : X.env.kindOf n = some .local) (hc : TestOk X t cs)
      (hsu : ∀ (a : Addr) (oe : Obj) (cls : Value) (d : Option Addr) (pn : List (Addr × Obj)), Zc cls d oe → (∃ vs, oe.data = .fields vs) → PSs (X.suite a ((a, oe) :: pn)) (b₀ :: suite) (ts a cls d)) (r : ClsOk X hds l) :
      ClsOk X (.ExceptHandler (some t) (some n) (b₀ :: suite) pos' :: hds) (⟨cs, some i, ts⟩ :: l)
section
variable {X : Cx} {body : List Stmt} {h₀ : ExceptHandler} {hds : List ExceptHandler} {l : List Clause} {pos : Pos} {tb : WX → TS} {Wout : WX}
theorem ps_try_cl (hs : X.stack = X.env :: X.outer) (hf : X.env.frame = some X.env.locals) (hN : X.N.Nodup) (tk : Takes X Wout)
    (hb : ∀ (W : WX) (pn : List (Addr × Obj)) (xe : Value → Shared → Prop), Takes (X.tr pn xe) W → PassesOwn (model X.prog X.w) X.A X.env xe → PSs (X.tr pn xe) body (tb W))
    (hh : ClsOk X (h₀ :: hds) l) : PS X (.Try body (h₀ :: hds) [] [] pos) (fun D σ H => tb (wCl X.K Wout D l) D σ H) := by
  refine ⟨fun pins s σ H D I h => ?_⟩
  have ok := I.ok
  have hfr : X.A.frames = some (X.env :: X.outer) := by rw [ok.frames, hs]
  refine wpAny_Try_except ?_
  refine wpAny_mono ((hb (wCl X.K Wout D l) (X.pn ++ pins) (fun e s₁ => wpAny (model X.prog X.w) X.A (noteFrame e X.env) (fun _ s₂ => wpAny (model X.prog X.w) X.A (setFlight e none) (fun _ s₃ =>
    wpAny (model X.prog X.w) X.A (handleBy e X.env (h₀ :: hds)) (SP X pins D) X.xe s₃) X.xe s₂) X.xe s₁) (fun u s' xx => ?_) PassesOwn.looking).run [] s σ H D (I.toTry _) h) (fun f s1 hsp => ?_) (fun e s1 he => he)
  · -- the catch
    obtain ⟨a, B, sI, pins', σ', H', cls, d, rfl, J', nb, up, sky, na, os, ag, w⟩ := xx
    have J : Inv X pins σ' H' sI := J'.ofTry ok
    have sky' : Sky B (X.env :: X.outer) a (Zc cls d) X.env.locals s'.heap := by rw [← hs]; exact sky
    show wpAny (model X.prog X.w) X.A (noteFrame (.ref a) X.env) _ _ _
    refine Sky.land Zc.steady hfr hf sky' fun h3 fl3 up3 => ?_
    have go : ∀ {hds' : List ExceptHandler} {l' : List Clause}, ClsOk X hds' l' → ∀ (h3 : Heap), HandSPX.FlyingZ B (X.env :: X.outer) a (Zc cls d) h3 → sI.heap.UpToSlots h3 → wCl X.K Wout D l' cls d σ' H' →
        wpAny (model X.prog X.w) X.A (handleBy (.ref a) X.env hds') (SP X pins D) X.xe { s' with heap := h3 } := by
      intro hds' l' hk
      have common : ∀ (h3 : Heap), HandSPX.FlyingZ B (X.env :: X.outer) a (Zc cls d) h3 → sI.heap.UpToSlots h3 → ∃ oe3, h3.get? a = some oe3 ∧ Zc cls d oe3 ∧ (∃ vs, oe3.data = .fields vs) ∧ Inv X pins σ' H' { s' with heap := h3 } ∧ Inv (X.suite a ((a, oe3) :: (X.pn ++ pins))) [] σ' H' { s' with heap := h3 } := by
        intro h3 fl3 up3
        have J3 : Inv X pins σ' H' { s' with heap := h3 } := J.landed nb fl3.1 up3 os ag
        obtain ⟨oe3, vs3, he3, hz3, hd3⟩ := fl3.there
        have nfr : a ∉ frs (X.env :: X.outer) := fun hm => by
          obtain ⟨_, o', e', hnf⟩ := fl3.2.2.1.mem hm
          rw [he3] at e'; cases e'
          exact hnf _ hd3
        have nL : a ≠ X.env.locals := fun z => nfr (List.mem_filterMap.mpr ⟨X.env, List.mem_cons_self, by rw [hf, z]⟩)
        have nF : a ∉ X.fs := fun hm => by
          obtain ⟨e, he, q⟩ := List.mem_filterMap.mp hm
          exact nfr (List.mem_filterMap.mpr ⟨e, List.mem_cons_of_mem _ he, q⟩)
        exact ⟨oe3, he3, hz3, ⟨_, hd3⟩, J3, J3.suite he3 hd3 na nL nF⟩
      induction hk with
      | nil =>
        intro h3 fl3 up3 w
        refine wpAny_handleBy_nil ?_
        obtain ⟨k1, k2, k3, oe, vs, T, oT, ts', he, hz, hd, h1, hr⟩ := id fl3
        unfold PySem.passOn
        refine wpAny_bind (wpAny_field he hd h1 ?_)
        rw [if_neg (show ¬ ((Value.ref T == Value.none) = true) from by simp)]
        have fin : wpAny (model X.prog X.w) X.A (setFlight (.ref a) X.env.frame) (fun _ s4 => wpAny (model X.prog X.w) X.A (throw (.ref a) : Sem Flow) (SP X pins D) X.xe s4) X.xe { s' with heap := h3 } := by
          rw [hf]
          refine HandSPX.setFlight_upZ fl3 fun h4 hh4 up4 => wpAny_throw (tk _ _ ?_)
          exact ⟨a, B, sI, pins, σ', H', cls, d, rfl, J, nb, up3.trans up4, .inr (.inr (by rw [hs]; exact hh4)), na, os, ag, w⟩
        first
          | exact wpAny_bind (wpAny_pure (wpAny_bind fin))
          | exact wpAny_bind fin
      | @cons t cs ts b₀ suite pos' hds2 l2 hc hsu r ih =>
        intro h3 fl3 up3 w
        obtain ⟨b, hb1, hyes, hno⟩ := w
        obtain ⟨oe3, he3, hz3, hd3, J3, S3⟩ := common h3 fl3 up3
        refine wpAny_handleBy_cons (codeAny_handlers_test ?_) (by intro q; cases q)
        have LT : PySem.W.Looks (model X.prog X.w) h3 (typeOf (.ref a)) cls := fun A Q E s k q => wpAny_typeOf_ref (k _ _ he3) (by rw [hz3.1]; exact q)
        refine hc pins σ' H' { s' with heap := h3 } a oe3 cls b _ _ S3 J3.kIn LT hb1 fun h5 kp => ?_
        have fl5 := flyZ_keeps fl3 kp
        have up5 := up3.trans (Heap.UpToSlots.of_keeps kp)
        cases b with
        | true =>
          refine codeAny_handlers_suite ?_
          refine HandSPX.lands_againZ fl5 fun h4 fl4 up4 => ?_
          obtain ⟨oe4, he4, hz4, hd4, J4, S4⟩ := common h4 fl4 (up5.trans up4)
          refine wpAny_mono ((hsu a oe4 cls d (X.pn ++ pins) hz4 hd4).run [] _ _ H' _ S4 (hyes rfl a na)) (fun f s6 hsp => ?_) (fun _ _ z => False.elim z)
          cases f with
          | next =>
            obtain ⟨σ6, H6, S6, q6⟩ := hsp
            exact ⟨_, _, S6.unsuite ok, q6⟩
          | brk =>
            obtain ⟨σ6, H6, S6, q6⟩ := hsp
            exact ⟨_, _, S6.unsuite ok, q6⟩
          | cont =>
            obtain ⟨σ6, H6, S6, q6⟩ := hsp
            exact ⟨_, _, S6.unsuite ok, q6⟩
          | ret u =>
            obtain ⟨v6, σ6, H6, S6, r6, q6⟩ := hsp
            exact ⟨_, _, _, S6.unsuite ok, r6, q6⟩
        | false =>
          show wpAny _ X.A (handleBy (.ref a) X.env hds2) _ _ _
          exact ih h5 fl5 up5 (hno rfl)
      | @consAs t cs i n ts b₀ suite pos' hds2 l2 hi hln hc hsu r ih =>
        intro h3 fl3 up3 w
        obtain ⟨b, hb1, hyes, hno⟩ := w
        obtain ⟨oe3, he3, hz3, hd3, J3, S3⟩ := common h3 fl3 up3
        have hloc : Loc X.env.scope n := .inl hln
        refine wpAny_handleBy_cons (codeAny_handlers_test ?_) (by intro q; cases q)
        have LT : PySem.W.Looks (model X.prog X.w) h3 (typeOf (.ref a)) cls := fun A Q E s k q => wpAny_typeOf_ref (k _ _ he3) (by rw [hz3.1]; exact q)
        refine hc pins σ' H' { s' with heap := h3 } a oe3 cls b _ _ S3 J3.kIn LT hb1 fun h5 kp => ?_
        have fl5 := flyZ_keeps fl3 kp
        have up5 := up3.trans (Heap.UpToSlots.of_keeps kp)
        cases b with
        | true =>
          refine codeAny_handlers_suite_as ?_
          refine HandSPX.lands_againZ fl5 fun h4 fl4 up4 => ?_
          obtain ⟨oe4, he4, hz4, hd4, J4, S4⟩ := common h4 fl4 (up5.trans up4)
          refine store_ok (X := X.suite a ((a, oe4) :: (X.pn ++ pins))) (v := .ref a) S4 hN hi hloc rfl (fun s5 S5 => ?_) (.inr hln)
          refine wpAny_mono ((hsu a oe4 cls d (X.pn ++ pins) hz4 hd4).run [] s5 _ H' _ S5 (hyes rfl a na)) (fun f s6 hsp => ?_) (fun _ _ z => False.elim z)
          have end_ : ∀ {σ6 : L2.St} {H6 : Hp} {Q : Shared → Prop}, Inv (X.suite a ((a, oe4) :: (X.pn ++ pins))) [] σ6 H6 s6 → (∀ s7, Inv X pins (σ6.set i none) H6 s7 → Q s7) →
              wpAny (model X.prog X.w) X.A (do bindName X.env n .none; unbindBehindTheSuite X.env n pos') (fun _ s7 => Q s7) X.xe s6 := fun {σ6 H6 Q} S6 hq => gone_ok (S6.unsuite ok) hN hi hln hq
          cases f with
          | next =>
            obtain ⟨σ6, H6, S6, q6⟩ := hsp
            exact end_ S6 fun s7 J7 => ⟨_, _, J7, q6⟩
          | brk =>
            obtain ⟨σ6, H6, S6, q6⟩ := hsp
            exact end_ S6 fun s7 J7 => ⟨_, _, J7, q6⟩
          | cont =>
            obtain ⟨σ6, H6, S6, q6⟩ := hsp
            exact end_ S6 fun s7 J7 => ⟨_, _, J7, q6⟩
          | ret u =>
            obtain ⟨v6, σ6, H6, S6, r6, q6⟩ := hsp
            exact end_ S6 fun s7 J7 => ⟨_, _, _, J7, r6, q6⟩
        | false =>
          show wpAny _ X.A (handleBy (.ref a) X.env hds2) _ _ _
          exact ih h5 fl5 up5 (hno rfl)
    exact go hh h3 fl3 (up.trans up3) w
  · cases f with
    | next =>
      obtain ⟨σ', H', J', q⟩ := hsp
      exact wpAny_execs_nil ⟨σ', H', J'.ofTry ok, q⟩
    | brk =>
      obtain ⟨σ', H', J', q⟩ := hsp
      exact ⟨σ', H', J'.ofTry ok, q⟩
    | cont =>
      obtain ⟨σ', H', J', q⟩ := hsp
      exact ⟨σ', H', J'.ofTry ok, q⟩
    | ret u =>
      obtain ⟨v, σ', H', J', r, q⟩ := hsp
      exact ⟨v, σ', H', J'.ofTry ok, r, q⟩
end
end Fd

namespace Fd
open PySem PySem.Spec PyProof.Rows L2 L2H
/-! ### isinstance of an error that has no dict (an own class without an __init__) -/
def rIsiP0 (K : PySem.W.Frag) (a C : Addr) (d : Option Addr) : List V → Hp → VK → Prop := fun xs H Q => ∃ (c : V) (u : Value) (b : Bool), xs = [.ref a, c] ∧ d = none ∧ ClsV c u ∧ PySem.W.kitOne K (.ref C) u = some b ∧ Q (.bl b) H
def rIsiPT0 (K : PySem.W.Frag) (a C : Addr) (d : Option Addr) : List V → Hp → VK → Prop := fun xs H Q => ∃ (tp : Addr) (cs : List V) (us : List Value) (b : Bool), xs = [.ref a, .ref tp] ∧ d = none ∧ H tp = some (.tup cs) ∧ Paired ClsV cs us ∧
  PySem.W.kitAny K (.ref C) us = some b ∧ Q (.bl b) H
section
variable {X : Cx} {a C : Addr} {oe : Obj} {d : Option Addr}
theorem pin_at0 {pins : List (Addr × Obj)} {σ : L2.St} {H : Hp} {s : Shared} (hp : (a, oe) ∈ X.pn) (hz : Zc (.ref C) d oe) (hf : ∃ vs, oe.data = .fields vs) (I : Inv X pins σ H s) (ed : d = none) : PySem.W.InstAt s.heap a oe C none := by
  subst ed
  obtain ⟨vs, hd⟩ := hf
  refine ⟨(I.pin (a, oe) (List.mem_append_left _ hp)).1, hz.1, ?_, ?_⟩
  · unfold PySem.W.notCls
    rw [hd]
  · rw [hz.2]
    exact True.intro
theorem call_isiP0 {K : PySem.W.Frag} (hK : X.K = K) (hp : (a, oe) ∈ X.pn) (hz : Zc (.ref C) d oe) (hf : ∃ vs, oe.data = .fields vs) (T : PinC K C) : CallR X (.builtin "isinstance") (rIsiP0 K a C d) := by
  subst hK
  intro pins s σ H xs us Q I r h
  obtain ⟨c, u, b, rfl, ed, k, kb, q⟩ := h
  obtain ⟨u1, u2, rfl, r1, r2⟩ := vals2 r
  obtain rfl : u1 = Value.ref a := r1
  have e2 := k.eq r2
  subst e2
  exact PySem.W.kia_one (PySem.W.kitx_exc T.cl T.ga T.gt T.sb T.ca T.sp T.tk T.mr) I.kIn (pin_at0 hp hz hf I ed) kb (fun z => nomatch z) fun tk => ⟨.bl b, H, I.tok tk, rfl, q⟩
theorem call_isiPT0 {K : PySem.W.Frag} (hK : X.K = K) (hp : (a, oe) ∈ X.pn) (hz : Zc (.ref C) d oe) (hf : ∃ vs, oe.data = .fields vs) (T : PinC K C) : CallR X (.builtin "isinstance") (rIsiPT0 K a C d) := by
  subst hK
  intro pins s σ H xs us Q I r h
  obtain ⟨tp, cs, ws, b, rfl, ed, hT, k, kb, q⟩ := h
  obtain ⟨u1, u2, rfl, r1, r2⟩ := vals2 r
  obtain rfl : u1 = Value.ref a := r1
  obtain rfl : u2 = Value.ref tp := r2
  obtain ⟨_, its, rv, o, h1, h2, n, h3⟩ := (show ObjOk X.prog X.w H s.heap tp (.tup cs) from I.hok tp _ hT)
  have e3 := ClsV.all k rv
  subst e3
  obtain ⟨oc, od, dt, sl⟩ := o
  simp only at h2 h3
  subst h2 h3
  exact PySem.W.kia_tup (PySem.W.kitx_exc T.cl T.ga T.gt T.sb T.ca T.sp T.tk T.mr) I.kIn (pin_at0 hp hz hf I ed) h1 kb (fun z => nomatch z) fun tk => ⟨.bl b, H, I.tok tk, rfl, q⟩
end
end Fd

namespace Fd
open PySem PySem.Spec PyProof.Rows L2
/-! ### C(e, ..) where keyword-only parameters are left out -/
structure HasID (P : Program) (w : World) (K : PySem.W.Frag) (mg : Str → Option Value) (base : Heap) (x : Str) (C : Addr) (k : Nat) (ps : List Str) (dvs : List V) (sp : Sp) : Prop where
  ex : ∃ f fd ds, FnOk P w K mg base CX0 k f fd ps sp ∧ Mk K C f ∧ Vals dvs ds ∧ Binds K fd ps ds ∧ mg x = some (.ref C)
section
variable {X : Cx} {C : Addr} {k j : Nat} {ps : List Str} {sp : Sp} {x : Str} {p pos : Pos} {e : Expr} {es : List Expr} {dvs : List V} {t : TA}
theorem makeD (M : HasID X.prog X.w X.K X.mg X.base x C k ps dvs sp) (hr : Room j X.A) (hg : Gl X x) (ha : PA X (e :: es) t) (hk : k + 1 ≤ j := by decide) (hdb : (x == ("__debug__" : Str)) = false := by decide)
    (he : starEach (e :: es) X.env = (false, eval e X.env) :: starEach es X.env := by rfl) (hpl : (backTo pos (starEach es X.env)).any (·.1) = false := by rfl) :
    PE X (.Call (.Name x p) (e :: es) [] pos) (tMake C sp dvs E0 t) := by
  obtain ⟨f, fd, ds, F, mk, hd, hb, hm⟩ := M.ex
  exact pe_make mk F (hr.mono hk) hg hm hb hd pass0 ha hdb he hpl
end
end Fd

namespace Fd
open PySem PySem.Spec PyProof.Rows L2
/-! ### != by an own __eq__ (Python's own __ne__), == by it, either answer -/
structure NeC (K : PySem.W.Frag) (C f : Addr) : Prop where
  ne : PySem.W.findIn K (.ref C) "__ne__" = some (some (.builtin "object.__ne__"))
  eq : PySem.W.findIn K (.ref C) "__eq__" = some (some (.ref f))
  fn : PySem.W.isFn K (.ref f) = true
  ob : PySem.W.mroIn K C (.type "object") = some true
section
open PySem.W
variable {prog : Program} {w : World} {A : Around} {E : Value → Shared → Prop} {s : Shared} {K : Frag} {x y C f : Addr} {ox oy : Obj} {od od' : Option Obj} {Q : Value → Shared → Prop}
theorem call_objNe (T : NeC K C f) (hu : A.in1.units < cLine) (X : K.In s.heap) (I : InstAt s.heap x ox C od)
    (h : wpAny (model prog w) A.in1 (call (.ref f) [.ref x, .ref y]) (fun v s' => ∃ c, v = .bool c ∧ Q (.bool (!c)) s') E s) : wpAny (model prog w) A (call (.builtin "object.__ne__") [.ref x, .ref y]) Q E s := by
  refine wpAny_call (codeAny_call_builtin PySem.F.slot_object_ne.plain PySem.F.cmpEntry_ne (check_slot (i := "object.__ne__") (owner := "object") (n := "__ne__") PySem.F.cmpKind_ne PySem.F.cmpSplit_ne (I.type.andThen (looks_mroIn X T.ob)) (PySem.F.cmpArgs_ne _ _) ?_))
  unfold Builtin.«object.__ne__»
  refine wpAny_bind (m := slotArgs "__ne__" 1 _) (wpAny_pure ?_)
  refine wpAny_bind (m := cRoomFor _ _) (wpAny_cRoomFor hu ?_)
  refine wpAny_bind (m := callSpecialIfBound? (.ref x) (Str.ofString "__eq__") _) (ifBound_K X I T.eq T.fn (wpAny_mono h (fun r s' hq => ?_) fun _ _ y => y))
  obtain ⟨c, rfl, q⟩ := hq
  exact wpAny_bind (m := truthy (.bool c)) (wpAny_truthy_bool (wpAny_pure q))
theorem rich_ne (T : NeC K C f) (hu : A.units + 1 < cLine) (X : K.In s.heap) (I : InstAt s.heap x ox C od) (J : InstAt s.heap y oy C od')
    (h : wpAny (model prog w) A.in1 (call (.ref f) [.ref x, .ref y]) (fun v s' => ∃ c, v = .bool c ∧ Q (.bool (!c)) s') E s) : wpAny (model prog w) A (richCompare .NotEq (.ref x) (.ref y)) Q E s := by
  have one : wpAny (model prog w) A (tryCompare (.ref x) "__ne__" (.ref y)) (fun r s' => ∃ v, r = some v ∧ Q v s') E s := by
    unfold tryCompare
    refine wpAny_bind (m := callSpecialIfBound? (.ref x) (Str.ofString "__ne__") _) ?_
    simp only [callSpecialIfBound?, bindSpecialIfBound?]
    refine wpAny_holding (wpAny_bind (wpAny_bind (wpAny_bind (I.type.here ((looks_findIn X T.ne).here ?_)))))
    refine wpAny_bind (wpAny_askSetting (wpAny_ite ?_))
    have fin : ∀ {R : Option Value → Shared → Prop}, (∀ c s', Q (.bool (!c)) s' → R (some (.bool (!c))) s') → wpAny (model prog w) A (call (.builtin "object.__ne__") ([.ref x] ++ [.ref y]) >>= fun v => pure (some v)) R E s := fun hR =>
      wpAny_bind (call_objNe T hu X I (wpAny_mono h (fun v s' ⟨c, e, q⟩ => ⟨c, e, wpAny_pure (hR c s' q)⟩) fun _ _ h' => h'))
    have bnd : ∀ self : Value, bindSpecial (.builtin "object.__ne__") self = pure (.builtin "object.__ne__", [self]) := PySem.F.slot_object_ne.bind
    split
    · exact wpAny_bind ((Looks.of_pure (bnd _)).here (wpAny_pure (by exact fin fun c s' q => wpAny_pure ⟨_, rfl, q⟩)))
    · exact wpAny_tryCatch (wpAny_bind ((Looks.of_pure (bnd _)).here (wpAny_pure (by exact fin fun c s' q => wpAny_pure ⟨_, rfl, q⟩))))
  unfold richCompare
  simp only [oneThing_ref]
  refine wpAny_holding (wpAny_bind (wpAny_cRoomFor (Nat.lt_of_succ_lt hu) ?_))
  refine wpAny_bind (I.type.here (wpAny_bind (J.type.here ?_)))
  split
  · rename_i q
    simp at q
  · refine wpAny_bind (wpAny_pure ?_)
    simp only [Bool.false_eq_true, if_false]
    refine wpAny_bind (wpAny_mono one (fun r s' z => ?_) fun _ _ e => e)
    obtain ⟨v, rfl, hq⟩ := z
    exact wpAny_pure hq
end
/-- both are instances of C, and what their own == promises -/
def rNeO (C : Addr) (sp : Sp) : R2 := fun x y H Q => ∃ a b dx dy fs gs, x = .ref a ∧ y = .ref b ∧ H a = some (.ins C dx fs) ∧ H b = some (.ins C dy gs) ∧ sp [.ref a, .ref b] H (fun v H' => ∃ c, v = .bl c ∧ Q (.bl (!c)) H') E0
def rEqO (C : Addr) (sp : Sp) : R2 := fun x y H Q => ∃ a b dx dy fs gs, x = .ref a ∧ y = .ref b ∧ H a = some (.ins C dx fs) ∧ H b = some (.ins C dy gs) ∧ sp [.ref a, .ref b] H (fun v H' => ∃ c, v = .bl c ∧ Q (.bl c) H') E0
structure HasO (P : Program) (w : World) (K : PySem.W.Frag) (mg : Str → Option Value) (base : Heap) (C : Addr) (k : Nat) (sp : Sp) : Prop where
  ex : ∃ f fd, FnOk P w K mg base CX0 k f fd ["self", "other"] sp ∧ NeC K C f ∧ Binds K fd ["self", "other"] []
section
variable {X : Cx} {k j : Nat} {C : Addr} {sp : Sp}
theorem op_neO (M : HasO X.prog X.w X.K X.mg X.base C k sp) (hr : Room j X.A) (hk : k + 1 ≤ j := by decide) : OpR X (compareOp .NotEq) (rNeO C sp) := by
  obtain ⟨f, fd, F, T, hb⟩ := M.ex
  intro pins s σ H x y v u Q I rx ry hq
  obtain ⟨a, b, dx, dy, fs, gs, rfl, rfl, ha, hb', hsp⟩ := hq
  obtain rfl : v = Value.ref a := rx
  obtain rfl : u = Value.ref b := ry
  obtain ⟨mA, J, _⟩ := ins_get I.hok ha
  obtain ⟨mB, J', _⟩ := ins_get I.hok hb'
  obtain ⟨od, J, _⟩ := J.look
  obtain ⟨od', J', _⟩ := J'.look
  show wpAny (model X.prog X.w) X.A (richCompare .NotEq (.ref a) (.ref b)) (EP X pins σ Q) X.xe s
  have hu := hr.units
  have e0 : Env0 X.prog X.w X.K X.mg X.base X.A.in1 X.stack s H := by
    have e := I.env0
    exact ⟨e.frames, e.mod, e.bs, e.bsz, e.funs, e.frf, e.hok, e.bare⟩
  refine rich_ne T (by omega) I.kIn J J' (wpAny_call (codeAny_mono (F.run X.A.in1 X.stack s H ⟨[.ref a, .ref b], []⟩ [.ref a, .ref b] [.ref a, .ref b] _ E0 (Room.in1 (hr.mono hk)) e0 (by
    have := hb s [.ref a, .ref b] I.kIn rfl
    simpa using this) (.cons rfl (.cons rfl .nil)) hsp) fun r s' hq => ?_))
  match r, hq with
  | .ok (.ret w'), hq =>
    obtain ⟨z, H', I', rz, c, ez, q⟩ := I.after hq
    subst ez
    obtain rfl : w' = Value.bool c := rz
    exact ⟨c, rfl, .bl (!c), H', I', rfl, q⟩
  | .ok .next, hq => exact hq.elim
  | .ok .brk, hq => exact hq.elim
  | .ok .cont, hq => exact hq.elim
  | .error e, hq => exact hq.elim
theorem op_eqO (M : HasO X.prog X.w X.K X.mg X.base C k sp) (hr : Room j X.A) (hk : k ≤ j := by decide) : OpR X (compareOp .Eq) (rEqO C sp) := by
  obtain ⟨f, fd, F, T, hb⟩ := M.ex
  intro pins s σ H x y v u Q I rx ry hq
  obtain ⟨a, b, dx, dy, fs, gs, rfl, rfl, ha, hb', hsp⟩ := hq
  obtain rfl : v = Value.ref a := rx
  obtain rfl : u = Value.ref b := ry
  obtain ⟨mA, J, _⟩ := ins_get I.hok ha
  obtain ⟨mB, J', _⟩ := ins_get I.hok hb'
  obtain ⟨od, J, _⟩ := J.look
  obtain ⟨od', J', _⟩ := J'.look
  obtain ⟨m, hF⟩ := I.fr
  show wpAny (model X.prog X.w) X.A (richCompare .Eq (.ref a) (.ref b)) (EP X pins σ Q) X.xe s
  refine PySem.W.cmp_K (op := .Eq) (tb := .ref C) hr.units0 hF I.ok.mod.kin J J'.type (by simp [PySem.W.notFirst]) T.eq T.fn (wpAny_call (codeAny_mono (F.run X.A X.stack s H ⟨[.ref a, .ref b], []⟩ [.ref a, .ref b] [.ref a, .ref b] _ E0 (hr.mono hk) I.env0 (by
    have := hb s [.ref a, .ref b] I.kIn rfl
    simpa using this) (.cons rfl (.cons rfl .nil)) hsp) fun r s' hq => ?_))
  match r, hq with
  | .ok (.ret w'), hq =>
    obtain ⟨z, H', I', rz, c, ez, q⟩ := I.after hq
    subst ez
    obtain rfl : w' = Value.bool c := rz
    exact ⟨.bl c, H', I', rfl, q⟩
  | .ok .next, hq => exact hq.elim
  | .ok .brk, hq => exact hq.elim
  | .ok .cont, hq => exact hq.elim
  | .error e, hq => exact hq.elim
end
end Fd

namespace Fd
open PySem PySem.Spec PyProof.Rows L2
/-! ### enumerate(t, start=k), t a tuple -/
theorem callWith_typeK {M : Model} {A : Around} {E : Value → Shared → Prop} {s : Shared} {pos : Pos} {T : String} {first : List Value} {args : List (Bool × Sem Value)} {kws : List (Option Str × Sem Value)} {Q : Value → Shared → Prop}
    (hp : args.any (·.1) = false) (hk : kws.any (·.1.isNone) = false) (h : wpAny M A (evalArgs (.type T) true args kws) (fun a s₁ => wpAny M A (call (.type T) (first ++ a.pos) a.kw) Q E s₁) E s) :
    wpAny M A (callWith pos (.type T) first args kws) Q E s := by
  unfold callWith
  refine wpAny_bind (wpAny_holding (wpAny_mono h (fun a s₁ h₁ => wpAny_bind (wpAny_standAt ?_)) fun _ _ x => x))
  simp only [hp, hk, Bool.or_false]
  exact wpAny_bind (wpAny_pure (wpAny_bind (wpAny_mono h₁ (fun r s₂ hr => wpAny_bind (wpAny_holding (wpAny_point (wpAny_pure hr)))) fun _ _ x => x)))
/-- the tuple at a, each item in a new pair with its number, from k on -/
def IteTS (K : PySem.W.Frag) (a : Addr) (k : Int) : It :=
  ⟨fun i H => ∃ (xs : List V) (x : V), SqT K H a xs ∧ xs[i]? = some x,
    fun i H v H' => ∃ T x, v = .ref T ∧ H T = none ∧ H' = upd H T (.tup [.int (k + (i : Int)), x]) ∧ ∀ xs, SqT K H a xs → xs[i]? = some x,
    fun i H => ∃ xs : List V, SqT K H a xs ∧ xs.length = i⟩
theorem turnEnumTS {P : Program} {w : World} {K : PySem.W.Frag} {elts : List Expr} {kk : Nat} {tpos : Pos} (a e it : Addr) (k : Int) :
    Turn P w K (.Tuple elts kk tpos) (IteTS K a k) [e, it] e (fun i h => (∃ old, IsEnum h e it (k + ((i : Nat) : Int)) old) ∧ h.IsTupleIter it a i ∧ e ≠ it) where
  mem := by simp
  obj := by
    rintro i h ⟨⟨old, he⟩, ⟨o, ho, hc, hd⟩, _⟩ b hb
    have hb' : b = e ∨ b = it := by simpa using hb
    rcases hb' with rfl | rfl
    · exact ⟨_, he, fun v q => nomatch q⟩
    · exact ⟨o, ho, fun v q => by rw [hd] at q; cases q⟩
  keep := by
    rintro i h h' ⟨⟨old, he⟩, hi, hne⟩ k
    exact ⟨⟨old, k e (by simp) _ he⟩, hi.at fun o q => k it (by simp) o q, hne⟩
  item := by
    intro X hP hw hK hc i pins s σ H E I hf st hg
    subst hP hw hK
    obtain ⟨⟨old, he⟩, hit, hne⟩ := st
    obtain ⟨xs, x, hq, hx⟩ := hg
    obtain ⟨its, rv, p, hz⟩ := I.tuple hq
    obtain ⟨u, hu, ru⟩ := rv.get hx
    have tup : s.heap.IsTuple a its.toArray := p
    have ap : a ≠ it ∧ e ≠ a := by
      obtain ⟨o, ho, hc, _⟩ := hit
      obtain ⟨u, hu, hc2, _⟩ := tup
      refine ⟨fun z => ?_, fun z => ?_⟩
      · subst z
        rw [ho] at hu
        cases hu
        rw [hc] at hc2
        exact absurd hc2 (by decide)
      · subst z
        have he' : s.heap.get? e = some _ := he
        rw [he'] at hu
        cases hu
        have c2 : Value.type "enumerate" = Value.type "tuple" := hc2
        exact absurd c2 (by decide)
    obtain ⟨n1, n2⟩ := ap
    have hel : e < s.heap.objs.size := Heap.lt_size he
    have hil : it < s.heap.objs.size := by
      obtain ⟨_, q, _⟩ := hit
      exact Heap.lt_size q
    have hil2 : i < its.toArray.size := by
      have := (List.getElem?_eq_some_iff.mp hu).1
      simpa using this
    have D := Draws.tuple (prog := X.prog) (w := X.w) (A := X.A.in1) (I.ok.hd hc) it a n1 its.toArray
    refine wpAny_pyNext_enum_itemC D he ⟨hit, tup⟩ hil2 hne (by simp [hne, n2]) fun y h' tk hy ho hst hT hsz hk => ?_
    have hy' : y = u := by
      have q : its.toArray[i]? = some u := by simpa using hu
      exact Option.some.inj (hy.symm.trans q)
    subst hy'
    refine ⟨_, rfl, wpAny_letOwnedTupleGo_enum (s := { s with heap := h', toks := tk + 1 }) ho fun h'' he' sb => ?_⟩
    have hT2 : h''.get? s.heap.objs.size = some { cls := .type "tuple", data := .seq #[.int (k + (i : Int)) tk, y] } := (sb.2 _ (Nat.ne_of_gt hel)).trans hT
    have fresh : ObjOk X.prog X.w (upd H s.heap.objs.size (.tup [.int (k + (i : Int)), x])) h'' s.heap.objs.size (.tup [.int (k + (i : Int)), x]) :=
      ⟨by show 2 ≤ sizeLine; decide, [.int (k + (i : Int)) tk, y], .cons ⟨_, rfl⟩ (.cons ru .nil), ⟨_, hT2, rfl, _, rfl⟩⟩
    have I1 : Inv X pins σ (upd H s.heap.objs.size (.tup [.int (k + (i : Int)), x])) { s with heap := h'', toks := tk + 1 } :=
      I.turnedNew (ch := [e, it]) (fun b ob hb q => (sb.2 b (fun z => hb (by simp [z]))).trans (hk b ob (fun z => hb (by simp [z])) (fun z => hb (by simp [z])) q)) hf (Nat.le_refl _) fresh
    refine ⟨.ref s.heap.objs.size, _, I1, rfl, ⟨_, x, rfl, I.hok.fresh (Nat.le_refl _), rfl, fun ys hys => by rw [I.tuple_inj hys hq]; exact hx⟩, ⟨⟨y, ?_⟩, hst.1.at fun o q => (sb.2 it (Ne.symm hne)).trans q, hne⟩, fun b hb => ?_⟩
    · have e1 : k + ((i + 1 : Nat) : Int) = k + (i : Int) + 1 := by omega
      rw [e1]
      exact he'
    · have hb' : b = e ∨ b = it := by simpa using hb
      have lt : b < s.heap.objs.size := by rcases hb' with rfl | rfl <;> assumption
      rw [upd_ne (Nat.ne_of_lt lt)]
      exact (hf b hb).1
  done := by
    intro X hP hw hK hc i pins s σ H E I hf st hg
    subst hP hw hK
    obtain ⟨⟨old, he⟩, hit, hne⟩ := st
    obtain ⟨xs, hq, hx⟩ := hg
    obtain ⟨its, rv, p, hz⟩ := I.tuple hq
    have tup : s.heap.IsTuple a its.toArray := p
    have n1 : a ≠ it := by
      rintro rfl
      obtain ⟨o, ho, hc, _⟩ := hit
      obtain ⟨u, hu, hc2, _⟩ := tup
      rw [ho] at hu
      cases hu
      rw [hc] at hc2
      exact absurd hc2 (by decide)
    obtain ⟨f0, f1, f2, f3, f4, f5⟩ := hf it (by simp)
    have hl := rv.length
    have sz : its.toArray.size = i := by simp; omega
    have D := Draws.tuple (prog := X.prog) (w := X.w) (A := X.A.in1) (I.ok.hd hc) it a n1 its.toArray
    refine wpAny_pyNext_enum_endD D he ⟨sz ▸ hit, tup⟩ fun h' eb => ⟨rfl, I.turned (t' := s.toks) (fun b o hb q => eb b o hb q) f0 f1 f3 f4 f5⟩
  self := fun A i s Q E st h => by
    obtain ⟨⟨_, he⟩, _⟩ := st
    exact wpAny_pyIter_enum he h
def iEnumTS (K : PySem.W.Frag) (ta tk : TA) : TI := fun σ H R => ta σ H fun vs H1 => tk σ H1 fun zs H2 => ∃ a xs k, vs = [.ref a] ∧ zs = [.int k] ∧ SqT K H2 a xs ∧ -(2 ^ 62) ≤ k ∧ k < 2 ^ 62 ∧ R (IteTS K a k) H2
theorem callWith_kwT {M : Model} {A : Around} {E : Value → Shared → Prop} {s : Shared} {env : Env} {pos : Pos} {T : String} {e : Expr} {rest : List Expr} {kws : List Keyword} {Q : Value → Shared → Prop}
    (h : wpAny M A (spliced (backTo pos (starEach (e :: rest) env))) (fun vs s₁ => wpAny M A (evalAll ((backToKw pos (keywordEach kws env)).map (·.2)))
      (fun kvs s₂ => wpAny M A (call (.type T) vs (((backToKw pos (keywordEach kws env)).filterMap (·.1)).zip kvs)) Q E s₂) E s₁) E s)
    (he : backTo pos (starEach (e :: rest) env) = (false, eval e env) :: backTo pos (starEach rest env) := by rfl) (hplain : (backTo pos (starEach (e :: rest) env)).any (·.1) = false := by rfl)
    (hall : (backToKw pos (keywordEach kws env)).all (·.1.isSome) = true := by rfl) (hkw : (backToKw pos (keywordEach kws env)).any (·.1.isNone) = false := by rfl) :
    wpAny M A (callWith pos (.type T) [] (backTo pos (starEach (e :: rest) env)) (backToKw pos (keywordEach kws env))) Q E s := by
  refine callWith_typeK hplain hkw ?_
  rw [he] at h ⊢
  exact evalArgs_kwB hall h
theorem pi_enumTS {X : Cx} {e e2 : Expr} {ta tk : TA} {p pos tpos kp : Pos} {elts : List Expr} {kk : Nat} (hg : Gl X "enumerate") (hm : X.mg "enumerate" = none) (ha : PA X [e] ta) (hk : PK X [⟨some "start", e2, kp⟩] tk)
    (he : backTo pos (starEach [e] X.env) = (false, eval e X.env) :: backTo pos (starEach [] X.env) := by rfl) (hpl : (backTo pos (starEach [e] X.env)).any (·.1) = false := by rfl) :
    PI X (.Tuple elts kk tpos) (.Call (.Name "enumerate" p) [e] [⟨some "start", e2, kp⟩] pos) (iEnumTS X.K ta tk) := by
  refine ⟨fun pins s σ H R I h => ?_⟩
  refine wpAny_Call_Name_kw (ld_blt I hg hm boot_enumerate ?_)
  refine callWith_kwT (thn (ha.run pos pins s σ H _ I h) fun us s1 ⟨vs, H1, I1, r1, q1⟩ => thn (hk.run pos pins s1 σ H1 _ I1 q1) fun ws s2 ⟨zs, H2, I2, r2, a, xs, k, ev, ez, hq, k0, k1, q⟩ => ?_) he hpl
  subst ev ez
  obtain ⟨u, rfl, ru⟩ := vals1 r1
  obtain rfl : u = Value.ref a := ru
  obtain ⟨w1, rfl, rw1⟩ := vals1 r2
  obtain ⟨t, rfl⟩ := rw1
  obtain ⟨its, rv, tup, hz⟩ := I2.tuple hq
  refine enum_begins_start (begins_tuple a its.toArray) tup (by omega) (by omega) fun h' he hit hsz hkk => wpAny_pyIter_enum he ?_
  have I3 : Inv X pins σ H2 { s2 with heap := h' } := I2.kept (t' := s2.toks) hkk
  refine ⟨s2.heap.objs.size + 1, [s2.heap.objs.size + 1, s2.heap.objs.size], _, _, H2, rfl, I3, turnEnumTS a (s2.heap.objs.size + 1) s2.heap.objs.size k, ⟨⟨.none, by simpa using he⟩, ⟨_, hit, rfl, rfl⟩, Nat.succ_ne_self _⟩, fun b hb => ?_, q⟩
  have hb' : b = s2.heap.objs.size + 1 ∨ b = s2.heap.objs.size := by simpa using hb
  have hle : s2.heap.objs.size ≤ b := by rcases hb' with rfl | rfl <;> omega
  exact I2.fpOk (b := b) hle (I2.hok.fresh hle)
theorem walk_enumTS {K : PySem.W.Frag} {a : Addr} {k : Int} {xs : List V} : Walk (IteTS K a k) xs.length (fun H => SqT K H a xs) (YPair (fun i => some (.int (k + (i : Int)))) (fun i => xs[i]?)) := by
  refine ⟨fun i _ hi q => ⟨xs, xs[i], q, by simp [hi]⟩, fun _ q => ⟨xs, q, rfl⟩, ?_⟩
  rintro i H v H' _ q ⟨T, x, h1, h2, h3, h4⟩
  exact ⟨T, .int (k + (i : Int)), x, h1, h2, h3, rfl, h4 xs q⟩
end Fd

namespace Fl
open PySem PySem.Spec PyProof.Rows L2 Fd
def topS (i : Nat) : Stmt := PySem.Challenge.pw_fadeleaf_k27_pressed.main.body.getD i (.Pass ⟨0, 0, 0, 0⟩)
structure Blt (mg : Str → Option Value) : Prop where
  len : mg "len" = none
  max : mg "max" = none
  min : mg "min" = none
  abs : mg "abs" = none
  divmod : mg "divmod" = none
  range : mg "range" = none
  tuple : mg "tuple" = none
  list : mg "list" = none
  all : mg "all" = none
  repr : mg "repr" = none
  sorted : mg "sorted" = none
  enumerate : mg "enumerate" = none
  isinstance : mg "isinstance" = none
  int : mg "int" = none
  str : mg "str" = none
  bool : mg "bool" = none
  zip : mg "zip" = none
  dict : mg "dict" = none
structure Gs (mg : Str → Option Value) : Prop where
  letters : ∃ t, mg "_LETTERS" = some (.str "abcdefghijklmnopqrstuvwxyz" t)
  mostL : ∃ t, mg "_MOST_LETTERS" = some (.int 8 t)
  inks : ∃ t, mg "MOST_INKS" = some (.int 8 t)
  wear : ∃ t, mg "MOST_WEAR" = some (.int 6 t)
  one : ∃ t, mg "WEAR" = some (.int 3 t)

/-! ### the program's palettes: is_whole, is_name, is_amount -/
section
variable {P : Program} {w : World} {K : PySem.W.Frag} {mg : Str → Option Value} {base : Heap}
def nameB : V → Bool
  | .str z => decide (1 ≤ z.length ∧ z.length ≤ 8) && z.cps.toList.all fun c => decide (c ∈ abc.cps.toList)
  | _ => false
def wholeB : V → Bool
  | .int _ => true
  | _ => false
def amtB : V → Bool
  | .int i => decide (1 ≤ i)
  | _ => false
theorem nameB_str (z : Str) : nameB (.str z) = (decide (1 ≤ z.length ∧ z.length ≤ 8) && z.cps.toList.all fun c => decide (c ∈ abc.cps.toList)) := rfl
theorem shaped_signs (cs : List Nat) (h : ∀ c ∈ cs, c < 128) : SeqAt.shaped (.list ((cs.map sgn).map PyData.str)) = true := by
  have q := niceWs (n := 20) (k := 0) (ds := (cs.map sgn).map PyData.str) fun d m => by
    obtain ⟨z, mz, rfl⟩ := List.mem_map.mp m
    obtain ⟨c, mc, rfl⟩ := List.mem_map.mp mz
    refine ⟨niceW_txt ⟨by show 1 ≤ 20; decide, fun x mx => ?_⟩, by simp [PyData.depth]⟩
    have : x = c := by simpa using mx
    rw [this]
    exact h c mc
  have n := q.lst (by decide)
  have d := n.dp
  unfold SeqAt.shaped
  rw [n.lay, decide_eq_true (Nat.le_trans d (by decide : 10 ≤ 64))]
  rfl
abbrev s_is_whole : Stmt := topS 24
theorem sc_is_whole : FnScope ["thing"] ["thing"] (defScope s_is_whole) := ⟨rfl, rfl, rfl, by decide +kernel, rfl, by decide +kernel, by decide +kernel⟩

def spWhole (K : PySem.W.Frag) : Sp := fun vs H Q _ => ∃ v, vs = [v] ∧ Cl K H v ∧ Q (.bl (wholeB v)) H
theorem ok_is_whole {f : Addr} {fd : FuncData} (F : Fun K "is_whole" "is_whole" s_is_whole f fd) (M : Blt mg) : FnOk P w K mg base CX0 1 f fd ["thing"] (spWhole K) := by
  refine F.ok sc_is_whole (fun vs H Q E h => ?_) (fun cdv A outer s H vs Q E hr h => ?_)
  · obtain ⟨v, rfl, _⟩ := h
    rfl
  · obtain ⟨v, rfl, hv, k⟩ := h
    refine ⟨_, (pss_one (ps_ret (pe_and (pe_callB (k_isi (K := K) rfl) (by rfl) M.isinstance (by decide +kernel) (pa_cons (pv 0) (pa_cons (pe_bltn (v := .ty "int") (by rfl) M.int (by decide +kernel) rfl) pa_nil))) (pe_one (pe_not (pe_callB (k_isi (K := K) rfl) (by rfl) M.isinstance (by decide +kernel) (pa_cons (pv 0) (pa_cons (pe_bltn (v := .ty "bool") (by rfl) M.bool (by decide +kernel) rfl) pa_nil)))))))), ?_⟩
    simp only [tSeq, tIfS, tTest, tOp, tUn, tVar, tC, rI, rI0, rU, rEq, rNe, rIxL, rIxT, rIxS, tCB, tCons, tNil, tRet, tRetN, tAsg, gTup, gCons, gNil, gName, gSub, rSetL, tNext, tDrop, tLst, tTup, tCall, tIf, tB, tAnd, tOr, tNot, tSl, tPart, tNoPart, tM1, tM0, tBM, tBM0, tLcE, tForE, iRng1, iRng2, iTup, iList, iStr, tYes, wipe, startDef, cxK, noxK, exists_and_left, exists_eq_left', exists_eq_left, exists_eq_right, Option.some.injEq, V.int.injEq, V.ref.injEq, V.str.injEq, V.bl.injEq, List.cons.injEq, and_true, true_and, List.append_nil, List.map_cons, List.map_nil, List.length_cons, List.length_nil, List.replicate, List.nil_append, List.cons_append, List.set_cons_zero, List.set_cons_succ, List.getElem?_cons_zero, List.getElem?_cons_succ, decide_eq_true_eq, exists_const, Nat.reduceAdd, Nat.reduceSub, List.replicate_succ, List.replicate_zero, exists_prop, and_assoc, List.set_nil, rLenK, rTupK, rLstK, rReprK, rEqD, rNeD, rIn, rAll, rAppend, rCat, ↓reduceIte, Bool.false_eq_true, iEnumT, rSortedPO, rIsi, rRep, rReverse, tLstRg, tTupRg, tRg1, tRg2, rSlL, rSlT, rSortedI, rSlF, rCatF, rMax, tLc2E, rSortedL, rSortedT, gUnl, tPar, rReprX, tChain, tDNewK, tDisp, tPairs, tAndV, tNotV, tFd, sFd, tMeth, tMake, tMakeK, gStar, iZipM, iItems, tLock, tSpread, tDcE, tDGet, sDPut, tPar3, tNever, rIxD, tChain, iEnum, tDIn, tDNotIn, gHd]
    rcases hv with ⟨z, rfl, _⟩ | ⟨i, rfl⟩ | ⟨b, rfl⟩ | ⟨t, ty, k1, k2, k3, n1, n2⟩
    · refine ⟨.type "str", .type "int", .ty "int", .base (.str z), false, kit_ty (by decide +kernel), ?_⟩
      rw [if_neg (by decide)]
      exact k
    · refine ⟨.type "int", .type "int", .ty "int", .base (.int i), true, kit_ty (by decide +kernel), ?_⟩
      rw [if_pos rfl]
      exact ⟨.type "int", .type "bool", .ty "bool", .base (.int i), false, kit_ty (by decide +kernel), k⟩
    · refine ⟨.type "bool", .type "int", .ty "int", .base (.bl b), true, kit_ty (by decide +kernel), ?_⟩
      rw [if_pos rfl]
      exact ⟨.type "bool", .type "bool", .ty "bool", .base (.bl b), true, kit_ty (by decide +kernel), k⟩
    · have e : wholeB v = false := by
        cases v <;> first | rfl | exact absurd rfl (n2 _)
      refine ⟨_, .type "int", .ty "int", ty, false, kit_ty k2, ?_⟩
      rw [if_neg (by decide), ← e]
      exact k
abbrev s_is_name : Stmt := topS 25
theorem sc_is_name : FnScope ["thing", "sign"] ["thing"] (defScope s_is_name) := ⟨rfl, rfl, rfl, by decide +kernel, rfl, by decide +kernel, by decide +kernel⟩

def spName (K : PySem.W.Frag) : Sp := fun vs H Q _ => ∃ v, vs = [v] ∧ Cl K H v ∧ ∀ H', Same H H' → Q (.bl (nameB v)) H'
theorem ok_is_name {f : Addr} {fd : FuncData} (F : Fun K "is_name" "is_name" s_is_name f fd) (M : Blt mg) (G : Gs mg) : FnOk P w K mg base CX0 1 f fd ["thing"] (spName K) := by
  refine F.ok sc_is_name (fun vs H Q E h => ?_) (fun cdv A outer s H vs Q E hr h => ?_)
  · obtain ⟨v, rfl, _⟩ := h
    rfl
  · obtain ⟨v, rfl, hv, k⟩ := h
    obtain ⟨tL, gL⟩ := G.letters
    obtain ⟨tM, gM⟩ := G.mostL
    refine ⟨_, (pss_cons (ps_if (PW.pt (pw_or (pt_not (pt_val (pe_callB (k_isi (K := K) rfl) (by rfl) M.isinstance (by decide +kernel) (pa_cons (pv 0) (pa_cons (pe_bltn (v := .ty "str") (by rfl) M.str (by decide +kernel) rfl) pa_nil))))) (pw_or1 (pt_not (pt_chain op_le op_le pe_int (pe_callB call_len_str (by rfl) M.len (by decide +kernel) (pa_cons (pv 0) pa_nil)) (pe_glob (v := .int 8) (by rfl) gM ⟨_, rfl⟩)))))) (pss_one (ps_ret pe_bl)) pss_nil)
      (pss_one (ps_ret (pe_callB (k_all (K := K) rfl rfl) (by rfl) M.all (by decide +kernel) (pa_cons (pe_lc (own := [("sign", 1)]) (g := gName 1) (tt := tYes) rfl sc_is_name.nd (pi_str (pv 0)) (blkOk_by (own := [("sign", 1)]) (N := ["thing", "sign"]) (sc := defScope s_is_name) (by decide +kernel)) (fun _ _ _ _ _ => (pg_name (i := 1) sc_is_name.nd rfl (by first | exact Or.inl rfl | exact Or.inr rfl))) (fun _ _ _ _ _ => pts_nil) (fun _ _ _ _ _ => (pe_cmpR op_in_sign (pv 1) (pe_glob (v := .str abc) (by rfl) gL ⟨_, rfl⟩) (by rfl)))) pa_nil))))), ?_⟩
    simp only [tSeq, tIfS, tTest, tOp, tUn, tVar, tC, rI, rI0, rU, rEq, rNe, rIxL, rIxT, rIxS, tCB, tCons, tNil, tRet, tRetN, tAsg, gTup, gCons, gNil, gName, gSub, rSetL, tNext, tDrop, tLst, tTup, tCall, tIf, tB, tAnd, tOr, tNot, tSl, tPart, tNoPart, tM1, tM0, tBM, tBM0, tLcE, tForE, iRng1, iRng2, iTup, iList, iStr, tYes, wipe, startDef, cxK, noxK, exists_and_left, exists_eq_left', exists_eq_left, exists_eq_right, Option.some.injEq, V.int.injEq, V.ref.injEq, V.str.injEq, V.bl.injEq, List.cons.injEq, and_true, true_and, List.append_nil, List.map_cons, List.map_nil, List.length_cons, List.length_nil, List.replicate, List.nil_append, List.cons_append, List.set_cons_zero, List.set_cons_succ, List.getElem?_cons_zero, List.getElem?_cons_succ, decide_eq_true_eq, exists_const, Nat.reduceAdd, Nat.reduceSub, List.replicate_succ, List.replicate_zero, exists_prop, and_assoc, List.set_nil, rLenK, rTupK, rLstK, rReprK, rEqD, rNeD, rIn, rAll, rAppend, rCat, ↓reduceIte, Bool.false_eq_true, iEnumT, rSortedPO, rIsi, rRep, rReverse, tLstRg, tTupRg, tRg1, tRg2, rSlL, rSlT, rSortedI, rSlF, rCatF, rMax, tLc2E, rSortedL, rSortedT, gUnl, tPar, rReprX, tChain, tDNewK, tDisp, tPairs, tAndV, tNotV, tFd, sFd, tMeth, tMake, tMakeK, gStar, iZipM, iItems, tLock, tSpread, tDcE, tDGet, sDPut, tPar3, tNever, rIxD, tChain, iEnum, tDIn, tDNotIn, gHd]
    rcases hv with ⟨z, rfl, lz, lc⟩ | ⟨i, rfl⟩ | ⟨b, rfl⟩ | ⟨t, ty, k1, k2, k3, n1, n2⟩
    · refine ⟨.type "str", .type "str", .ty "str", .base (.str z), true, kit_ty (by decide +kernel), ?_⟩
      rw [if_neg (by decide)]
      have line : (1000 : Nat) < sizeLine := by decide
      refine ⟨z, rfl, by omega, ?_⟩
      by_cases h1 : 1 ≤ z.length
      · rw [if_pos (by omega)]
        by_cases h2 : z.length ≤ 8
        · rw [if_neg (by simp; omega)]
          refine ⟨z, rfl, lcStr (K := K) none (fun i ds => ds = ((z.cps.toList.take i).map fun c => decide (c ∈ abc.cps.toList)).map PyData.bool) potN (by show z.length ≤ _; omega) rfl (fun _ => rfl) ?_ ?_⟩
          · rintro i c Ha ds C hi sa fl rfl go
            simp only [tSeq, tIfS, tTest, tOp, tUn, tVar, tC, rI, rI0, rU, rEq, rNe, rIxL, rIxT, rIxS, tCB, tCons, tNil, tRet, tRetN, tAsg, gTup, gCons, gNil, gName, gSub, rSetL, tNext, tDrop, tLst, tTup, tCall, tIf, tB, tAnd, tOr, tNot, tSl, tPart, tNoPart, tM1, tM0, tBM, tBM0, tLcE, tForE, iRng1, iRng2, iTup, iList, iStr, tYes, wipe, startDef, cxK, noxK, exists_and_left, exists_eq_left', exists_eq_left, exists_eq_right, Option.some.injEq, V.int.injEq, V.ref.injEq, V.str.injEq, V.bl.injEq, List.cons.injEq, and_true, true_and, List.append_nil, List.map_cons, List.map_nil, List.length_cons, List.length_nil, List.replicate, List.nil_append, List.cons_append, List.set_cons_zero, List.set_cons_succ, List.getElem?_cons_zero, List.getElem?_cons_succ, decide_eq_true_eq, exists_const, Nat.reduceAdd, Nat.reduceSub, List.replicate_succ, List.replicate_zero, exists_prop, and_assoc, List.set_nil, rLenK, rTupK, rLstK, rReprK, rEqD, rNeD, rIn, rAll, rAppend, rCat, ↓reduceIte, Bool.false_eq_true, iEnumT, rSortedPO, rIsi, rRep, rReverse, tLstRg, tTupRg, tRg1, tRg2, rSlL, rSlT, rSortedI, rSlF, rCatF, rMax, tLc2E, rSortedL, rSortedT, gUnl, tPar, rReprX, tChain, tDNewK, tDisp, tPairs, tAndV, tNotV, tFd, sFd, tMeth, tMake, tMakeK, gStar, iZipM, iItems, tLock, tSpread, tDcE, tDGet, sDPut, tPar3, tNever, rIxD, tChain, iEnum, tDIn, tDNotIn, gHd]
            refine ⟨c, rfl, ?_⟩
            refine go _ _ (.bool (decide (c ∈ abc.cps.toList))) (St.refl potN) (by simp [flatT]) (.bl _) ?_
            rw [take_succ_map _ _ (cps_get hi), List.map_append]
            rfl
          · rintro D acc ds H1 hD sD hl fl al rfl
            rw [List.take_of_length_le (by rw [cps_size]; exact Nat.le_refl _)] at al
            have ea := dps_bools_inv al
            subst ea
            refine ⟨D, rfl, _, SqL.of hl, ?_⟩
            have e : ((z.cps.toList.map fun c => decide (c ∈ abc.cps.toList)).all id) = nameB (.str z) := by
              rw [nameB_str]
              rw [decide_eq_true ⟨h1, h2⟩, Bool.true_and, List.all_map]
              rfl
            rw [e]
            exact k _ sD.toSame
        · rw [if_pos (by simp; omega)]
          have e : nameB (.str z) = false := by
            rw [nameB_str]
            rw [decide_eq_false (fun q => h2 q.2), Bool.false_and]
          rw [← e]
          exact k _ (Same.refl _)
      · rw [if_neg (by omega), if_pos (by decide)]
        have e : nameB (.str z) = false := by
          rw [nameB_str]
          rw [decide_eq_false (fun q => h1 q.1), Bool.false_and]
        rw [← e]
        exact k _ (Same.refl _)
    · refine ⟨.type "int", .type "str", .ty "str", .base (.int i), false, kit_ty (by decide +kernel), ?_⟩
      rw [if_pos (by decide)]
      exact k _ (Same.refl _)
    · refine ⟨.type "bool", .type "str", .ty "str", .base (.bl b), false, kit_ty (by decide +kernel), ?_⟩
      rw [if_pos (by decide)]
      exact k _ (Same.refl _)
    · have e : nameB v = false := by
        cases v <;> first | rfl | exact absurd rfl (n1 _)
      refine ⟨_, .type "str", .ty "str", ty, false, kit_ty k1, ?_⟩
      rw [if_pos (by decide), ← e]
      exact k _ (Same.refl _)
structure CWhole (P : Program) (w : World) (K : PySem.W.Frag) (mg : Str → Option Value) (base : Heap) : Prop where
  is_whole : Has P w K mg base "is_whole" 1 ["thing"] (spWhole K)
abbrev s_is_amount : Stmt := topS 26
theorem sc_is_amount : FnScope ["thing"] ["thing"] (defScope s_is_amount) := ⟨rfl, rfl, rfl, by decide +kernel, rfl, by decide +kernel, by decide +kernel⟩

def spAmt (K : PySem.W.Frag) : Sp := fun vs H Q _ => ∃ v, vs = [v] ∧ Cl K H v ∧ Q (.bl (amtB v)) H
theorem ok_is_amount {f : Addr} {fd : FuncData} (F : Fun K "is_amount" "is_amount" s_is_amount f fd) (M : Blt mg) (C : CWhole P w K mg base) : FnOk P w K mg base CX0 2 f fd ["thing"] (spAmt K) := by
  refine F.ok sc_is_amount (fun vs H Q E h => ?_) (fun cdv A outer s H vs Q E hr h => ?_)
  · obtain ⟨v, rfl, _⟩ := h
    rfl
  · obtain ⟨v, rfl, hv, k⟩ := h
    refine ⟨_, (pss_one (ps_ret (pe_and (callH C.is_whole hr (by rfl) (pa_cons (pv 0) pa_nil)) (pe_one (pe_cmpR op_ge (pv 0) pe_int (nomark _)))))), ?_⟩
    simp only [tSeq, tIfS, tTest, tOp, tUn, tVar, tC, rI, rI0, rU, rEq, rNe, rIxL, rIxT, rIxS, tCB, tCons, tNil, tRet, tRetN, tAsg, gTup, gCons, gNil, gName, gSub, rSetL, tNext, tDrop, tLst, tTup, tCall, tIf, tB, tAnd, tOr, tNot, tSl, tPart, tNoPart, tM1, tM0, tBM, tBM0, tLcE, tForE, iRng1, iRng2, iTup, iList, iStr, tYes, wipe, startDef, cxK, noxK, exists_and_left, exists_eq_left', exists_eq_left, exists_eq_right, Option.some.injEq, V.int.injEq, V.ref.injEq, V.str.injEq, V.bl.injEq, List.cons.injEq, and_true, true_and, List.append_nil, List.map_cons, List.map_nil, List.length_cons, List.length_nil, List.replicate, List.nil_append, List.cons_append, List.set_cons_zero, List.set_cons_succ, List.getElem?_cons_zero, List.getElem?_cons_succ, decide_eq_true_eq, exists_const, Nat.reduceAdd, Nat.reduceSub, List.replicate_succ, List.replicate_zero, exists_prop, and_assoc, List.set_nil, rLenK, rTupK, rLstK, rReprK, rEqD, rNeD, rIn, rAll, rAppend, rCat, ↓reduceIte, Bool.false_eq_true, iEnumT, rSortedPO, rIsi, rRep, rReverse, tLstRg, tTupRg, tRg1, tRg2, rSlL, rSlT, rSortedI, rSlF, rCatF, rMax, tLc2E, rSortedL, rSortedT, gUnl, tPar, rReprX, tChain, tDNewK, tDisp, tPairs, tAndV, tNotV, tFd, sFd, tMeth, tMake, tMakeK, gStar, iZipM, iItems, tLock, tSpread, tDcE, tDGet, sDPut, tPar3, tNever, rIxD, tChain, iEnum, tDIn, tDNotIn, gHd, spWhole]
    refine ⟨hv, ?_⟩
    rcases hv with ⟨z, rfl, _⟩ | ⟨i, rfl⟩ | ⟨b, rfl⟩ | ⟨t, ty, k1, k2, k3, n1, n2⟩
    · rw [if_neg (by simp [wholeB])]
      exact k
    · rw [if_pos (by rfl)]
      exact ⟨i, rfl, k⟩
    · rw [if_neg (by simp [wholeB])]
      exact k
    · have e : wholeB v = false := by
        cases v <;> first | rfl | exact absurd rfl (n2 _)
      have e2 : amtB v = false := by
        cases v <;> first | rfl | exact absurd rfl (n2 _)
      rw [e, if_neg (by decide), ← e2]
      exact k
end

/-! ### palettes -/
structure TPal (K : PySem.W.Frag) (mg : Str → Option Value) (cP : Addr) : Prop where
  cl : Cls K cP
  n_made : NoAttr K cP "_made"
  n_fades : NoAttr K cP "_fades"
  ins : C8.InsC K cP
theorem tyT {K : PySem.W.Frag} {H : Hp} {a : Addr} {xs : List V} (h : SqT K H a xs) : TyX K H (.ref a) (.type "tuple") := by
  rcases h with (h | ⟨ob, h⟩) | ⟨o, its, n, h, c, _⟩
  · exact .base (.tup h)
  · exact .fTuple h
  · exact .kTuple h c
theorem abc_mem {c : Nat} (h : 97 ≤ c ∧ c ≤ 122) : c ∈ abc.cps.toList := by
  rw [abc_cps]
  exact List.mem_map.mpr ⟨c - 97, List.mem_range.mpr (by omega), by omega⟩
theorem nameB_tag {z : Str} (h : NmOk z) : nameB (.str z) = true := by
  rw [nameB_str, decide_eq_true ⟨h.2, h.1.1⟩, Bool.true_and, List.all_eq_true]
  exact fun c m => decide_eq_true (abc_mem (h.1.2 c m))
theorem cl_nm {K : PySem.W.Frag} {H : Hp} {z : Str} (h : NmOk z) : Cl K H (.str z) := .inl ⟨z, rfl, by have := h.1.1; omega, fun c m => by have := h.1.2 c m; omega⟩
section
variable {P : Program} {w : World} {K : PySem.W.Frag} {mg : Str → Option Value} {base : Heap} {cP : Addr}
structure CNm (P : Program) (w : World) (K : PySem.W.Frag) (mg : Str → Option Value) (base : Heap) : Prop extends CWhole P w K mg base where
  is_name : Has P w K mg base "is_name" 1 ["thing"] (spName K)
abbrev s_is_ink : Stmt := topS 28
theorem sc_is_ink : FnScope ["thing", "name", "fade"] ["thing"] (defScope s_is_ink) := ⟨rfl, rfl, rfl, by decide +kernel, rfl, by decide +kernel, by decide +kernel⟩

def spIsInk (K : PySem.W.Frag) : Sp := fun vs H Q _ => ∃ (v : V) (l : Lay), vs = [v] ∧ Dp K H v (layD l) ∧ NmOk l.1 ∧ 0 ≤ l.2 ∧ ∀ H', Same H H' → Q (.bl true) H'
theorem ok_is_ink {f : Addr} {fd : FuncData} (F : Fun K "is_ink" "is_ink" s_is_ink f fd) (M : Blt mg) (C : CNm P w K mg base) : FnOk P w K mg base CX0 2 f fd ["thing"] (spIsInk K) := by
  refine F.ok sc_is_ink (fun vs H Q E h => ?_) (fun cdv A outer s H vs Q E hr h => ?_)
  · obtain ⟨v, l, rfl, _⟩ := h
    rfl
  · obtain ⟨v, l, rfl, hv, ht, h0, k⟩ := h
    obtain ⟨a, rfl, hs⟩ := lay_inv hv
    refine ⟨_, (pss_cons (ps_if (PW.pt (pw_or (pt_not (pt_val (pe_callB (k_isi (K := K) rfl) (by rfl) M.isinstance (by decide +kernel) (pa_cons (pv 0) (pa_cons (pe_bltn (v := .ty "tuple") (by rfl) M.tuple (by decide +kernel) rfl) pa_nil))))) (pw_or1 (pt_cmpR op_ne (pe_callB (k_len (K := K) rfl) (by rfl) M.len (by decide +kernel) (pa_cons (pv 0) pa_nil)) pe_int (nomark _))))) (pss_one (ps_ret pe_bl)) pss_nil)
      (pss_cons (ps_asg (pv 0) (pg_tup (n := 2) (by rfl) (pgs_cons (pg_name (i := 1) sc_is_ink.nd rfl (by first | exact Or.inl rfl | exact Or.inr rfl)) (pgs_cons (pg_name (i := 2) sc_is_ink.nd rfl (by first | exact Or.inl rfl | exact Or.inr rfl)) pgs_nil))))
      (pss_one (ps_ret (pe_and (callH C.is_name hr (by rfl) (pa_cons (pv 1) pa_nil)) (pe_and (callH C.is_whole hr (by rfl) (pa_cons (pv 2) pa_nil)) (pe_one (pe_cmpR op_ge (pv 2) pe_int (nomark _))))))))), ?_⟩
    simp only [tSeq, tIfS, tTest, tOp, tUn, tVar, tC, rI, rI0, rU, rEq, rNe, rIxL, rIxT, rIxS, tCB, tCons, tNil, tRet, tRetN, tAsg, gTup, gCons, gNil, gName, gSub, rSetL, tNext, tDrop, tLst, tTup, tCall, tIf, tB, tAnd, tOr, tNot, tSl, tPart, tNoPart, tM1, tM0, tBM, tBM0, tLcE, tForE, iRng1, iRng2, iTup, iList, iStr, tYes, wipe, startDef, cxK, noxK, exists_and_left, exists_eq_left', exists_eq_left, exists_eq_right, Option.some.injEq, V.int.injEq, V.ref.injEq, V.str.injEq, V.bl.injEq, List.cons.injEq, and_true, true_and, List.append_nil, List.map_cons, List.map_nil, List.length_cons, List.length_nil, List.replicate, List.nil_append, List.cons_append, List.set_cons_zero, List.set_cons_succ, List.getElem?_cons_zero, List.getElem?_cons_succ, decide_eq_true_eq, exists_const, Nat.reduceAdd, Nat.reduceSub, List.replicate_succ, List.replicate_zero, exists_prop, and_assoc, List.set_nil, rLenK, rTupK, rLstK, rReprK, rEqD, rNeD, rIn, rAll, rAppend, rCat, ↓reduceIte, Bool.false_eq_true, iEnumT, rSortedPO, rIsi, rRep, rReverse, tLstRg, tTupRg, tRg1, tRg2, rSlL, rSlT, rSortedI, rSlF, rCatF, rMax, tLc2E, rSortedL, rSortedT, gUnl, tPar, rReprX, tChain, tDNewK, tDisp, tPairs, tAndV, tNotV, tFd, sFd, tMeth, tMake, tMakeK, gStar, iZipM, iItems, tLock, tSpread, tDcE, tDGet, sDPut, tPar3, tNever, rIxD, tChain, iEnum, tDIn, tDNotIn, gHd, spWhole, spName]
    refine ⟨.type "tuple", .type "tuple", .ty "tuple", tyT hs, true, kit_ty (by decide +kernel), ?_⟩
    rw [if_neg (by decide)]
    refine ⟨_, .inr hs, rfl, ?_⟩
    rw [if_neg (by simp)]
    refine ⟨_, hs, rfl, _, _, rfl, _, _, rfl, rfl, cl_nm ht, fun H1 s1 => ?_⟩
    rw [if_pos (nameB_tag ht)]
    refine ⟨.inr (.inl ⟨_, rfl⟩), ?_⟩
    rw [if_pos (by rfl)]
    refine ⟨_, rfl, ?_⟩
    rw [decide_eq_true h0]
    exact k _ s1
structure CInk (P : Program) (w : World) (K : PySem.W.Frag) (mg : Str → Option Value) (base : Heap) : Prop where
  is_ink : Has P w K mg base "is_ink" 2 ["thing"] (spIsInk K)
abbrev s_Palette_init : Stmt := inClass (topS 29) 0
theorem sc_Palette_init : FnScope ["self", "inks", "at", "ink", "name", "fade"] ["self", "inks"] (defScope s_Palette_init) := ⟨rfl, rfl, rfl, by decide +kernel, rfl, by decide +kernel, by decide +kernel⟩

def spPalI (K : PySem.W.Frag) (cP : Addr) : Sp := fun vs H Q _ => ∃ (p dx l : Addr) (us : List V) (inks : List Lay), vs = [.ref p, .ref l] ∧ H p = some (.ins cP dx []) ∧ H l = some (.lst us) ∧ DpAll K H us (inks.map layD) ∧ InksOk inks ∧
  ∀ m f H', H m = none → H f = none → PalAt K cP H' p m f inks → (∀ a o, a ≠ p → H a = some o → H' a = some o) → Q .non H'
theorem ok_Palette_init {f : Addr} {fd : FuncData} (F : Fun K "__init__" "Palette.__init__" s_Palette_init f fd) (M : Blt mg) (G : Gs mg) (TPalette : TPal K mg cP) (C : CInk P w K mg base) : FnOk P w K mg base CX0 3 f fd ["self", "inks"] (spPalI K cP) := by
  refine F.ok sc_Palette_init (fun vs H Q E h => ?_) (fun cdv A outer s H vs Q E hr h => ?_)
  · obtain ⟨p, dx, l, us, inks, rfl, _⟩ := h
    rfl
  · obtain ⟨p, dx, l, us, inks, rfl, hp, hl, al, ok, k⟩ := h
    have hu := hu_of hr
    obtain ⟨tI, gI⟩ := G.inks
    refine ⟨_, (pss_cons (ps_if (PW.pt (pw_or (pt_not (pt_val (pe_callB (k_isi (K := K) rfl) (by rfl) M.isinstance (by decide +kernel) (pa_cons (pv 1) (pa_cons (pe_bltn (v := .ty "list") (by rfl) M.list (by decide +kernel) rfl) pa_nil))))) (pw_or1 (pt_not (pt_chain op_le op_le pe_int (pe_callB (k_len (K := K) rfl) (by rfl) M.len (by decide +kernel) (pa_cons (pv 1) pa_nil)) (pe_glob (v := .int 8) (by rfl) gI ⟨_, rfl⟩)))))) (pss_one ps_never) pss_nil)
      (pss_cons (stoC rfl TPalette.cl TPalette.n_made (pv 0) (pe_lst pa_nil))
      (pss_cons (stoC rfl TPalette.cl TPalette.n_fades (pv 0) pe_dnewK)
      (pss_one (ps_for PassesOwn.never rfl (pi_enum (by rfl) M.enumerate (pa_cons (pv 1) pa_nil)) (pg_tup (n := 2) (by rfl) (pgs_cons (pg_name (i := 2) sc_Palette_init.nd rfl (by first | exact Or.inl rfl | exact Or.inr rfl)) (pgs_cons (pg_name (i := 3) sc_Palette_init.nd rfl (by first | exact Or.inl rfl | exact Or.inr rfl)) pgs_nil))) (pss_cons (ps_if (PW.pt (pw_or (pt_not (pt_val (callH C.is_ink hr (by rfl) (pa_cons (pv 3) pa_nil)))) (pw_or1 (pt_cmp (pc_din hu (pe_ix (k_ixT (K := K) rfl) (pv 3) pe_int (fun _ _ => rfl)) (fldC rfl TPalette.cl TPalette.n_fades (pv 0))))))) (pss_one ps_never) pss_nil)
      (pss_cons (ps_asg (pv 3) (pg_tup (n := 2) (by rfl) (pgs_cons (pg_name (i := 4) sc_Palette_init.nd rfl (by first | exact Or.inl rfl | exact Or.inr rfl)) (pgs_cons (pg_name (i := 5) sc_Palette_init.nd rfl (by first | exact Or.inl rfl | exact Or.inr rfl)) pgs_nil))))
      (pss_cons (ps_expr (pe_bm PySem.F.plainAttrs_list PySem.F.slot_list_append PySem.F.type_list_append mt_append (fldC rfl TPalette.cl TPalette.n_made (pv 0)) (pa_cons (pe_tup (pa_cons (pv 4) (pa_cons (pv 5) pa_nil))) pa_nil)))
      (pss_one (ps_dput hu (fldC rfl TPalette.cl TPalette.n_fades (pv 0)) (pv 4) (pv 5) (by rfl))))))))))), ?_⟩
    simp only [tSeq, tIfS, tTest, tOp, tUn, tVar, tC, rI, rI0, rU, rEq, rNe, rIxL, rIxT, rIxS, tCB, tCons, tNil, tRet, tRetN, tAsg, gTup, gCons, gNil, gName, gSub, rSetL, tNext, tDrop, tLst, tTup, tCall, tIf, tB, tAnd, tOr, tNot, tSl, tPart, tNoPart, tM1, tM0, tBM, tBM0, tLcE, tForE, iRng1, iRng2, iTup, iList, iStr, tYes, wipe, startDef, cxK, noxK, exists_and_left, exists_eq_left', exists_eq_left, exists_eq_right, Option.some.injEq, V.int.injEq, V.ref.injEq, V.str.injEq, V.bl.injEq, List.cons.injEq, and_true, true_and, List.append_nil, List.map_cons, List.map_nil, List.length_cons, List.length_nil, List.replicate, List.nil_append, List.cons_append, List.set_cons_zero, List.set_cons_succ, List.getElem?_cons_zero, List.getElem?_cons_succ, decide_eq_true_eq, exists_const, Nat.reduceAdd, Nat.reduceSub, List.replicate_succ, List.replicate_zero, exists_prop, and_assoc, List.set_nil, rLenK, rTupK, rLstK, rReprK, rEqD, rNeD, rIn, rAll, rAppend, rCat, ↓reduceIte, Bool.false_eq_true, iEnumT, rSortedPO, rIsi, rRep, rReverse, tLstRg, tTupRg, tRg1, tRg2, rSlL, rSlT, rSortedI, rSlF, rCatF, rMax, tLc2E, rSortedL, rSortedT, gUnl, tPar, rReprX, tChain, tDNewK, tDisp, tPairs, tAndV, tNotV, tFd, sFd, tMeth, tMake, tMakeK, gStar, iZipM, iItems, tLock, tSpread, tDcE, tDGet, sDPut, tPar3, tNever, rIxD, tChain, iEnum, tDIn, tDNotIn, gHd, spIsInk]
    have len := lays_len al
    have l1 := ok.pos
    have l8 := ok.most
    refine ⟨.type "list", .type "list", .ty "list", .base (.lst hl), true, kit_ty (by decide +kernel), ?_⟩
    rw [if_neg (by decide)]
    refine ⟨us, .inl (SqL.of hl), ?_⟩
    rw [if_pos (by omega), if_neg (by simp; omega)]
    refine ⟨by decide, fun m hm => ?_⟩
    have npm : p ≠ m := ne_of_none hp hm
    refine ⟨dx, [], by rw [upd_ne npm]; exact hp, by decide, fun fd hfd => ?_⟩
    have npf : p ≠ fd := by
      rintro rfl
      rw [upd_same] at hfd
      cases hfd
    have nfm : fd ≠ m := by
      rintro rfl
      rw [upd_ne (Ne.symm npm), upd_same] at hfd
      cases hfd
    have hf0 : H fd = none := by
      rw [upd_ne (Ne.symm npf), upd_ne nfm] at hfd
      exact hfd
    refine ⟨dx, _, by rw [upd_ne npf]; exact upd_same, by show 1 < 1000; decide, ?_⟩
    generalize eH0 : upd _ p (HO.ins cP dx (putF "_fades" (V.ref fd) _)) = H0
    have g1 : H0 p = some (.ins cP dx (palF m fd)) := by rw [← eH0]; exact upd_same
    have g2 : H0 m = some (.lst []) := by rw [← eH0, upd_ne (Ne.symm npm), upd_ne (Ne.symm nfm), upd_ne (Ne.symm npm)]; exact upd_same
    have g3 : H0 fd = some (.dK []) := by rw [← eH0, upd_ne (Ne.symm npf)]; exact upd_same
    have g4 : ∀ a o, a ≠ p → H a = some o → H0 a = some o := fun a o n e => by
      rw [← eH0, upd_ne n, upd_ne (ne_of_none e hf0), upd_ne n, upd_ne (ne_of_none e hm)]
      exact e
    clear eH0
    have nlp : l ≠ p := ne_of hl hp (by intro z; cases z)
    have dpH : ∀ {H' : Hp}, (∀ a o, a ≠ p → H a = some o → H' a = some o) → ∀ a xs, SqT K H a xs → SqT K H' a xs := fun {H'} s a xs h => by
      rcases h with (h | ⟨ob, h⟩) | h
      · exact Or.inl (Or.inl (s _ _ (ne_of h hp (by intro z; cases z)) h))
      · exact Or.inl (Or.inr ⟨ob, s _ _ (ne_of h hp (by intro z; cases z)) h⟩)
      · exact Or.inr h
    refine ⟨us, SqL.of (g4 _ _ nlp hl), ?_⟩
    refine for_it walk_enum (fun i σ H' => ∃ a2 a3 a4 a5, σ = [some (.ref p), some (.ref l), a2, a3, a4, a5] ∧ H' p = some (.ins cP dx (palF m fd)) ∧ (∃ vs, H' m = some (.lst vs) ∧ DpAll K H' vs ((inks.take i).map layD)) ∧
      H' fd = some (.dK (fadesK (inks.take i))) ∧ ∀ a o, a ≠ p → H a = some o → H' a = some o) ⟨none, none, none, none, rfl, g1, ⟨[], g2, .nil⟩, g3, g4⟩ (fun i σ H' _ ⟨_, _, _, _, _, _, _, _, s⟩ => SqL.of (s _ _ nlp hl)) ?_ ?_
    · rintro i x σ Ha H' hi ⟨a2, a3, a4, a5, rfl, q1, ⟨vs, q2, q3⟩, q4, q5⟩ ⟨T, x1, x2, rfl, nT, rfl, e1, e2⟩
      obtain rfl : V.int (i : Nat) = x1 := Option.some.inj e1
      obtain ⟨lay, b, e3, rfl, sq, hd⟩ := lays_get al e2
      have sT : Same Ha (upd Ha T (.tup [.int (i : Nat), .ref b])) := same_new nT
      simp only [tSeq, tIfS, tTest, tOp, tUn, tVar, tC, rI, rI0, rU, rEq, rNe, rIxL, rIxT, rIxS, tCB, tCons, tNil, tRet, tRetN, tAsg, gTup, gCons, gNil, gName, gSub, rSetL, tNext, tDrop, tLst, tTup, tCall, tIf, tB, tAnd, tOr, tNot, tSl, tPart, tNoPart, tM1, tM0, tBM, tBM0, tLcE, tForE, iRng1, iRng2, iTup, iList, iStr, tYes, wipe, startDef, cxK, noxK, exists_and_left, exists_eq_left', exists_eq_left, exists_eq_right, Option.some.injEq, V.int.injEq, V.ref.injEq, V.str.injEq, V.bl.injEq, List.cons.injEq, and_true, true_and, List.append_nil, List.map_cons, List.map_nil, List.length_cons, List.length_nil, List.replicate, List.nil_append, List.cons_append, List.set_cons_zero, List.set_cons_succ, List.getElem?_cons_zero, List.getElem?_cons_succ, decide_eq_true_eq, exists_const, Nat.reduceAdd, Nat.reduceSub, List.replicate_succ, List.replicate_zero, exists_prop, and_assoc, List.set_nil, rLenK, rTupK, rLstK, rReprK, rEqD, rNeD, rIn, rAll, rAppend, rCat, ↓reduceIte, Bool.false_eq_true, iEnumT, rSortedPO, rIsi, rRep, rReverse, tLstRg, tTupRg, tRg1, tRg2, rSlL, rSlT, rSortedI, rSlF, rCatF, rMax, tLc2E, rSortedL, rSortedT, gUnl, tPar, rReprX, tChain, tDNewK, tDisp, tPairs, tAndV, tNotV, tFd, sFd, tMeth, tMake, tMakeK, gStar, iZipM, iItems, tLock, tSpread, tDcE, tDGet, sDPut, tPar3, tNever, rIxD, tChain, iEnum, tDIn, tDNotIn, gHd, spIsInk]
      have il : i < inks.length := by omega
      obtain ⟨okn, ok0, _⟩ := ok.ok lay (List.mem_of_getElem? e3)
      have q5T : ∀ a o, a ≠ p → H a = some o → (upd Ha T (.tup [.int (i : Nat), .ref b])) a = some o := fun a o n e => sT a o (q5 a o n e)
      refine ⟨_, SqT.of upd_same, rfl, _, _, rfl, _, _, rfl, rfl, lay, Dp.move (dpH q5T) (flat_lay lay) hd, okn, ok0, fun H1 s1 => ?_⟩
      rw [if_neg (by decide)]
      have s01 := smT sT s1
      have p1 := s01 _ _ q1
      have p4 := s01 _ _ q4
      have sq1 : SqT K H1 b [.str lay.1, .int lay.2] := dpH (fun a o n e => s1 a o (q5T a o n e)) _ _ sq
      have notin : valV (fadesK (inks.take i)) (Sum.inr lay.1 : L2.Key) = none := valV_txt (fun j : Lay => j.1) (fun j : Lay => V.int j.2) (not_take (fun j : Lay => j.1) ok.nd e3)
      simp only [tSeq, tIfS, tTest, tOp, tUn, tVar, tC, rI, rI0, rU, rEq, rNe, rIxL, rIxT, rIxS, tCB, tCons, tNil, tRet, tRetN, tAsg, gTup, gCons, gNil, gName, gSub, rSetL, tNext, tDrop, tLst, tTup, tCall, tIf, tB, tAnd, tOr, tNot, tSl, tPart, tNoPart, tM1, tM0, tBM, tBM0, tLcE, tForE, iRng1, iRng2, iTup, iList, iStr, tYes, wipe, startDef, cxK, noxK, exists_and_left, exists_eq_left', exists_eq_left, exists_eq_right, Option.some.injEq, V.int.injEq, V.ref.injEq, V.str.injEq, V.bl.injEq, List.cons.injEq, and_true, true_and, List.append_nil, List.map_cons, List.map_nil, List.length_cons, List.length_nil, List.replicate, List.nil_append, List.cons_append, List.set_cons_zero, List.set_cons_succ, List.getElem?_cons_zero, List.getElem?_cons_succ, decide_eq_true_eq, exists_const, Nat.reduceAdd, Nat.reduceSub, List.replicate_succ, List.replicate_zero, exists_prop, and_assoc, List.set_nil, rLenK, rTupK, rLstK, rReprK, rEqD, rNeD, rIn, rAll, rAppend, rCat, ↓reduceIte, Bool.false_eq_true, iEnumT, rSortedPO, rIsi, rRep, rReverse, tLstRg, tTupRg, tRg1, tRg2, rSlL, rSlT, rSortedI, rSlF, rCatF, rMax, tLc2E, rSortedL, rSortedT, gUnl, tPar, rReprX, tChain, tDNewK, tDisp, tPairs, tAndV, tNotV, tFd, sFd, tMeth, tMake, tMakeK, gStar, iZipM, iItems, tLock, tSpread, tDcE, tDGet, sDPut, tPar3, tNever, rIxD, tChain, iEnum, tDIn, tDNotIn, gHd]
      have pm := s01 _ _ q2
      refine ⟨_, sq1, _, rfl, dx, _, p1, _, rfl, fd, rfl, _, by have := DGet.k (k := (Sum.inr lay.1 : L2.Key)) p4; rw [notin] at this; exact this, ?_⟩
      rw [if_neg (by decide)]
      refine ⟨_, sq1, rfl, _, _, rfl, _, _, rfl, rfl, dx, _, p1, _, rfl, .inl ⟨rfl, _, SqL.of pm⟩, by decide, fun t ht => ?_⟩
      have nmt : m ≠ t := ne_of_none pm ht
      have npt : p ≠ t := ne_of_none p1 ht
      have nft : fd ≠ t := ne_of_none p4 ht
      have lv : vs.length = i := by
        rw [lays_len q3, List.length_take]
        omega
      have lf : (fadesK (inks.take i)).length = i := by
        unfold fadesK
        rw [List.length_map, List.length_take]
        omega
      have line : (1000 : Nat) < sizeLine := by decide
      refine ⟨m, rfl, vs, by rw [upd_ne nmt]; exact pm, by omega, dx, _, by rw [upd_ne npm, upd_ne npt]; exact p1, _, rfl, fd, rfl, _, DPut.k (k := (Sum.inr lay.1 : L2.Key)) (kvs := fadesK (inks.take i)) (by rw [upd_ne nfm, upd_ne nft]; exact p4) (by omega), ?_⟩
      rw [putK_new _ notin]
      generalize eH : upd (upd (upd H1 t _) m _) fd _ = H2
      have c1 : H2 p = some (.ins cP dx (palF m fd)) := by rw [← eH, upd_ne npf, upd_ne npm, upd_ne npt]; exact p1
      have c2 : H2 m = some (.lst (vs ++ [.ref t])) := by rw [← eH, upd_ne (Ne.symm nfm)]; exact upd_same
      have c3 : H2 fd = some (.dK (fadesK (inks.take i) ++ [(Sum.inr lay.1, .int lay.2)])) := by rw [← eH]; exact upd_same
      have c4 : ∀ a o, a ≠ m → a ≠ fd → H1 a = some o → H2 a = some o := fun a o n1 n2 e => by
        rw [← eH, upd_ne n2, upd_ne n1, upd_ne (ne_of_none e ht)]
        exact e
      have c5 : H2 t = some (.tup [.str lay.1, .int lay.2]) := by rw [← eH, upd_ne (Ne.symm nft), upd_ne (Ne.symm nmt)]; exact upd_same
      have cT : ∀ a xs, SqT K H1 a xs → SqT K H2 a xs := fun a xs h => by
        rcases h with (h | ⟨ob, h⟩) | h
        · exact Or.inl (Or.inl (c4 _ _ (ne_of h pm (by intro z; cases z)) (ne_of h p4 (by intro z; cases z)) h))
        · exact Or.inl (Or.inr ⟨ob, c4 _ _ (ne_of h pm (by intro z; cases z)) (ne_of h p4 (by intro z; cases z)) h⟩)
        · exact Or.inr h
      refine ⟨c1, ⟨_, c2, ?_⟩, ?_, fun a o n e => c4 a o (ne_of_none e hm) (ne_of_none e hf0) (s1 a o (q5T a o n e))⟩
      · rw [take_succ_map _ _ e3]
        exact DpAll.app (DpAll.move cT (flat_lays _) (smDps s01 (flat_lays _) q3)) (.cons (lay_mk (SqT.of c5)) .nil)
      · rw [c3]
        unfold fadesK
        rw [take_succ_map _ _ e3]
    · rintro σ H' ⟨a2, a3, a4, a5, rfl, q1, ⟨vs, q2, q3⟩, q4, q5⟩
      simp only [tSeq, tIfS, tTest, tOp, tUn, tVar, tC, rI, rI0, rU, rEq, rNe, rIxL, rIxT, rIxS, tCB, tCons, tNil, tRet, tRetN, tAsg, gTup, gCons, gNil, gName, gSub, rSetL, tNext, tDrop, tLst, tTup, tCall, tIf, tB, tAnd, tOr, tNot, tSl, tPart, tNoPart, tM1, tM0, tBM, tBM0, tLcE, tForE, iRng1, iRng2, iTup, iList, iStr, tYes, wipe, startDef, cxK, noxK, exists_and_left, exists_eq_left', exists_eq_left, exists_eq_right, Option.some.injEq, V.int.injEq, V.ref.injEq, V.str.injEq, V.bl.injEq, List.cons.injEq, and_true, true_and, List.append_nil, List.map_cons, List.map_nil, List.length_cons, List.length_nil, List.replicate, List.nil_append, List.cons_append, List.set_cons_zero, List.set_cons_succ, List.getElem?_cons_zero, List.getElem?_cons_succ, decide_eq_true_eq, exists_const, Nat.reduceAdd, Nat.reduceSub, List.replicate_succ, List.replicate_zero, exists_prop, and_assoc, List.set_nil, rLenK, rTupK, rLstK, rReprK, rEqD, rNeD, rIn, rAll, rAppend, rCat, ↓reduceIte, Bool.false_eq_true, iEnumT, rSortedPO, rIsi, rRep, rReverse, tLstRg, tTupRg, tRg1, tRg2, rSlL, rSlT, rSortedI, rSlF, rCatF, rMax, tLc2E, rSortedL, rSortedT, gUnl, tPar, rReprX, tChain, tDNewK, tDisp, tPairs, tAndV, tNotV, tFd, sFd, tMeth, tMake, tMakeK, gStar, iZipM, iItems, tLock, tSpread, tDcE, tDGet, sDPut, tPar3, tNever, rIxD, tChain, iEnum, tDIn, tDNotIn, gHd]
      have e : inks.take us.length = inks := List.take_of_length_le (by omega)
      rw [e] at q3 q4
      exact k m fd H' hm hf0 ⟨⟨dx, q1⟩, ⟨vs, q2, q3⟩, q4⟩ q5
abbrev s_Palette_names : Stmt := inClass (topS 29) 2
theorem sc_Palette_names : FnScope ["self", "ink"] ["self"] (defScope s_Palette_names) := ⟨rfl, rfl, rfl, by decide +kernel, rfl, by decide +kernel, by decide +kernel⟩

def spNamesP (K : PySem.W.Frag) (cP : Addr) : Sp := fun vs H Q _ => ∃ (p m f : Addr) (inks : List Lay), vs = [.ref p] ∧ PalAt K cP H p m f inks ∧ inks.length ≤ 8 ∧
  ∀ q H', H q = none → Same H H' → H' q = some (.lst ((inks.map (·.1)).map V.str)) → Q (.ref q) H'
theorem ok_Palette_names {f : Addr} {fd : FuncData} (F : Fun K "names" "Palette.names" s_Palette_names f fd) (M : Blt mg) (TPalette : TPal K mg cP) : FnOk P w K mg base CX0 1 f fd ["self"] (spNamesP K cP) := by
  refine F.ok sc_Palette_names (fun vs H Q E h => ?_) (fun cdv A outer s H vs Q E hr h => ?_)
  · obtain ⟨p, m, f, inks, rfl, _⟩ := h
    rfl
  · obtain ⟨p, m, f, inks, rfl, ⟨⟨dx, hp⟩, ⟨us, hm, al⟩, hf⟩, l8, k⟩ := h
    refine ⟨_, (pss_one (ps_ret (pe_lc (own := [("ink", 1)]) (g := gName 1) (tt := tYes) rfl sc_Palette_names.nd (pi_list (fldC rfl TPalette.cl TPalette.n_made (pv 0))) (blkOk_by (own := [("ink", 1)]) (N := ["self", "ink"]) (sc := defScope s_Palette_names) (by decide +kernel)) (fun _ _ _ _ _ => (pg_name (i := 1) sc_Palette_names.nd rfl (by first | exact Or.inl rfl | exact Or.inr rfl))) (fun _ _ _ _ _ => pts_nil) (fun _ _ _ _ _ => (pe_ix (k_ixT (K := K) rfl) (pv 1) pe_int (fun _ _ => rfl)))))), ?_⟩
    simp only [tSeq, tIfS, tTest, tOp, tUn, tVar, tC, rI, rI0, rU, rEq, rNe, rIxL, rIxT, rIxS, tCB, tCons, tNil, tRet, tRetN, tAsg, gTup, gCons, gNil, gName, gSub, rSetL, tNext, tDrop, tLst, tTup, tCall, tIf, tB, tAnd, tOr, tNot, tSl, tPart, tNoPart, tM1, tM0, tBM, tBM0, tLcE, tForE, iRng1, iRng2, iTup, iList, iStr, tYes, wipe, startDef, cxK, noxK, exists_and_left, exists_eq_left', exists_eq_left, exists_eq_right, Option.some.injEq, V.int.injEq, V.ref.injEq, V.str.injEq, V.bl.injEq, List.cons.injEq, and_true, true_and, List.append_nil, List.map_cons, List.map_nil, List.length_cons, List.length_nil, List.replicate, List.nil_append, List.cons_append, List.set_cons_zero, List.set_cons_succ, List.getElem?_cons_zero, List.getElem?_cons_succ, decide_eq_true_eq, exists_const, Nat.reduceAdd, Nat.reduceSub, List.replicate_succ, List.replicate_zero, exists_prop, and_assoc, List.set_nil, rLenK, rTupK, rLstK, rReprK, rEqD, rNeD, rIn, rAll, rAppend, rCat, ↓reduceIte, Bool.false_eq_true, iEnumT, rSortedPO, rIsi, rRep, rReverse, tLstRg, tTupRg, tRg1, tRg2, rSlL, rSlT, rSortedI, rSlF, rCatF, rMax, tLc2E, rSortedL, rSortedT, gUnl, tPar, rReprX, tChain, tDNewK, tDisp, tPairs, tAndV, tNotV, tFd, sFd, tMeth, tMake, tMakeK, gStar, iZipM, iItems, tLock, tSpread, tDcE, tDGet, sDPut, tPar3, tNever, rIxD, tChain, iEnum, tDIn, tDNotIn, gHd]
    have len := lays_len al
    refine ⟨dx, _, hp, _, rfl, m, rfl, ⟨us, SqL.of hm⟩, ?_⟩
    refine lcLst (K := K) (xs := us) none (fun i ds => ds = ((inks.take i).map (·.1)).map PyData.str) potN (SqL.of hm) (fun z => nomatch z) (by omega) rfl (fun _ => rfl) ?_ ?_
    · rintro i x Ha ds C N hi sa fl rfl go _
      obtain ⟨lay, b, e3, rfl, sq, _⟩ := lays_get al hi
      simp only [tSeq, tIfS, tTest, tOp, tUn, tVar, tC, rI, rI0, rU, rEq, rNe, rIxL, rIxT, rIxS, tCB, tCons, tNil, tRet, tRetN, tAsg, gTup, gCons, gNil, gName, gSub, rSetL, tNext, tDrop, tLst, tTup, tCall, tIf, tB, tAnd, tOr, tNot, tSl, tPart, tNoPart, tM1, tM0, tBM, tBM0, tLcE, tForE, iRng1, iRng2, iTup, iList, iStr, tYes, wipe, startDef, cxK, noxK, exists_and_left, exists_eq_left', exists_eq_left, exists_eq_right, Option.some.injEq, V.int.injEq, V.ref.injEq, V.str.injEq, V.bl.injEq, List.cons.injEq, and_true, true_and, List.append_nil, List.map_cons, List.map_nil, List.length_cons, List.length_nil, List.replicate, List.nil_append, List.cons_append, List.set_cons_zero, List.set_cons_succ, List.getElem?_cons_zero, List.getElem?_cons_succ, decide_eq_true_eq, exists_const, Nat.reduceAdd, Nat.reduceSub, List.replicate_succ, List.replicate_zero, exists_prop, and_assoc, List.set_nil, rLenK, rTupK, rLstK, rReprK, rEqD, rNeD, rIn, rAll, rAppend, rCat, ↓reduceIte, Bool.false_eq_true, iEnumT, rSortedPO, rIsi, rRep, rReverse, tLstRg, tTupRg, tRg1, tRg2, rSlL, rSlT, rSortedI, rSlF, rCatF, rMax, tLc2E, rSortedL, rSortedT, gUnl, tPar, rReprX, tChain, tDNewK, tDisp, tPairs, tAndV, tNotV, tFd, sFd, tMeth, tMake, tMakeK, gStar, iZipM, iItems, tLock, tSpread, tDcE, tDGet, sDPut, tPar3, tNever, rIxD, tChain, iEnum, tDIn, tDNotIn, gHd]
      refine ⟨_, St.tup potN sa sq, _, rfl, ?_⟩
      refine go _ _ (.str lay.1) (St.refl potN) (by simp [flatT]) (.str _) ?_
      rw [take_succ_map _ _ e3, List.map_append]
      rfl
    · rintro D acc ds H1 hD sD hl fl al1 rfl
      rw [len, List.take_length] at al1
      obtain rfl := dps_strs_inv al1
      exact k D H1 hD sD.toSame hl
abbrev s_Palette_inks : Stmt := inClass (topS 29) 1
theorem sc_Palette_inks : FnScope ["self"] ["self"] (defScope s_Palette_inks) := ⟨rfl, rfl, rfl, by decide +kernel, rfl, by decide +kernel, by decide +kernel⟩

def spInksP (K : PySem.W.Frag) (cP : Addr) : Sp := fun vs H Q _ => ∃ (p m f : Addr) (inks : List Lay), vs = [.ref p] ∧ PalAt K cP H p m f inks ∧
  ∀ q us H', H q = none → Same H H' → H' q = some (.lst us) → DpAll K H' us (inks.map layD) → Q (.ref q) H'
theorem ok_Palette_inks {f : Addr} {fd : FuncData} (F : Fun K "inks" "Palette.inks" s_Palette_inks f fd) (M : Blt mg) (TPalette : TPal K mg cP) : FnOk P w K mg base CX0 1 f fd ["self"] (spInksP K cP) := by
  refine F.ok sc_Palette_inks (fun vs H Q E h => ?_) (fun cdv A outer s H vs Q E hr h => ?_)
  · obtain ⟨p, m, f, inks, rfl, _⟩ := h
    rfl
  · obtain ⟨p, m, f, inks, rfl, ⟨⟨dx, hp⟩, ⟨us, hm, al⟩, hf⟩, k⟩ := h
    refine ⟨_, (pss_one (ps_ret (pe_callTy (k_lst (K := K) rfl) (by rfl) M.list (by decide +kernel) (pa_cons (fldC rfl TPalette.cl TPalette.n_made (pv 0)) pa_nil)))), ?_⟩
    simp only [tSeq, tIfS, tTest, tOp, tUn, tVar, tC, rI, rI0, rU, rEq, rNe, rIxL, rIxT, rIxS, tCB, tCons, tNil, tRet, tRetN, tAsg, gTup, gCons, gNil, gName, gSub, rSetL, tNext, tDrop, tLst, tTup, tCall, tIf, tB, tAnd, tOr, tNot, tSl, tPart, tNoPart, tM1, tM0, tBM, tBM0, tLcE, tForE, iRng1, iRng2, iTup, iList, iStr, tYes, wipe, startDef, cxK, noxK, exists_and_left, exists_eq_left', exists_eq_left, exists_eq_right, Option.some.injEq, V.int.injEq, V.ref.injEq, V.str.injEq, V.bl.injEq, List.cons.injEq, and_true, true_and, List.append_nil, List.map_cons, List.map_nil, List.length_cons, List.length_nil, List.replicate, List.nil_append, List.cons_append, List.set_cons_zero, List.set_cons_succ, List.getElem?_cons_zero, List.getElem?_cons_succ, decide_eq_true_eq, exists_const, Nat.reduceAdd, Nat.reduceSub, List.replicate_succ, List.replicate_zero, exists_prop, and_assoc, List.set_nil, rLenK, rTupK, rLstK, rReprK, rEqD, rNeD, rIn, rAll, rAppend, rCat, ↓reduceIte, Bool.false_eq_true, iEnumT, rSortedPO, rIsi, rRep, rReverse, tLstRg, tTupRg, tRg1, tRg2, rSlL, rSlT, rSortedI, rSlF, rCatF, rMax, tLc2E, rSortedL, rSortedT, gUnl, tPar, rReprX, tChain, tDNewK, tDisp, tPairs, tAndV, tNotV, tFd, sFd, tMeth, tMake, tMakeK, gStar, iZipM, iItems, tLock, tSpread, tDcE, tDGet, sDPut, tPar3, tNever, rIxD, tChain, iEnum, tDIn, tDNotIn, gHd]
    refine ⟨dx, _, hp, _, rfl, m, rfl, us, .inl (SqL.of hm), fun q hq => ?_⟩
    have s1 : Same H (upd H q (.lst us)) := same_new hq
    exact k q us _ hq s1 upd_same (smDps s1 (flat_lays _) al)
abbrev s_Palette_has : Stmt := inClass (topS 29) 3
theorem sc_Palette_has : FnScope ["self", "name"] ["self", "name"] (defScope s_Palette_has) := ⟨rfl, rfl, rfl, by decide +kernel, rfl, by decide +kernel, by decide +kernel⟩

def spHas (K : PySem.W.Frag) (cP : Addr) : Sp := fun vs H Q _ => ∃ (p m f : Addr) (inks : List Lay) (v : V), vs = [.ref p, v] ∧ PalAt K cP H p m f inks ∧ Cl K H v ∧
  ∀ H', Same H H' → Q (.bl (nameB v && decide (v ∈ (inks.map (·.1)).map V.str))) H'
theorem ok_Palette_has {f : Addr} {fd : FuncData} (F : Fun K "has" "Palette.has" s_Palette_has f fd) (M : Blt mg) (TPalette : TPal K mg cP) (C : CNm P w K mg base) : FnOk P w K mg base CX0 2 f fd ["self", "name"] (spHas K cP) := by
  refine F.ok sc_Palette_has (fun vs H Q E h => ?_) (fun cdv A outer s H vs Q E hr h => ?_)
  · obtain ⟨p, m, f, inks, v, rfl, _⟩ := h
    rfl
  · obtain ⟨p, m, f, inks, v, rfl, hP, hv, k⟩ := h
    have hu := hu_of hr
    refine ⟨_, (pss_one (ps_ret (pe_and (callH C.is_name hr (by rfl) (pa_cons (pv 1) pa_nil)) (pe_one (pe_cmp (pc_din hu (pv 1) (fldC rfl TPalette.cl TPalette.n_fades (pv 0))) (by rfl)))))), ?_⟩
    simp only [tSeq, tIfS, tTest, tOp, tUn, tVar, tC, rI, rI0, rU, rEq, rNe, rIxL, rIxT, rIxS, tCB, tCons, tNil, tRet, tRetN, tAsg, gTup, gCons, gNil, gName, gSub, rSetL, tNext, tDrop, tLst, tTup, tCall, tIf, tB, tAnd, tOr, tNot, tSl, tPart, tNoPart, tM1, tM0, tBM, tBM0, tLcE, tForE, iRng1, iRng2, iTup, iList, iStr, tYes, wipe, startDef, cxK, noxK, exists_and_left, exists_eq_left', exists_eq_left, exists_eq_right, Option.some.injEq, V.int.injEq, V.ref.injEq, V.str.injEq, V.bl.injEq, List.cons.injEq, and_true, true_and, List.append_nil, List.map_cons, List.map_nil, List.length_cons, List.length_nil, List.replicate, List.nil_append, List.cons_append, List.set_cons_zero, List.set_cons_succ, List.getElem?_cons_zero, List.getElem?_cons_succ, decide_eq_true_eq, exists_const, Nat.reduceAdd, Nat.reduceSub, List.replicate_succ, List.replicate_zero, exists_prop, and_assoc, List.set_nil, rLenK, rTupK, rLstK, rReprK, rEqD, rNeD, rIn, rAll, rAppend, rCat, ↓reduceIte, Bool.false_eq_true, iEnumT, rSortedPO, rIsi, rRep, rReverse, tLstRg, tTupRg, tRg1, tRg2, rSlL, rSlT, rSortedI, rSlF, rCatF, rMax, tLc2E, rSortedL, rSortedT, gUnl, tPar, rReprX, tChain, tDNewK, tDisp, tPairs, tAndV, tNotV, tFd, sFd, tMeth, tMake, tMakeK, gStar, iZipM, iItems, tLock, tSpread, tDcE, tDGet, sDPut, tPar3, tNever, rIxD, tChain, iEnum, tDIn, tDNotIn, gHd, spName]
    refine ⟨hv, fun H1 s1 => ?_⟩
    obtain ⟨⟨dx, hp⟩, _, hf⟩ := hP.same s1
    cases e : nameB v with
    | false =>
      rw [if_neg (by decide)]
      have q := k H1 s1
      rw [e] at q
      exact q
    | true =>
      rw [if_pos rfl]
      obtain ⟨z, rfl⟩ : ∃ z, v = .str z := by
        cases v <;> first | exact ⟨_, rfl⟩ | cases e
      refine ⟨dx, _, hp, _, rfl, f, rfl, _, DGet.k (k := (Sum.inr z : L2.Key)) hf, ?_⟩
      have q := k H1 s1
      rw [e, Bool.true_and] at q
      have e2 : (valV (fadesK inks) (Sum.inr z : L2.Key)).isSome = decide (V.str z ∈ (inks.map (·.1)).map V.str) := by
        by_cases mz : z ∈ inks.map (·.1)
        · rw [decide_eq_true (List.mem_map.mpr ⟨z, mz, rfl⟩)]
          rw [← valV_any]
          obtain ⟨lay, ml, rfl⟩ := List.mem_map.mp mz
          exact List.any_eq_true.mpr ⟨_, List.mem_map.mpr ⟨lay, ml, rfl⟩, decide_eq_true rfl⟩
        · rw [decide_eq_false (fun m => mz (by obtain ⟨y, my, e⟩ := List.mem_map.mp m; cases e; exact my))]
          have := valV_txt (fun j : Lay => j.1) (fun j : Lay => V.int j.2) mz
          show (valV (fadesK inks) (Sum.inr z : L2.Key)).isSome = false
          unfold fadesK
          rw [this]
          rfl
      rw [e2]
      exact q
abbrev s_Palette_fade : Stmt := inClass (topS 29) 4
theorem sc_Palette_fade : FnScope ["self", "name"] ["self", "name"] (defScope s_Palette_fade) := ⟨rfl, rfl, rfl, by decide +kernel, rfl, by decide +kernel, by decide +kernel⟩

def spFade (K : PySem.W.Frag) (cP : Addr) : Sp := fun vs H Q _ => ∃ (p m f : Addr) (inks : List Lay) (l : Lay), vs = [.ref p, .str l.1] ∧ PalAt K cP H p m f inks ∧ l ∈ inks ∧ InksOk inks ∧
  ∀ H', Same H H' → Q (.int l.2) H'
structure CHas (P : Program) (w : World) (K : PySem.W.Frag) (mg : Str → Option Value) (base : Heap) (cP : Addr) : Prop where
  Palette_has : HasM P w K mg base cP "has" 2 ["self", "name"] (spHas K cP)
theorem ok_Palette_fade {f : Addr} {fd : FuncData} (F : Fun K "fade" "Palette.fade" s_Palette_fade f fd) (M : Blt mg) (TPalette : TPal K mg cP) (C : CHas P w K mg base cP) : FnOk P w K mg base CX0 3 f fd ["self", "name"] (spFade K cP) := by
  refine F.ok sc_Palette_fade (fun vs H Q E h => ?_) (fun cdv A outer s H vs Q E hr h => ?_)
  · obtain ⟨p, m, f, inks, v, rfl, _⟩ := h
    rfl
  · obtain ⟨p, m, f, inks, l, rfl, hP, ml, ok, k⟩ := h
    have hu := hu_of hr
    refine ⟨_, (pss_cons (ps_if (pt_not (pt_val (methC C.Palette_has TPalette.cl hr (pv 0) (pa_cons (pv 1) pa_nil)))) (pss_one ps_never) pss_nil)
      (pss_one (ps_ret (pe_dget hu (fldC rfl TPalette.cl TPalette.n_fades (pv 0)) (pv 1) (fun _ _ => rfl))))), ?_⟩
    simp only [tSeq, tIfS, tTest, tOp, tUn, tVar, tC, rI, rI0, rU, rEq, rNe, rIxL, rIxT, rIxS, tCB, tCons, tNil, tRet, tRetN, tAsg, gTup, gCons, gNil, gName, gSub, rSetL, tNext, tDrop, tLst, tTup, tCall, tIf, tB, tAnd, tOr, tNot, tSl, tPart, tNoPart, tM1, tM0, tBM, tBM0, tLcE, tForE, iRng1, iRng2, iTup, iList, iStr, tYes, wipe, startDef, cxK, noxK, exists_and_left, exists_eq_left', exists_eq_left, exists_eq_right, Option.some.injEq, V.int.injEq, V.ref.injEq, V.str.injEq, V.bl.injEq, List.cons.injEq, and_true, true_and, List.append_nil, List.map_cons, List.map_nil, List.length_cons, List.length_nil, List.replicate, List.nil_append, List.cons_append, List.set_cons_zero, List.set_cons_succ, List.getElem?_cons_zero, List.getElem?_cons_succ, decide_eq_true_eq, exists_const, Nat.reduceAdd, Nat.reduceSub, List.replicate_succ, List.replicate_zero, exists_prop, and_assoc, List.set_nil, rLenK, rTupK, rLstK, rReprK, rEqD, rNeD, rIn, rAll, rAppend, rCat, ↓reduceIte, Bool.false_eq_true, iEnumT, rSortedPO, rIsi, rRep, rReverse, tLstRg, tTupRg, tRg1, tRg2, rSlL, rSlT, rSortedI, rSlF, rCatF, rMax, tLc2E, rSortedL, rSortedT, gUnl, tPar, rReprX, tChain, tDNewK, tDisp, tPairs, tAndV, tNotV, tFd, sFd, tMeth, tMake, tMakeK, gStar, iZipM, iItems, tLock, tSpread, tDcE, tDGet, sDPut, tPar3, tNever, rIxD, tChain, iEnum, tDIn, tDNotIn, gHd, spHas]
    obtain ⟨⟨dx, hp⟩, _, hf⟩ := id hP
    refine ⟨dx, _, hp, rfl, m, f, inks, hP, cl_nm (ok.ok l ml).1, fun H1 s1 => ?_⟩
    obtain ⟨⟨dx1, hp1⟩, _, hf1⟩ := hP.same s1
    have e : (nameB (.str l.1) && decide (V.str l.1 ∈ (inks.map (·.1)).map V.str)) = true := by
      rw [nameB_tag (ok.ok l ml).1, Bool.true_and]
      exact decide_eq_true (List.mem_map.mpr ⟨l.1, List.mem_map.mpr ⟨l, ml, rfl⟩, rfl⟩)
    rw [e]
    rw [if_neg (by decide)]
    refine ⟨dx1, _, hp1, _, rfl, f, rfl, _, ?_, k H1 s1⟩
    have q := DGet.k (k := (Sum.inr l.1 : L2.Key)) hf1
    have q2 : valV (fadesK inks) (Sum.inr l.1 : L2.Key) = some (.int l.2) := valV_txtS (fun j : Lay => j.1) (fun j : Lay => V.int j.2) ml ok.nd
    rw [q2] at q
    exact q

end

/-! ### deeds -/
section
variable {P : Program} {w : World} {K : PySem.W.Frag} {mg : Str → Option Value} {base : Heap} {cP : Addr}
def kindB (inks : List Lay) (kd : Str) (v : V) : Bool :=
  if kd = "ink" then nameB v && decide (v ∈ (inks.map (·.1)).map V.str) else if kd = "tag" then nameB v else amtB v
def kindsOf (z : Str) : Option (List Str) :=
  if z = "lay" then some ["ink", "tag", "amount"] else if z = "wait" then some ["amount"] else if z = "wash" then some ["ink", "amount"] else if z = "warm" then some ["ink", "amount"]
  else if z = "scrape" then some [] else if z = "rub" then some ["amount"] else none
structure TKd (K : PySem.W.Frag) (w : World) (mg : Str → Option Value) (kd : Addr) : Prop where
  at_ : mg "_KINDS" = some (.ref kd)
  get : ∀ z ks, kindsOf z = some ks → ∃ t, KDct K w kd z (.ref t) ∧ ∀ H, SqT K H t (ks.map V.str)
theorem k_ixKd {X : Cx} (h : X.K = K) (hw : X.w = w) : IxR X (rIxD K w) := h ▸ hw ▸ ix_kdict
abbrev s_wears : Stmt := topS 33
theorem sc_wears : FnScope ["deed"] ["deed"] (defScope s_wears) := ⟨rfl, rfl, rfl, by decide +kernel, rfl, by decide +kernel, by decide +kernel⟩

def spWears (K : PySem.W.Frag) : Sp := fun vs H Q _ => ∃ (a : Addr) (z : Str) (r : List V), vs = [.ref a] ∧ SqT K H a (.str z :: r) ∧ ∀ H', Same H H' → Q (.bl (decide (z = "scrape" ∨ z = "rub"))) H'
theorem ok_wears {f : Addr} {fd : FuncData} (F : Fun K "wears" "wears" s_wears f fd) (M : Blt mg) : FnOk P w K mg base CX0 1 f fd ["deed"] (spWears K) := by
  refine F.ok sc_wears (fun vs H Q E h => ?_) (fun cdv A outer s H vs Q E hr h => ?_)
  · obtain ⟨a, z, r, rfl, _⟩ := h
    rfl
  · obtain ⟨a, z, r, rfl, hs, k⟩ := h
    refine ⟨_, (pss_one (ps_ret (pe_cmpR (k_in (K := K) rfl) (pe_ix (k_ixT (K := K) rfl) (pv 0) pe_int (fun _ _ => rfl)) (pe_tup (pa_cons pe_str (pa_cons pe_str pa_nil))) (by rfl)))), ?_⟩
    simp only [tSeq, tIfS, tTest, tOp, tUn, tVar, tC, rI, rI0, rU, rEq, rNe, rIxL, rIxT, rIxS, tCB, tCons, tNil, tRet, tRetN, tAsg, gTup, gCons, gNil, gName, gSub, rSetL, tNext, tDrop, tLst, tTup, tCall, tIf, tB, tAnd, tOr, tNot, tSl, tPart, tNoPart, tM1, tM0, tBM, tBM0, tLcE, tForE, iRng1, iRng2, iTup, iList, iStr, tYes, wipe, startDef, cxK, noxK, exists_and_left, exists_eq_left', exists_eq_left, exists_eq_right, Option.some.injEq, V.int.injEq, V.ref.injEq, V.str.injEq, V.bl.injEq, List.cons.injEq, and_true, true_and, List.append_nil, List.map_cons, List.map_nil, List.length_cons, List.length_nil, List.replicate, List.nil_append, List.cons_append, List.set_cons_zero, List.set_cons_succ, List.getElem?_cons_zero, List.getElem?_cons_succ, decide_eq_true_eq, exists_const, Nat.reduceAdd, Nat.reduceSub, List.replicate_succ, List.replicate_zero, exists_prop, and_assoc, List.set_nil, rLenK, rTupK, rLstK, rReprK, rEqD, rNeD, rIn, rAll, rAppend, rCat, ↓reduceIte, Bool.false_eq_true, iEnumT, rSortedPO, rIsi, rRep, rReverse, tLstRg, tTupRg, tRg1, tRg2, rSlL, rSlT, rSortedI, rSlF, rCatF, rMax, tLc2E, rSortedL, rSortedT, gUnl, tPar, rReprX, tChain, tDNewK, tDisp, tPairs, tAndV, tNotV, tFd, sFd, tMeth, tMake, tMakeK, gStar, iZipM, iItems, tLock, tSpread, tDcE, tDGet, sDPut, tPar3, tNever, rIxD, tChain, iEnum, tDIn, tDNotIn, gHd]
    refine ⟨_, hs, V.str z, atI_nat (j := 0) rfl, by decide, fun p hp => ⟨_, .inr (SqT.of upd_same), by rfl, by rfl, ?_⟩⟩
    have e : inV (V.str z) [V.str "scrape", V.str "rub"] = decide (z = "scrape" ∨ z = "rub") := by
      have := inV_strs ["scrape", "rub"] z
      rw [show [V.str "scrape", V.str "rub"] = (["scrape", "rub"] : List Str).map V.str from rfl, this]
      simp
    rw [e]
    exact k _ (same_new hp)
structure CKind (P : Program) (w : World) (K : PySem.W.Frag) (mg : Str → Option Value) (base : Heap) (cP : Addr) : Prop extends CHas P w K mg base cP, CNm P w K mg base where
  is_amount : Has P w K mg base "is_amount" 2 ["thing"] (spAmt K)
abbrev s_is_kind : Stmt := topS 35
theorem sc_is_kind : FnScope ["item", "kind", "palette"] ["item", "kind", "palette"] (defScope s_is_kind) := ⟨rfl, rfl, rfl, by decide +kernel, rfl, by decide +kernel, by decide +kernel⟩

def spIsKind (K : PySem.W.Frag) (cP : Addr) : Sp := fun vs H Q _ => ∃ (v : V) (kd : Str) (p m f : Addr) (inks : List Lay), vs = [v, .str kd, .ref p] ∧ PalAt K cP H p m f inks ∧ Cl K H v ∧ ∀ H', Same H H' → Q (.bl (kindB inks kd v)) H'
theorem ok_is_kind {f : Addr} {fd : FuncData} (F : Fun K "_is_kind" "_is_kind" s_is_kind f fd) (M : Blt mg) (TPalette : TPal K mg cP) (C : CKind P w K mg base cP) : FnOk P w K mg base CX0 3 f fd ["item", "kind", "palette"] (spIsKind K cP) := by
  refine F.ok sc_is_kind (fun vs H Q E h => ?_) (fun cdv A outer s H vs Q E hr h => ?_)
  · obtain ⟨v, kd, p, m, f, inks, rfl, _⟩ := h
    rfl
  · obtain ⟨v, kd, p, m, f, inks, rfl, hP, hv, k⟩ := h
    refine ⟨_, (pss_cons (ps_if (pt_cmpR op_eq (pv 1) pe_str (nomark _)) (pss_one (ps_ret (methC C.Palette_has TPalette.cl hr (pv 2) (pa_cons (pv 0) pa_nil)))) pss_nil)
      (pss_cons (ps_if (pt_cmpR op_eq (pv 1) pe_str (nomark _)) (pss_one (ps_ret (callH C.is_name hr (by rfl) (pa_cons (pv 0) pa_nil)))) pss_nil)
      (pss_one (ps_ret (callH C.is_amount hr (by rfl) (pa_cons (pv 0) pa_nil)))))), ?_⟩
    simp only [tSeq, tIfS, tTest, tOp, tUn, tVar, tC, rI, rI0, rU, rEq, rNe, rIxL, rIxT, rIxS, tCB, tCons, tNil, tRet, tRetN, tAsg, gTup, gCons, gNil, gName, gSub, rSetL, tNext, tDrop, tLst, tTup, tCall, tIf, tB, tAnd, tOr, tNot, tSl, tPart, tNoPart, tM1, tM0, tBM, tBM0, tLcE, tForE, iRng1, iRng2, iTup, iList, iStr, tYes, wipe, startDef, cxK, noxK, exists_and_left, exists_eq_left', exists_eq_left, exists_eq_right, Option.some.injEq, V.int.injEq, V.ref.injEq, V.str.injEq, V.bl.injEq, List.cons.injEq, and_true, true_and, List.append_nil, List.map_cons, List.map_nil, List.length_cons, List.length_nil, List.replicate, List.nil_append, List.cons_append, List.set_cons_zero, List.set_cons_succ, List.getElem?_cons_zero, List.getElem?_cons_succ, decide_eq_true_eq, exists_const, Nat.reduceAdd, Nat.reduceSub, List.replicate_succ, List.replicate_zero, exists_prop, and_assoc, List.set_nil, rLenK, rTupK, rLstK, rReprK, rEqD, rNeD, rIn, rAll, rAppend, rCat, ↓reduceIte, Bool.false_eq_true, iEnumT, rSortedPO, rIsi, rRep, rReverse, tLstRg, tTupRg, tRg1, tRg2, rSlL, rSlT, rSortedI, rSlF, rCatF, rMax, tLc2E, rSortedL, rSortedT, gUnl, tPar, rReprX, tChain, tDNewK, tDisp, tPairs, tAndV, tNotV, tFd, sFd, tMeth, tMake, tMakeK, gStar, iZipM, iItems, tLock, tSpread, tDcE, tDGet, sDPut, tPar3, tNever, rIxD, tChain, iEnum, tDIn, tDNotIn, gHd, spHas, spName, spAmt]
    obtain ⟨⟨dx, hp⟩, _⟩ := id hP
    unfold kindB at k
    refine ⟨rfl, ?_⟩
    by_cases h1 : kd = "ink"
    · rw [if_pos h1]
      rw [if_pos h1] at k
      exact ⟨dx, _, hp, rfl, m, f, inks, hP, hv, k⟩
    · rw [if_neg h1]
      rw [if_neg h1] at k
      refine ⟨rfl, ?_⟩
      by_cases h2 : kd = "tag"
      · rw [if_pos h2]
        rw [if_pos h2] at k
        exact ⟨hv, k⟩
      · rw [if_neg h2]
        rw [if_neg h2] at k
        exact ⟨hv, k H (Same.refl _)⟩
structure CChk (P : Program) (w : World) (K : PySem.W.Frag) (mg : Str → Option Value) (base : Heap) (cP : Addr) : Prop where
  is_kind : Has P w K mg base "_is_kind" 3 ["item", "kind", "palette"] (spIsKind K cP)
abbrev s_checked : Stmt := topS 34
theorem sc_checked : FnScope ["deed", "palette", "word", "rest", "item", "kind"] ["deed", "palette"] (defScope s_checked) := ⟨rfl, rfl, rfl, by decide +kernel, rfl, by decide +kernel, by decide +kernel⟩

def spChecked (K : PySem.W.Frag) (cP : Addr) : Sp := fun vs H Q _ => ∃ (a p m f : Addr) (z : Str) (r : List V) (ks : List Str) (inks : List Lay), vs = [.ref a, .ref p] ∧ SqT K H a (.str z :: r) ∧ PalAt K cP H p m f inks ∧ kindsOf z = some ks ∧ r.length = ks.length ∧ ks.length ≤ 3 ∧
  (∀ (i : Nat) (v : V) (kd : Str), r[i]? = some v → ks[i]? = some kd → Cl K H v ∧ kindB inks kd v = true) ∧ ∀ H', Same H H' → Q (.ref a) H'
theorem ok_checked {f : Addr} {fd : FuncData} {kd : Addr} (F : Fun K "checked" "checked" s_checked f fd) (M : Blt mg) (D : TKd K w mg kd) (C : CChk P w K mg base cP) : FnOk P w K mg base CX0 4 f fd ["deed", "palette"] (spChecked K cP) := by
  refine F.ok sc_checked (fun vs H Q E h => ?_) (fun cdv A outer s H vs Q E hr h => ?_)
  · obtain ⟨a, p, m, f, z, r, ks, inks, rfl, _⟩ := h
    rfl
  · obtain ⟨a, p, m, f, z, r, ks, inks, rfl, hs, hP, hk, hl, h3, hv, k⟩ := h
    have gK := D.at_
    refine ⟨_, (pss_cons (ps_asg (pv 0) (pg_hd (by rfl) (pgs_cons (pg_name (i := 2) sc_checked.nd rfl (by first | exact Or.inl rfl | exact Or.inr rfl)) (pgs_star (pg_name (i := 3) sc_checked.nd rfl (by first | exact Or.inl rfl | exact Or.inr rfl)) pgs_nil))))
      (pss_cons (ps_for PassesOwn.never rfl (pi_zipM (by rfl) M.zip (pa_cons (pv 3) (pa_cons (pe_ix (k_ixKd (K := K) rfl rfl) (pe_glob (v := .ref kd) (by rfl) gK rfl) (pv 2) (fun _ _ => rfl)) pa_nil))) (pg_tup (n := 2) (by rfl) (pgs_cons (pg_name (i := 4) sc_checked.nd rfl (by first | exact Or.inl rfl | exact Or.inr rfl)) (pgs_cons (pg_name (i := 5) sc_checked.nd rfl (by first | exact Or.inl rfl | exact Or.inr rfl)) pgs_nil))) (pss_one (ps_if (pt_not (pt_val (callH C.is_kind hr (by rfl) (pa_cons (pv 4) (pa_cons (pv 5) (pa_cons (pv 1) pa_nil)))))) (pss_one ps_never) pss_nil)))
      (pss_one (ps_ret (pv 0))))), ?_⟩
    obtain ⟨t, hD, ht⟩ := D.get z ks hk
    simp only [tSeq, tIfS, tTest, tOp, tUn, tVar, tC, rI, rI0, rU, rEq, rNe, rIxL, rIxT, rIxS, tCB, tCons, tNil, tRet, tRetN, tAsg, gTup, gCons, gNil, gName, gSub, rSetL, tNext, tDrop, tLst, tTup, tCall, tIf, tB, tAnd, tOr, tNot, tSl, tPart, tNoPart, tM1, tM0, tBM, tBM0, tLcE, tForE, iRng1, iRng2, iTup, iList, iStr, tYes, wipe, startDef, cxK, noxK, exists_and_left, exists_eq_left', exists_eq_left, exists_eq_right, Option.some.injEq, V.int.injEq, V.ref.injEq, V.str.injEq, V.bl.injEq, List.cons.injEq, and_true, true_and, List.append_nil, List.map_cons, List.map_nil, List.length_cons, List.length_nil, List.replicate, List.nil_append, List.cons_append, List.set_cons_zero, List.set_cons_succ, List.getElem?_cons_zero, List.getElem?_cons_succ, decide_eq_true_eq, exists_const, Nat.reduceAdd, Nat.reduceSub, List.replicate_succ, List.replicate_zero, exists_prop, and_assoc, List.set_nil, rLenK, rTupK, rLstK, rReprK, rEqD, rNeD, rIn, rAll, rAppend, rCat, ↓reduceIte, Bool.false_eq_true, iEnumT, rSortedPO, rIsi, rRep, rReverse, tLstRg, tTupRg, tRg1, tRg2, rSlL, rSlT, rSortedI, rSlF, rCatF, rMax, tLc2E, rSortedL, rSortedT, gUnl, tPar, rReprX, tChain, tDNewK, tDisp, tPairs, tAndV, tNotV, tFd, sFd, tMeth, tMake, tMakeK, gStar, iZipM, iItems, tLock, tSpread, tDcE, tDGet, sDPut, tPar3, tNever, rIxD, tChain, iEnum, tDIn, tDNotIn, gHd, spIsKind]
    refine ⟨_, _, .inl hs, by omega, fun l hl2 => ⟨_, rfl, _, hD, t, rfl, _, SqL.of upd_same, _, ht _, ?_⟩⟩
    have s0 : Same H (upd H l (.lst r)) := same_new hl2
    refine for_it (walk_zipM (n := ks.length) (by rw [List.length_map, hl]; simp)) (fun i σ H' => ∃ a4 a5, σ = [some (.ref a), some (.ref p), some (.str z), some (.ref l), a4, a5] ∧ Same H H' ∧ H' l = some (.lst r)) ⟨none, none, rfl, s0, upd_same⟩
      (fun i σ H' _ ⟨_, _, _, _, q⟩ => ⟨SqL.of q, ht _⟩) ?_ ?_
    · rintro i x σ Ha H' hi ⟨a4, a5, rfl, sa, la⟩ ⟨T, x1, x2, rfl, nT, rfl, e1, e2⟩
      obtain ⟨kd1, ek, rfl⟩ : ∃ q, ks[i]? = some q ∧ x2 = V.str q := by
        have e2' : (ks.map V.str)[i]? = some x2 := e2
        rw [List.getElem?_map, List.getElem?_eq_getElem hi] at e2'
        exact ⟨_, List.getElem?_eq_getElem hi, (Option.some.inj e2').symm⟩
      have sT : Same Ha (upd Ha T (.tup [x1, .str kd1])) := same_new nT
      obtain ⟨cl, kb⟩ := hv i x1 kd1 e1 ek
      simp only [tSeq, tIfS, tTest, tOp, tUn, tVar, tC, rI, rI0, rU, rEq, rNe, rIxL, rIxT, rIxS, tCB, tCons, tNil, tRet, tRetN, tAsg, gTup, gCons, gNil, gName, gSub, rSetL, tNext, tDrop, tLst, tTup, tCall, tIf, tB, tAnd, tOr, tNot, tSl, tPart, tNoPart, tM1, tM0, tBM, tBM0, tLcE, tForE, iRng1, iRng2, iTup, iList, iStr, tYes, wipe, startDef, cxK, noxK, exists_and_left, exists_eq_left', exists_eq_left, exists_eq_right, Option.some.injEq, V.int.injEq, V.ref.injEq, V.str.injEq, V.bl.injEq, List.cons.injEq, and_true, true_and, List.append_nil, List.map_cons, List.map_nil, List.length_cons, List.length_nil, List.replicate, List.nil_append, List.cons_append, List.set_cons_zero, List.set_cons_succ, List.getElem?_cons_zero, List.getElem?_cons_succ, decide_eq_true_eq, exists_const, Nat.reduceAdd, Nat.reduceSub, List.replicate_succ, List.replicate_zero, exists_prop, and_assoc, List.set_nil, rLenK, rTupK, rLstK, rReprK, rEqD, rNeD, rIn, rAll, rAppend, rCat, ↓reduceIte, Bool.false_eq_true, iEnumT, rSortedPO, rIsi, rRep, rReverse, tLstRg, tTupRg, tRg1, tRg2, rSlL, rSlT, rSortedI, rSlF, rCatF, rMax, tLc2E, rSortedL, rSortedT, gUnl, tPar, rReprX, tChain, tDNewK, tDisp, tPairs, tAndV, tNotV, tFd, sFd, tMeth, tMake, tMakeK, gStar, iZipM, iItems, tLock, tSpread, tDcE, tDGet, sDPut, tPar3, tNever, rIxD, tChain, iEnum, tDIn, tDNotIn, gHd, spIsKind]
      refine ⟨_, SqT.of upd_same, rfl, _, _, rfl, _, _, rfl, rfl, _, rfl, m, f, inks, hP.same (smT sa sT), Cl.keep (smT sa sT) cl, fun H1 s1 => ?_⟩
      rw [kb, if_neg (by decide)]
      exact ⟨smT sa (smT sT s1), s1 _ _ (sT _ _ la)⟩
    · rintro σ H' ⟨a4, a5, rfl, sa, la⟩
      simp only [tSeq, tIfS, tTest, tOp, tUn, tVar, tC, rI, rI0, rU, rEq, rNe, rIxL, rIxT, rIxS, tCB, tCons, tNil, tRet, tRetN, tAsg, gTup, gCons, gNil, gName, gSub, rSetL, tNext, tDrop, tLst, tTup, tCall, tIf, tB, tAnd, tOr, tNot, tSl, tPart, tNoPart, tM1, tM0, tBM, tBM0, tLcE, tForE, iRng1, iRng2, iTup, iList, iStr, tYes, wipe, startDef, cxK, noxK, exists_and_left, exists_eq_left', exists_eq_left, exists_eq_right, Option.some.injEq, V.int.injEq, V.ref.injEq, V.str.injEq, V.bl.injEq, List.cons.injEq, and_true, true_and, List.append_nil, List.map_cons, List.map_nil, List.length_cons, List.length_nil, List.replicate, List.nil_append, List.cons_append, List.set_cons_zero, List.set_cons_succ, List.getElem?_cons_zero, List.getElem?_cons_succ, decide_eq_true_eq, exists_const, Nat.reduceAdd, Nat.reduceSub, List.replicate_succ, List.replicate_zero, exists_prop, and_assoc, List.set_nil, rLenK, rTupK, rLstK, rReprK, rEqD, rNeD, rIn, rAll, rAppend, rCat, ↓reduceIte, Bool.false_eq_true, iEnumT, rSortedPO, rIsi, rRep, rReverse, tLstRg, tTupRg, tRg1, tRg2, rSlL, rSlT, rSortedI, rSlF, rCatF, rMax, tLc2E, rSortedL, rSortedT, gUnl, tPar, rReprX, tChain, tDNewK, tDisp, tPairs, tAndV, tNotV, tFd, sFd, tMeth, tMake, tMakeK, gStar, iZipM, iItems, tLock, tSpread, tDcE, tDGet, sDPut, tPar3, tNever, rIxD, tChain, iEnum, tDIn, tDNotIn, gHd]
      exact k H' sa
end

/-! ### the program's rows, whatever their tags: ranked, first -/
section
variable {P : Program} {w : World} {K : PySem.W.Frag} {mg : Str → Option Value} {base : Heap}
def natsV (rs : List Nat) : List V := rs.map fun i : Nat => V.int i
abbrev s_ranked : Stmt := topS 38
theorem sc_ranked : FnScope ["row", "keys", "at", "layer", "key"] ["row"] (defScope s_ranked) := ⟨rfl, rfl, rfl, by decide +kernel, rfl, by decide +kernel, by decide +kernel⟩

def spRanked (K : PySem.W.Frag) : Sp := fun vs H Q _ => ∃ (v : V) (gs : List GLay), vs = [v] ∧ Dp K H v (.tuple (gs.map gD)) ∧ gs.length ≤ 1000 ∧
  ∀ p rs H', IsRank (gL gs) rs → H p = none → Same H H' → H' p = some (.lst (natsV rs)) → Q (.ref p) H'
theorem ok_ranked {f : Addr} {fd : FuncData} (F : Fun K "ranked" "ranked" s_ranked f fd) (M : Blt mg) : FnOk P w K mg base CX0 1 f fd ["row"] (spRanked K) := by
  refine F.ok sc_ranked (fun vs H Q E h => ?_) (fun cdv A outer s H vs Q E hr h => ?_)
  · obtain ⟨v, gs, rfl, _⟩ := h
    rfl
  · obtain ⟨v, gs, rfl, hv, hn, k⟩ := h
    obtain ⟨a, xs, rfl, hx, al⟩ := Dp.tupInv hv
    have lenG := gL_len gs
    generalize els : gL gs = ls at k lenG
    refine ⟨_, (pss_cons (ps_setLc (i := 1) (own := [("at", 2), ("layer", 3)]) (g := gTup K 2 (gCons (gName 2) (gCons (gName 3) gNil))) (tt := tYes) rfl sc_ranked.nd rfl rfl (sw_true rfl rfl rfl (by decide +kernel)) (pi_enumT (by rfl) M.enumerate (pa_cons (pv 0) pa_nil)) (blkOk_by (own := [("at", 2), ("layer", 3)]) (N := ["row", "keys", "at", "layer", "key"]) (sc := defScope s_ranked) (by decide +kernel)) (fun _ _ _ _ _ => (pg_tup (n := 2) (by rfl) (pgs_cons (pg_name (i := 2) sc_ranked.nd rfl (by first | exact Or.inl rfl | exact Or.inr rfl)) (pgs_cons (pg_name (i := 3) sc_ranked.nd rfl (by first | exact Or.inl rfl | exact Or.inr rfl)) pgs_nil)))) (fun _ _ _ _ _ => pts_nil) (fun _ _ _ _ _ => (pe_tup (pa_cons (pe_un un_neg (pe_ix (k_ixT (K := K) rfl) (pv 3) pe_int (fun _ _ => rfl))) (pa_cons (pe_un un_neg (pv 2)) pa_nil)))))
      (pss_one (ps_ret (pe_lc (own := [("key", 4)]) (g := gName 4) (tt := tYes) rfl sc_ranked.nd (pi_list (pe_callB (k_sortedP (K := K) rfl) (by rfl) M.sorted (by decide +kernel) (pa_cons (pv 1) pa_nil))) (blkOk_by (own := [("key", 4)]) (N := ["row", "keys", "at", "layer", "key"]) (sc := defScope s_ranked) (by decide +kernel)) (fun _ _ _ _ _ => (pg_name (i := 4) sc_ranked.nd rfl (by first | exact Or.inl rfl | exact Or.inr rfl))) (fun _ _ _ _ _ => pts_nil) (fun _ _ _ _ _ => (pe_un un_neg (pe_ix (k_ixT (K := K) rfl) (pv 4) pe_int (fun _ _ => rfl)))))))), ?_⟩
    simp only [tSeq, tIfS, tTest, tOp, tUn, tVar, tC, rI, rI0, rU, rEq, rNe, rIxL, rIxT, rIxS, tCB, tCons, tNil, tRet, tRetN, tAsg, gTup, gCons, gNil, gName, gSub, rSetL, tNext, tDrop, tLst, tTup, tCall, tIf, tB, tAnd, tOr, tNot, tSl, tPart, tNoPart, tM1, tM0, tBM, tBM0, tLcE, tForE, iRng1, iRng2, iTup, iList, iStr, tYes, wipe, startDef, cxK, noxK, exists_and_left, exists_eq_left', exists_eq_left, exists_eq_right, Option.some.injEq, V.int.injEq, V.ref.injEq, V.str.injEq, V.bl.injEq, List.cons.injEq, and_true, true_and, List.append_nil, List.map_cons, List.map_nil, List.length_cons, List.length_nil, List.replicate, List.nil_append, List.cons_append, List.set_cons_zero, List.set_cons_succ, List.getElem?_cons_zero, List.getElem?_cons_succ, decide_eq_true_eq, exists_const, Nat.reduceAdd, Nat.reduceSub, List.replicate_succ, List.replicate_zero, exists_prop, and_assoc, List.set_nil, rLenK, rTupK, rLstK, rReprK, rEqD, rNeD, rIn, rAll, rAppend, rCat, ↓reduceIte, Bool.false_eq_true, iEnumT, rSortedPO, rIsi, rRep, rReverse, tLstRg, tTupRg, tRg1, tRg2, rSlL, rSlT, rSortedI, rSlF, rCatF, rMax, tLc2E, rSortedL, rSortedT, gUnl, tPar, rReprX, tChain, tDNewK, tDisp, tPairs, tAndV, tNotV, tFd, sFd, tMeth, tMake, tMakeK, gStar, iZipM, iItems, tLock, tSpread, tDcE, tDGet, sDPut, tPar3, tNever, rIxD, tChain, iEnum, tDIn, tDNotIn, gHd]
    have len := gs_len al
    rw [← lenG] at len hn
    refine ⟨xs, hx, ?_⟩
    refine lcG (K := K) PairAt walk_enumT none (fun i ds => ds = (List.range i).map fun j => (-(str ls j), -(j : Int))) pairAt_stab pairAt_upd potN (fun H s => St.tup potN s hx) (by omega) rfl ?_ ?_
    · rintro i x Ha H' ds C N hi sa rfl ⟨T, x1, x2, rfl, nT, rfl, e1, e2⟩ go _
      obtain rfl : V.int (i : Nat) = x1 := Option.some.inj e1
      obtain ⟨l, b, tgv, hl, rfl, sq, _⟩ := gs_get al e2
      have sT : Fd.St none Ha (upd Ha T (.tup [.int (i : Nat), .ref b])) := St.new potN nT
      have sq' := St.tup potN (sa.trans sT) sq
      simp only [tSeq, tIfS, tTest, tOp, tUn, tVar, tC, rI, rI0, rU, rEq, rNe, rIxL, rIxT, rIxS, tCB, tCons, tNil, tRet, tRetN, tAsg, gTup, gCons, gNil, gName, gSub, rSetL, tNext, tDrop, tLst, tTup, tCall, tIf, tB, tAnd, tOr, tNot, tSl, tPart, tNoPart, tM1, tM0, tBM, tBM0, tLcE, tForE, iRng1, iRng2, iTup, iList, iStr, tYes, wipe, startDef, cxK, noxK, exists_and_left, exists_eq_left', exists_eq_left, exists_eq_right, Option.some.injEq, V.int.injEq, V.ref.injEq, V.str.injEq, V.bl.injEq, List.cons.injEq, and_true, true_and, List.append_nil, List.map_cons, List.map_nil, List.length_cons, List.length_nil, List.replicate, List.nil_append, List.cons_append, List.set_cons_zero, List.set_cons_succ, List.getElem?_cons_zero, List.getElem?_cons_succ, decide_eq_true_eq, exists_const, Nat.reduceAdd, Nat.reduceSub, List.replicate_succ, List.replicate_zero, exists_prop, and_assoc, List.set_nil, rLenK, rTupK, rLstK, rReprK, rEqD, rNeD, rIn, rAll, rAppend, rCat, ↓reduceIte, Bool.false_eq_true, iEnumT, rSortedPO, rIsi, rRep, rReverse, tLstRg, tTupRg, tRg1, tRg2, rSlL, rSlT, rSortedI, rSlF, rCatF, rMax, tLc2E, rSortedL, rSortedT, gUnl, tPar, rReprX, tChain, tDNewK, tDisp, tPairs, tAndV, tNotV, tFd, sFd, tMeth, tMake, tMakeK, gStar, iZipM, iItems, tLock, tSpread, tDcE, tDGet, sDPut, tPar3, tNever, rIxD, tChain, iEnum, tDIn, tDNotIn, gHd]
      refine ⟨_, SqT.of upd_same, rfl, _, _, rfl, _, _, rfl, rfl, b, rfl, _, sq', _, rfl, l.2, rfl, (i : Int), rfl, by decide, fun t ht => ?_⟩
      have es : str ls i = l.2 := by
        rw [← els]
        exact str_gL gs hl
      refine go _ _ (-(l.2), -(i : Int)) (sT.trans (St.new potN ht)) ⟨t, rfl, upd_same⟩ ?_
      rw [List.range_succ, List.map_append, ← es]
      rfl
    · rintro D acc ds H1 hD sD hl al1 rfl
      simp only [tSeq, tIfS, tTest, tOp, tUn, tVar, tC, rI, rI0, rU, rEq, rNe, rIxL, rIxT, rIxS, tCB, tCons, tNil, tRet, tRetN, tAsg, gTup, gCons, gNil, gName, gSub, rSetL, tNext, tDrop, tLst, tTup, tCall, tIf, tB, tAnd, tOr, tNot, tSl, tPart, tNoPart, tM1, tM0, tBM, tBM0, tLcE, tForE, iRng1, iRng2, iTup, iList, iStr, tYes, wipe, startDef, cxK, noxK, exists_and_left, exists_eq_left', exists_eq_left, exists_eq_right, Option.some.injEq, V.int.injEq, V.ref.injEq, V.str.injEq, V.bl.injEq, List.cons.injEq, and_true, true_and, List.append_nil, List.map_cons, List.map_nil, List.length_cons, List.length_nil, List.replicate, List.nil_append, List.cons_append, List.set_cons_zero, List.set_cons_succ, List.getElem?_cons_zero, List.getElem?_cons_succ, decide_eq_true_eq, exists_const, Nat.reduceAdd, Nat.reduceSub, List.replicate_succ, List.replicate_zero, exists_prop, and_assoc, List.set_nil, rLenK, rTupK, rLstK, rReprK, rEqD, rNeD, rIn, rAll, rAppend, rCat, ↓reduceIte, Bool.false_eq_true, iEnumT, rSortedPO, rIsi, rRep, rReverse, tLstRg, tTupRg, tRg1, tRg2, rSlL, rSlT, rSortedI, rSlF, rCatF, rMax, tLc2E, rSortedL, rSortedT, gUnl, tPar, rReprX, tChain, tDNewK, tDisp, tPairs, tAndV, tNotV, tFd, sFd, tMeth, tMake, tMakeK, gStar, iZipM, iItems, tLock, tSpread, tDcE, tDGet, sDPut, tPar3, tNever, rIxD, tChain, iEnum, tDIn, tDNotIn, gHd]
      have at_ : ∀ (j : Nat) y, acc[j]? = some y → j < ls.length ∧ PairAt H1 y (-(str ls j), -(j : Int)) := by
        intro j y e
        obtain ⟨d, q, r⟩ := pairedGet al1 e
        have hj : j < xs.length := by
          have := (List.getElem?_eq_some_iff.mp q).1
          simpa using this
        rw [List.getElem?_map, List.getElem?_range hj] at q
        have q' := Option.some.inj q
        cases q'
        exact ⟨by omega, r⟩
      have lenA : acc.length = ls.length := by
        have := Paired.length al1
        rw [List.length_map, List.length_range] at this
        omega
      have each : ∀ y ∈ acc, ∃ j : Nat, PairAt H1 y (-(str ls j), -(j : Int)) := fun y m => by
        obtain ⟨j, e⟩ := List.mem_iff_getElem?.mp m
        exact ⟨j, (at_ j y e).2⟩
      refine ⟨acc, SqL.of hl, kOf H1, fun y m => ?_, fun ys p srt stb hp => ?_⟩
      · obtain ⟨j, r⟩ := each y m
        obtain ⟨t, e, q⟩ := id r
        exact ⟨t, e, by rw [kOf_at r]; exact q⟩
      · have num : List.map (fun y => (-(kOf H1 y).2).toNat) acc = List.range ls.length := by
          refine List.ext_getElem? fun j => ?_
          rw [List.getElem?_map]
          cases e : acc[j]? with
          | none =>
            have : ls.length ≤ j := by
              have := List.getElem?_eq_none_iff.mp e
              omega
            rw [List.getElem?_eq_none (by simp; omega)]
            rfl
          | some y =>
            obtain ⟨lt, r⟩ := at_ j y e
            rw [List.getElem?_range lt]
            show some ((-(kOf H1 y).2).toNat) = some j
            rw [kOf_at r]
            show some ((-(-(j : Int))).toNat) = some j
            simp
        have rank : IsRank ls (ys.map fun y => (-(kOf H1 y).2).toNat) := by
          refine rank_of_sorted _ (ltP (kOf H1)) ?_ num stb.perm srt
          intro x mx y my
          obtain ⟨i, rx⟩ := each x mx
          obtain ⟨j, ry⟩ := each y my
          show SrtO.lexB (kOf H1 x) (kOf H1 y) = true ↔ _
          rw [SrtO.lexB_iff, kOf_at rx, kOf_at ry]
          simp
        have s2 : Fd.St none H1 (upd H1 p (.lst ys)) := St.new potN hp
        refine ⟨⟨_, SqL.of upd_same⟩, ?_⟩
        refine lcLst (K := K) none (fun i ds => ds = ((ys.take i).map fun y => ((-(kOf H1 y).2).toNat : Int)).map PyData.int) potN (SqL.of upd_same) (fun z => nomatch z) (by rw [stb.perm.length_eq, lenA]; omega) rfl (fun _ => rfl) ?_ ?_
        · rintro i x Ha ds C N hi sa fl rfl go _
          have mx := stb.perm.mem_iff.mp (List.mem_of_getElem? hi)
          obtain ⟨j, r⟩ := each x mx
          obtain ⟨t, rfl, q⟩ := id r
          have q' := (s2.trans sa).same t _ (fun z => nomatch z) q
          simp only [tSeq, tIfS, tTest, tOp, tUn, tVar, tC, rI, rI0, rU, rEq, rNe, rIxL, rIxT, rIxS, tCB, tCons, tNil, tRet, tRetN, tAsg, gTup, gCons, gNil, gName, gSub, rSetL, tNext, tDrop, tLst, tTup, tCall, tIf, tB, tAnd, tOr, tNot, tSl, tPart, tNoPart, tM1, tM0, tBM, tBM0, tLcE, tForE, iRng1, iRng2, iTup, iList, iStr, tYes, wipe, startDef, cxK, noxK, exists_and_left, exists_eq_left', exists_eq_left, exists_eq_right, Option.some.injEq, V.int.injEq, V.ref.injEq, V.str.injEq, V.bl.injEq, List.cons.injEq, and_true, true_and, List.append_nil, List.map_cons, List.map_nil, List.length_cons, List.length_nil, List.replicate, List.nil_append, List.cons_append, List.set_cons_zero, List.set_cons_succ, List.getElem?_cons_zero, List.getElem?_cons_succ, decide_eq_true_eq, exists_const, Nat.reduceAdd, Nat.reduceSub, List.replicate_succ, List.replicate_zero, exists_prop, and_assoc, List.set_nil, rLenK, rTupK, rLstK, rReprK, rEqD, rNeD, rIn, rAll, rAppend, rCat, ↓reduceIte, Bool.false_eq_true, iEnumT, rSortedPO, rIsi, rRep, rReverse, tLstRg, tTupRg, tRg1, tRg2, rSlL, rSlT, rSortedI, rSlF, rCatF, rMax, tLc2E, rSortedL, rSortedT, gUnl, tPar, rReprX, tChain, tDNewK, tDisp, tPairs, tAndV, tNotV, tFd, sFd, tMeth, tMake, tMakeK, gStar, iZipM, iItems, tLock, tSpread, tDcE, tDGet, sDPut, tPar3, tNever, rIxD, tChain, iEnum, tDIn, tDNotIn, gHd]
          refine ⟨_, SqT.of q', _, rfl, _, rfl, ?_⟩
          refine go _ _ (.int (-(-(j : Int)))) (St.refl potN) (by simp [flatT]) (.int _) ?_
          rw [take_succ_map _ ys hi, List.map_append, kOf_at r]
          simp
        · rintro D2 acc2 ds H2 hD2 sD2 hl2 fl al2 rfl
          rw [List.take_length] at al2
          have e2 := dps_ints_inv al2
          subst e2
          refine k D2 _ H2 rank ?_ ((sD.trans s2).trans sD2).toSame ?_
          · exact (sD.trans s2).free potN hD2
          · rw [hl2]
            unfold natsV
            simp [List.map_map, Function.comp_def]
structure CRanked (P : Program) (w : World) (K : PySem.W.Frag) (mg : Str → Option Value) (base : Heap) : Prop where
  ranked : Has P w K mg base "ranked" 1 ["row"] (spRanked K)
end

/-! ### the program's rows: first -/
section
variable {P : Program} {w : World} {K : PySem.W.Frag} {mg : Str → Option Value} {base : Heap}
abbrev s_first : Stmt := topS 39
theorem sc_first : FnScope ["row", "numbers"] ["row"] (defScope s_first) := ⟨rfl, rfl, rfl, by decide +kernel, rfl, by decide +kernel, by decide +kernel⟩

def firstV (rs : List Nat) : V := match rs with
  | [] => .non
  | i :: _ => .int i
def spFirst (K : PySem.W.Frag) : Sp := fun vs H Q _ => ∃ (v : V) (gs : List GLay), vs = [v] ∧ Dp K H v (.tuple (gs.map gD)) ∧ gs.length ≤ 1000 ∧
  ∀ rs H', IsRank (gL gs) rs → Same H H' → Q (firstV rs) H'
theorem ok_first {f : Addr} {fd : FuncData} (F : Fun K "first" "first" s_first f fd) (M : Blt mg) (C : CRanked P w K mg base) : FnOk P w K mg base CX0 2 f fd ["row"] (spFirst K) := by
  refine F.ok sc_first (fun vs H Q E h => ?_) (fun cdv A outer s H vs Q E hr h => ?_)
  · obtain ⟨v, ls, rfl, _⟩ := h
    rfl
  · obtain ⟨v, ls, rfl, hv, hn, k⟩ := h
    refine ⟨_, (pss_cons (ps_set (i := 1) sc_first.nd rfl (by first | exact Or.inl rfl | exact Or.inr rfl) (callH C.ranked hr (by rfl) (pa_cons (pv 0) pa_nil)))
      (pss_one (ps_ret (pe_ifExp (pt_truth (pv 1) (by intro _; rfl)) (pe_ix (k_ixL (K := K) rfl) (pv 1) pe_int (fun _ _ => rfl)) pe_non)))), ?_⟩
    simp only [tSeq, tIfS, tTest, tOp, tUn, tVar, tC, rI, rI0, rU, rEq, rNe, rIxL, rIxT, rIxS, tCB, tCons, tNil, tRet, tRetN, tAsg, gTup, gCons, gNil, gName, gSub, rSetL, tNext, tDrop, tLst, tTup, tCall, tIf, tB, tAnd, tOr, tNot, tSl, tPart, tNoPart, tM1, tM0, tBM, tBM0, tLcE, tForE, iRng1, iRng2, iTup, iList, iStr, tYes, wipe, startDef, cxK, noxK, exists_and_left, exists_eq_left', exists_eq_left, exists_eq_right, Option.some.injEq, V.int.injEq, V.ref.injEq, V.str.injEq, V.bl.injEq, List.cons.injEq, and_true, true_and, List.append_nil, List.map_cons, List.map_nil, List.length_cons, List.length_nil, List.replicate, List.nil_append, List.cons_append, List.set_cons_zero, List.set_cons_succ, List.getElem?_cons_zero, List.getElem?_cons_succ, decide_eq_true_eq, exists_const, Nat.reduceAdd, Nat.reduceSub, List.replicate_succ, List.replicate_zero, exists_prop, and_assoc, List.set_nil, rLenK, rTupK, rLstK, rReprK, rEqD, rNeD, rIn, rAll, rAppend, rCat, ↓reduceIte, Bool.false_eq_true, iEnumT, rSortedPO, rIsi, rRep, rReverse, tLstRg, tTupRg, tRg1, tRg2, rSlL, rSlT, rSortedI, rSlF, rCatF, rMax, tLc2E, rSortedL, rSortedT, gUnl, tPar, rReprX, tChain, tDNewK, tDisp, tPairs, tAndV, tNotV, tFd, sFd, tMeth, tMake, tMakeK, gStar, iZipM, iItems, tLock, tSpread, tDcE, tDGet, sDPut, tPar3, tNever, rIxD, tChain, iEnum, tDIn, tDNotIn, gHd, spRanked]
    refine ⟨ls, hv, hn, fun p rs H1 rk np sm hp => ⟨!(natsV rs).isEmpty, .inl ⟨natsV rs, SqL.of hp, rfl⟩, ?_⟩⟩
    cases rs with
    | nil =>
      rw [if_neg (by simp [natsV])]
      exact k [] H1 rk sm
    | cons i r =>
      rw [if_pos (by simp [natsV])]
      exact ⟨natsV (i :: r), SqL.of hp, V.int i, atI_nat (j := 0) rfl, k (i :: r) H1 rk sm⟩
end

/-! ### rows whatever their tags: _left, weaker, stronger -/
def posG (g : GLay) : Bool := decide (0 < g.2)
def addG (gs : List GLay) (n : Int) : List GLay := gs.map fun g => (g.1, g.2 + n)
def weakG (gs : List GLay) (n : Int) : List GLay := (addG gs (-n)).filter posG
theorem addG_len (gs : List GLay) (n : Int) : (addG gs n).length = gs.length := List.length_map ..
theorem addG_flat {gs : List GLay} {n : Int} (h : ∀ g ∈ gs, flatT g.1 = true) : ∀ g ∈ addG gs n, flatT g.1 = true := fun g m => by
  obtain ⟨g', m', rfl⟩ := List.mem_map.mp m
  exact h g' m'
theorem weakG_flat {gs : List GLay} {n : Int} (h : ∀ g ∈ gs, flatT g.1 = true) : ∀ g ∈ weakG gs n, flatT g.1 = true := fun g m => addG_flat h g (List.mem_filter.mp m).1
theorem weakG_len (gs : List GLay) (n : Int) : (weakG gs n).length ≤ gs.length := by
  have := List.length_filter_le posG (addG gs (-n))
  rw [addG_len] at this
  exact this
section
variable {P : Program} {w : World} {K : PySem.W.Frag} {mg : Str → Option Value} {base : Heap}
abbrev s_left : Stmt := topS 44
theorem sc_left : FnScope ["layers", "layer"] ["layers"] (defScope s_left) := ⟨rfl, rfl, rfl, by decide +kernel, rfl, by decide +kernel, by decide +kernel⟩

def spLeft (K : PySem.W.Frag) : Sp := fun vs H Q _ => ∃ (a : Addr) (xs : List V) (gs : List GLay), vs = [.ref a] ∧ SqL K H a xs ∧ DpAll K H xs (gs.map gD) ∧ (∀ g ∈ gs, flatT g.1 = true) ∧ gs.length ≤ 1000 ∧
  ∀ v H', Same H H' → Dp K H' v (rowG (gs.filter posG)) → Q v H'
theorem ok_left {f : Addr} {fd : FuncData} (F : Fun K "_left" "_left" s_left f fd) (M : Blt mg) : FnOk P w K mg base CX0 1 f fd ["layers"] (spLeft K) := by
  refine F.ok sc_left (fun vs H Q E h => ?_) (fun cdv A outer s H vs Q E hr h => ?_)
  · obtain ⟨a, xs, gs, rfl, _⟩ := h
    rfl
  · obtain ⟨a, xs, gs, rfl, hx, al, ft, hn, k⟩ := h
    refine ⟨_, (pss_one (ps_ret (pe_callTy (k_tup (K := K) rfl) (by rfl) M.tuple (by decide +kernel) (pa_cons (pe_lc (own := [("layer", 1)]) (g := gName 1)  rfl sc_left.nd (pi_list (pv 0)) (blkOk_by (own := [("layer", 1)]) (N := ["layers", "layer"]) (sc := defScope s_left) (by decide +kernel)) (fun _ _ _ _ _ => (pg_name (i := 1) sc_left.nd rfl (by first | exact Or.inl rfl | exact Or.inr rfl))) (fun _ _ _ _ _ => (pts_one (pt_cmpR op_gt (pe_ix (k_ixT (K := K) rfl) (pv 1) pe_int (fun _ _ => rfl)) pe_int (nomark _)))) (fun _ _ _ _ _ => (pv 1))) pa_nil)))), ?_⟩
    simp only [tSeq, tIfS, tTest, tOp, tUn, tVar, tC, rI, rI0, rU, rEq, rNe, rIxL, rIxT, rIxS, tCB, tCons, tNil, tRet, tRetN, tAsg, gTup, gCons, gNil, gName, gSub, rSetL, tNext, tDrop, tLst, tTup, tCall, tIf, tB, tAnd, tOr, tNot, tSl, tPart, tNoPart, tM1, tM0, tBM, tBM0, tLcE, tForE, iRng1, iRng2, iTup, iList, iStr, tYes, wipe, startDef, cxK, noxK, exists_and_left, exists_eq_left', exists_eq_left, exists_eq_right, Option.some.injEq, V.int.injEq, V.ref.injEq, V.str.injEq, V.bl.injEq, List.cons.injEq, and_true, true_and, List.append_nil, List.map_cons, List.map_nil, List.length_cons, List.length_nil, List.replicate, List.nil_append, List.cons_append, List.set_cons_zero, List.set_cons_succ, List.getElem?_cons_zero, List.getElem?_cons_succ, decide_eq_true_eq, exists_const, Nat.reduceAdd, Nat.reduceSub, List.replicate_succ, List.replicate_zero, exists_prop, and_assoc, List.set_nil, rLenK, rTupK, rLstK, rReprK, rEqD, rNeD, rIn, rAll, rAppend, rCat, ↓reduceIte, Bool.false_eq_true, iEnumT, rSortedPO, rIsi, rRep, rReverse, tLstRg, tTupRg, tRg1, tRg2, rSlL, rSlT, rSortedI, rSlF, rCatF, rMax, tLc2E, rSortedL, rSortedT, gUnl, tPar, rReprX, tChain, tDNewK, tDisp, tPairs, tAndV, tNotV, tFd, sFd, tMeth, tMake, tMakeK, gStar, iZipM, iItems, tLock, tSpread, tDcE, tDGet, sDPut, tPar3, tNever, rIxD, tChain, iEnum, tDIn, tDNotIn, gHd]
    have len := gs_len al
    refine ⟨⟨_, hx⟩, lcLst (K := K) none (fun i ds => ds = ((gs.take i).filter posG).map gD) potN hx (fun z => nomatch z) (by omega) rfl (fun _ => rfl) ?_ ?_⟩
    · rintro i x Ha ds C N hi sa fl rfl go skip
      obtain ⟨g, b, y, hl, rfl, sq, hy, hd⟩ := gs_get al hi
      have fg := ft g (List.mem_of_getElem? hl)
      have sq' := St.tup potN sa sq
      have hd' := smDp sa.toSame (flat_gD fg) hd
      simp only [tSeq, tIfS, tTest, tOp, tUn, tVar, tC, rI, rI0, rU, rEq, rNe, rIxL, rIxT, rIxS, tCB, tCons, tNil, tRet, tRetN, tAsg, gTup, gCons, gNil, gName, gSub, rSetL, tNext, tDrop, tLst, tTup, tCall, tIf, tB, tAnd, tOr, tNot, tSl, tPart, tNoPart, tM1, tM0, tBM, tBM0, tLcE, tForE, iRng1, iRng2, iTup, iList, iStr, tYes, wipe, startDef, cxK, noxK, exists_and_left, exists_eq_left', exists_eq_left, exists_eq_right, Option.some.injEq, V.int.injEq, V.ref.injEq, V.str.injEq, V.bl.injEq, List.cons.injEq, and_true, true_and, List.append_nil, List.map_cons, List.map_nil, List.length_cons, List.length_nil, List.replicate, List.nil_append, List.cons_append, List.set_cons_zero, List.set_cons_succ, List.getElem?_cons_zero, List.getElem?_cons_succ, decide_eq_true_eq, exists_const, Nat.reduceAdd, Nat.reduceSub, List.replicate_succ, List.replicate_zero, exists_prop, and_assoc, List.set_nil, rLenK, rTupK, rLstK, rReprK, rEqD, rNeD, rIn, rAll, rAppend, rCat, ↓reduceIte, Bool.false_eq_true, iEnumT, rSortedPO, rIsi, rRep, rReverse, tLstRg, tTupRg, tRg1, tRg2, rSlL, rSlT, rSortedI, rSlF, rCatF, rMax, tLc2E, rSortedL, rSortedT, gUnl, tPar, rReprX, tChain, tDNewK, tDisp, tPairs, tAndV, tNotV, tFd, sFd, tMeth, tMake, tMakeK, gStar, iZipM, iItems, tLock, tSpread, tDcE, tDGet, sDPut, tPar3, tNever, rIxD, tChain, iEnum, tDIn, tDNotIn, gHd]
      refine ⟨_, sq', _, rfl, g.2, rfl, ?_⟩
      by_cases h : 0 < g.2
      · rw [if_pos h]
        refine go _ _ (gD g) (St.refl potN) (flat_gD fg) hd' ?_
        rw [take_succ_filter posG gs hl, if_pos (show posG g = true from decide_eq_true h)]
        simp
      · rw [if_neg h]
        refine skip _ (St.refl potN) ?_
        rw [take_succ_filter posG gs hl, if_neg (by simp [posG, h])]
        simp
    · rintro D acc ds H' hD sD hl fl al' rfl
      rw [len, List.take_length] at al' fl
      simp only [tSeq, tIfS, tTest, tOp, tUn, tVar, tC, rI, rI0, rU, rEq, rNe, rIxL, rIxT, rIxS, tCB, tCons, tNil, tRet, tRetN, tAsg, gTup, gCons, gNil, gName, gSub, rSetL, tNext, tDrop, tLst, tTup, tCall, tIf, tB, tAnd, tOr, tNot, tSl, tPart, tNoPart, tM1, tM0, tBM, tBM0, tLcE, tForE, iRng1, iRng2, iTup, iList, iStr, tYes, wipe, startDef, cxK, noxK, exists_and_left, exists_eq_left', exists_eq_left, exists_eq_right, Option.some.injEq, V.int.injEq, V.ref.injEq, V.str.injEq, V.bl.injEq, List.cons.injEq, and_true, true_and, List.append_nil, List.map_cons, List.map_nil, List.length_cons, List.length_nil, List.replicate, List.nil_append, List.cons_append, List.set_cons_zero, List.set_cons_succ, List.getElem?_cons_zero, List.getElem?_cons_succ, decide_eq_true_eq, exists_const, Nat.reduceAdd, Nat.reduceSub, List.replicate_succ, List.replicate_zero, exists_prop, and_assoc, List.set_nil, rLenK, rTupK, rLstK, rReprK, rEqD, rNeD, rIn, rAll, rAppend, rCat, ↓reduceIte, Bool.false_eq_true, iEnumT, rSortedPO, rIsi, rRep, rReverse, tLstRg, tTupRg, tRg1, tRg2, rSlL, rSlT, rSortedI, rSlF, rCatF, rMax, tLc2E, rSortedL, rSortedT, gUnl, tPar, rReprX, tChain, tDNewK, tDisp, tPairs, tAndV, tNotV, tFd, sFd, tMeth, tMake, tMakeK, gStar, iZipM, iItems, tLock, tSpread, tDcE, tDGet, sDPut, tPar3, tNever, rIxD, tChain, iEnum, tDIn, tDNotIn, gHd]
      refine ⟨acc, .inl ⟨SqL.of hl, fun t ht => ?_⟩⟩
      have s2 : Fd.St none H' (upd H' t (.tup acc)) := St.new potN ht
      exact k _ _ (sD.trans s2).toSame (.tup (SqT.of upd_same) (dpsSt potN s2 fl al'))
structure CLeft (P : Program) (w : World) (K : PySem.W.Frag) (mg : Str → Option Value) (base : Heap) : Prop where
  left : Has P w K mg base "_left" 1 ["layers"] (spLeft K)
abbrev s_weaker : Stmt := topS 40
theorem sc_weaker : FnScope ["row", "n", "tag", "strength"] ["row", "n"] (defScope s_weaker) := ⟨rfl, rfl, rfl, by decide +kernel, rfl, by decide +kernel, by decide +kernel⟩

def spWeaker (K : PySem.W.Frag) : Sp := fun vs H Q _ => ∃ (v : V) (gs : List GLay) (n : Int), vs = [v, .int n] ∧ Dp K H v (rowG gs) ∧ (∀ g ∈ gs, flatT g.1 = true) ∧ gs.length ≤ 1000 ∧
  ∀ v' H', Same H H' → Dp K H' v' (rowG (weakG gs n)) → Q v' H'
theorem ok_weaker {f : Addr} {fd : FuncData} (F : Fun K "weaker" "weaker" s_weaker f fd) (M : Blt mg) (C : CLeft P w K mg base) : FnOk P w K mg base CX0 2 f fd ["row", "n"] (spWeaker K) := by
  refine F.ok sc_weaker (fun vs H Q E h => ?_) (fun cdv A outer s H vs Q E hr h => ?_)
  · obtain ⟨v, gs, n, rfl, _⟩ := h
    rfl
  · obtain ⟨v, gs, n, rfl, hv, ft, hn, k⟩ := h
    obtain ⟨a, xs, rfl, hx, al⟩ := Dp.tupInv hv
    have len := gs_len al
    refine ⟨_, (pss_one (ps_ret (callH C.left hr (by rfl) (pa_cons (pe_lc (own := [("tag", 2), ("strength", 3)]) (g := gTup K 2 (gCons (gName 2) (gCons (gName 3) gNil))) (tt := tYes) rfl sc_weaker.nd (pi_tup (pv 0)) (blkOk_by (own := [("tag", 2), ("strength", 3)]) (N := ["row", "n", "tag", "strength"]) (sc := defScope s_weaker) (by decide +kernel)) (fun _ _ _ _ _ => (pg_tup (n := 2) (by rfl) (pgs_cons (pg_name (i := 2) sc_weaker.nd rfl (by first | exact Or.inl rfl | exact Or.inr rfl)) (pgs_cons (pg_name (i := 3) sc_weaker.nd rfl (by first | exact Or.inl rfl | exact Or.inr rfl)) pgs_nil)))) (fun _ _ _ _ _ => pts_nil) (fun _ _ _ _ _ => (pe_tup (pa_cons (pv 2) (pa_cons (pe_op op_sub (pv 3) (pv 1)) pa_nil))))) pa_nil)))), ?_⟩
    simp only [tSeq, tIfS, tTest, tOp, tUn, tVar, tC, rI, rI0, rU, rEq, rNe, rIxL, rIxT, rIxS, tCB, tCons, tNil, tRet, tRetN, tAsg, gTup, gCons, gNil, gName, gSub, rSetL, tNext, tDrop, tLst, tTup, tCall, tIf, tB, tAnd, tOr, tNot, tSl, tPart, tNoPart, tM1, tM0, tBM, tBM0, tLcE, tForE, iRng1, iRng2, iTup, iList, iStr, tYes, wipe, startDef, cxK, noxK, exists_and_left, exists_eq_left', exists_eq_left, exists_eq_right, Option.some.injEq, V.int.injEq, V.ref.injEq, V.str.injEq, V.bl.injEq, List.cons.injEq, and_true, true_and, List.append_nil, List.map_cons, List.map_nil, List.length_cons, List.length_nil, List.replicate, List.nil_append, List.cons_append, List.set_cons_zero, List.set_cons_succ, List.getElem?_cons_zero, List.getElem?_cons_succ, decide_eq_true_eq, exists_const, Nat.reduceAdd, Nat.reduceSub, List.replicate_succ, List.replicate_zero, exists_prop, and_assoc, List.set_nil, rLenK, rTupK, rLstK, rReprK, rEqD, rNeD, rIn, rAll, rAppend, rCat, ↓reduceIte, Bool.false_eq_true, iEnumT, rSortedPO, rIsi, rRep, rReverse, tLstRg, tTupRg, tRg1, tRg2, rSlL, rSlT, rSortedI, rSlF, rCatF, rMax, tLc2E, rSortedL, rSortedT, gUnl, tPar, rReprX, tChain, tDNewK, tDisp, tPairs, tAndV, tNotV, tFd, sFd, tMeth, tMake, tMakeK, gStar, iZipM, iItems, tLock, tSpread, tDcE, tDGet, sDPut, tPar3, tNever, rIxD, tChain, iEnum, tDIn, tDNotIn, gHd, spLeft]
    refine ⟨⟨_, hx⟩, ?_⟩
    refine lcK (K := K) (walk_tup (xs := xs)) none (fun i ds => ds = (addG (gs.take i) (-n)).map gD) potN (fun H s => St.tup potN s hx) (by omega) rfl ?_ ?_
    · rintro i x Ha H' ds C N hi sa fl rfl ⟨rfl, e⟩ go _
      obtain ⟨g, b, y, hl, rfl, sq, hy, _⟩ := gs_get al e
      have fg := ft g (List.mem_of_getElem? hl)
      have sq' := St.tup potN sa sq
      simp only [tSeq, tIfS, tTest, tOp, tUn, tVar, tC, rI, rI0, rU, rEq, rNe, rIxL, rIxT, rIxS, tCB, tCons, tNil, tRet, tRetN, tAsg, gTup, gCons, gNil, gName, gSub, rSetL, tNext, tDrop, tLst, tTup, tCall, tIf, tB, tAnd, tOr, tNot, tSl, tPart, tNoPart, tM1, tM0, tBM, tBM0, tLcE, tForE, iRng1, iRng2, iTup, iList, iStr, tYes, wipe, startDef, cxK, noxK, exists_and_left, exists_eq_left', exists_eq_left, exists_eq_right, Option.some.injEq, V.int.injEq, V.ref.injEq, V.str.injEq, V.bl.injEq, List.cons.injEq, and_true, true_and, List.append_nil, List.map_cons, List.map_nil, List.length_cons, List.length_nil, List.replicate, List.nil_append, List.cons_append, List.set_cons_zero, List.set_cons_succ, List.getElem?_cons_zero, List.getElem?_cons_succ, decide_eq_true_eq, exists_const, Nat.reduceAdd, Nat.reduceSub, List.replicate_succ, List.replicate_zero, exists_prop, and_assoc, List.set_nil, rLenK, rTupK, rLstK, rReprK, rEqD, rNeD, rIn, rAll, rAppend, rCat, ↓reduceIte, Bool.false_eq_true, iEnumT, rSortedPO, rIsi, rRep, rReverse, tLstRg, tTupRg, tRg1, tRg2, rSlL, rSlT, rSortedI, rSlF, rCatF, rMax, tLc2E, rSortedL, rSortedT, gUnl, tPar, rReprX, tChain, tDNewK, tDisp, tPairs, tAndV, tNotV, tFd, sFd, tMeth, tMake, tMakeK, gStar, iZipM, iItems, tLock, tSpread, tDcE, tDGet, sDPut, tPar3, tNever, rIxD, tChain, iEnum, tDIn, tDNotIn, gHd]
      refine ⟨_, sq', rfl, _, _, rfl, _, _, rfl, rfl, g.2, rfl, by decide, fun t ht => ?_⟩
      have s1 : Fd.St none H' (upd H' t (.tup [y, .int (g.2 - n)])) := St.new potN ht
      refine go _ _ (gD (g.1, g.2 + -n)) s1 (flat_gD fg) (.tup (SqT.of upd_same) (.cons (smDp (sa.trans s1).toSame fg hy) (.cons (.int _) .nil))) ?_
      unfold addG
      rw [take_succ_map _ gs hl]
      simp
    · rintro D acc ds H' hD sD hl fl al' rfl
      rw [len, List.take_length] at al' fl
      simp only [tSeq, tIfS, tTest, tOp, tUn, tVar, tC, rI, rI0, rU, rEq, rNe, rIxL, rIxT, rIxS, tCB, tCons, tNil, tRet, tRetN, tAsg, gTup, gCons, gNil, gName, gSub, rSetL, tNext, tDrop, tLst, tTup, tCall, tIf, tB, tAnd, tOr, tNot, tSl, tPart, tNoPart, tM1, tM0, tBM, tBM0, tLcE, tForE, iRng1, iRng2, iTup, iList, iStr, tYes, wipe, startDef, cxK, noxK, exists_and_left, exists_eq_left', exists_eq_left, exists_eq_right, Option.some.injEq, V.int.injEq, V.ref.injEq, V.str.injEq, V.bl.injEq, List.cons.injEq, and_true, true_and, List.append_nil, List.map_cons, List.map_nil, List.length_cons, List.length_nil, List.replicate, List.nil_append, List.cons_append, List.set_cons_zero, List.set_cons_succ, List.getElem?_cons_zero, List.getElem?_cons_succ, decide_eq_true_eq, exists_const, Nat.reduceAdd, Nat.reduceSub, List.replicate_succ, List.replicate_zero, exists_prop, and_assoc, List.set_nil, rLenK, rTupK, rLstK, rReprK, rEqD, rNeD, rIn, rAll, rAppend, rCat, ↓reduceIte, Bool.false_eq_true, iEnumT, rSortedPO, rIsi, rRep, rReverse, tLstRg, tTupRg, tRg1, tRg2, rSlL, rSlT, rSortedI, rSlF, rCatF, rMax, tLc2E, rSortedL, rSortedT, gUnl, tPar, rReprX, tChain, tDNewK, tDisp, tPairs, tAndV, tNotV, tFd, sFd, tMeth, tMake, tMakeK, gStar, iZipM, iItems, tLock, tSpread, tDcE, tDGet, sDPut, tPar3, tNever, rIxD, tChain, iEnum, tDIn, tDNotIn, gHd]
      refine ⟨acc, SqL.of hl, addG gs (-n), al', addG_flat ft, by rw [addG_len]; exact hn, fun v' H2 s2 d2 => ?_⟩
      exact k v' H2 (sD.toSame.trans s2) d2
abbrev s_stronger : Stmt := topS 41
theorem sc_stronger : FnScope ["row", "n", "tag", "strength"] ["row", "n"] (defScope s_stronger) := ⟨rfl, rfl, rfl, by decide +kernel, rfl, by decide +kernel, by decide +kernel⟩

def spStronger (K : PySem.W.Frag) : Sp := fun vs H Q _ => ∃ (v : V) (gs : List GLay) (n : Int), vs = [v, .int n] ∧ Dp K H v (rowG gs) ∧ (∀ g ∈ gs, flatT g.1 = true) ∧ gs.length ≤ 1000 ∧
  ∀ v' H', Same H H' → Dp K H' v' (rowG (addG gs n)) → Q v' H'
theorem ok_stronger {f : Addr} {fd : FuncData} (F : Fun K "stronger" "stronger" s_stronger f fd) (M : Blt mg) : FnOk P w K mg base CX0 1 f fd ["row", "n"] (spStronger K) := by
  refine F.ok sc_stronger (fun vs H Q E h => ?_) (fun cdv A outer s H vs Q E hr h => ?_)
  · obtain ⟨v, gs, n, rfl, _⟩ := h
    rfl
  · obtain ⟨v, gs, n, rfl, hv, ft, hn, k⟩ := h
    obtain ⟨a, xs, rfl, hx, al⟩ := Dp.tupInv hv
    have len := gs_len al
    refine ⟨_, (pss_one (ps_ret (pe_callTy (k_tup (K := K) rfl) (by rfl) M.tuple (by decide +kernel) (pa_cons (pe_lc (own := [("tag", 2), ("strength", 3)]) (g := gTup K 2 (gCons (gName 2) (gCons (gName 3) gNil))) (tt := tYes) rfl sc_stronger.nd (pi_tup (pv 0)) (blkOk_by (own := [("tag", 2), ("strength", 3)]) (N := ["row", "n", "tag", "strength"]) (sc := defScope s_stronger) (by decide +kernel)) (fun _ _ _ _ _ => (pg_tup (n := 2) (by rfl) (pgs_cons (pg_name (i := 2) sc_stronger.nd rfl (by first | exact Or.inl rfl | exact Or.inr rfl)) (pgs_cons (pg_name (i := 3) sc_stronger.nd rfl (by first | exact Or.inl rfl | exact Or.inr rfl)) pgs_nil)))) (fun _ _ _ _ _ => pts_nil) (fun _ _ _ _ _ => (pe_tup (pa_cons (pv 2) (pa_cons (pe_op op_add (pv 3) (pv 1)) pa_nil))))) pa_nil)))), ?_⟩
    simp only [tSeq, tIfS, tTest, tOp, tUn, tVar, tC, rI, rI0, rU, rEq, rNe, rIxL, rIxT, rIxS, tCB, tCons, tNil, tRet, tRetN, tAsg, gTup, gCons, gNil, gName, gSub, rSetL, tNext, tDrop, tLst, tTup, tCall, tIf, tB, tAnd, tOr, tNot, tSl, tPart, tNoPart, tM1, tM0, tBM, tBM0, tLcE, tForE, iRng1, iRng2, iTup, iList, iStr, tYes, wipe, startDef, cxK, noxK, exists_and_left, exists_eq_left', exists_eq_left, exists_eq_right, Option.some.injEq, V.int.injEq, V.ref.injEq, V.str.injEq, V.bl.injEq, List.cons.injEq, and_true, true_and, List.append_nil, List.map_cons, List.map_nil, List.length_cons, List.length_nil, List.replicate, List.nil_append, List.cons_append, List.set_cons_zero, List.set_cons_succ, List.getElem?_cons_zero, List.getElem?_cons_succ, decide_eq_true_eq, exists_const, Nat.reduceAdd, Nat.reduceSub, List.replicate_succ, List.replicate_zero, exists_prop, and_assoc, List.set_nil, rLenK, rTupK, rLstK, rReprK, rEqD, rNeD, rIn, rAll, rAppend, rCat, ↓reduceIte, Bool.false_eq_true, iEnumT, rSortedPO, rIsi, rRep, rReverse, tLstRg, tTupRg, tRg1, tRg2, rSlL, rSlT, rSortedI, rSlF, rCatF, rMax, tLc2E, rSortedL, rSortedT, gUnl, tPar, rReprX, tChain, tDNewK, tDisp, tPairs, tAndV, tNotV, tFd, sFd, tMeth, tMake, tMakeK, gStar, iZipM, iItems, tLock, tSpread, tDcE, tDGet, sDPut, tPar3, tNever, rIxD, tChain, iEnum, tDIn, tDNotIn, gHd]
    refine ⟨⟨_, hx⟩, ?_⟩
    refine lcK (K := K) (walk_tup (xs := xs)) none (fun i ds => ds = (addG (gs.take i) n).map gD) potN (fun H s => St.tup potN s hx) (by omega) rfl ?_ ?_
    · rintro i x Ha H' ds C N hi sa fl rfl ⟨rfl, e⟩ go _
      obtain ⟨g, b, y, hl, rfl, sq, hy, _⟩ := gs_get al e
      have fg := ft g (List.mem_of_getElem? hl)
      have sq' := St.tup potN sa sq
      simp only [tSeq, tIfS, tTest, tOp, tUn, tVar, tC, rI, rI0, rU, rEq, rNe, rIxL, rIxT, rIxS, tCB, tCons, tNil, tRet, tRetN, tAsg, gTup, gCons, gNil, gName, gSub, rSetL, tNext, tDrop, tLst, tTup, tCall, tIf, tB, tAnd, tOr, tNot, tSl, tPart, tNoPart, tM1, tM0, tBM, tBM0, tLcE, tForE, iRng1, iRng2, iTup, iList, iStr, tYes, wipe, startDef, cxK, noxK, exists_and_left, exists_eq_left', exists_eq_left, exists_eq_right, Option.some.injEq, V.int.injEq, V.ref.injEq, V.str.injEq, V.bl.injEq, List.cons.injEq, and_true, true_and, List.append_nil, List.map_cons, List.map_nil, List.length_cons, List.length_nil, List.replicate, List.nil_append, List.cons_append, List.set_cons_zero, List.set_cons_succ, List.getElem?_cons_zero, List.getElem?_cons_succ, decide_eq_true_eq, exists_const, Nat.reduceAdd, Nat.reduceSub, List.replicate_succ, List.replicate_zero, exists_prop, and_assoc, List.set_nil, rLenK, rTupK, rLstK, rReprK, rEqD, rNeD, rIn, rAll, rAppend, rCat, ↓reduceIte, Bool.false_eq_true, iEnumT, rSortedPO, rIsi, rRep, rReverse, tLstRg, tTupRg, tRg1, tRg2, rSlL, rSlT, rSortedI, rSlF, rCatF, rMax, tLc2E, rSortedL, rSortedT, gUnl, tPar, rReprX, tChain, tDNewK, tDisp, tPairs, tAndV, tNotV, tFd, sFd, tMeth, tMake, tMakeK, gStar, iZipM, iItems, tLock, tSpread, tDcE, tDGet, sDPut, tPar3, tNever, rIxD, tChain, iEnum, tDIn, tDNotIn, gHd]
      refine ⟨_, sq', rfl, _, _, rfl, _, _, rfl, rfl, g.2, rfl, by decide, fun t ht => ?_⟩
      have s1 : Fd.St none H' (upd H' t (.tup [y, .int (g.2 + n)])) := St.new potN ht
      refine go _ _ (gD (g.1, g.2 + n)) s1 (flat_gD fg) (.tup (SqT.of upd_same) (.cons (smDp (sa.trans s1).toSame fg hy) (.cons (.int _) .nil))) ?_
      unfold addG
      rw [take_succ_map _ gs hl]
      simp
    · rintro D acc ds H' hD sD hl fl al' rfl
      rw [len, List.take_length] at al' fl
      simp only [tSeq, tIfS, tTest, tOp, tUn, tVar, tC, rI, rI0, rU, rEq, rNe, rIxL, rIxT, rIxS, tCB, tCons, tNil, tRet, tRetN, tAsg, gTup, gCons, gNil, gName, gSub, rSetL, tNext, tDrop, tLst, tTup, tCall, tIf, tB, tAnd, tOr, tNot, tSl, tPart, tNoPart, tM1, tM0, tBM, tBM0, tLcE, tForE, iRng1, iRng2, iTup, iList, iStr, tYes, wipe, startDef, cxK, noxK, exists_and_left, exists_eq_left', exists_eq_left, exists_eq_right, Option.some.injEq, V.int.injEq, V.ref.injEq, V.str.injEq, V.bl.injEq, List.cons.injEq, and_true, true_and, List.append_nil, List.map_cons, List.map_nil, List.length_cons, List.length_nil, List.replicate, List.nil_append, List.cons_append, List.set_cons_zero, List.set_cons_succ, List.getElem?_cons_zero, List.getElem?_cons_succ, decide_eq_true_eq, exists_const, Nat.reduceAdd, Nat.reduceSub, List.replicate_succ, List.replicate_zero, exists_prop, and_assoc, List.set_nil, rLenK, rTupK, rLstK, rReprK, rEqD, rNeD, rIn, rAll, rAppend, rCat, ↓reduceIte, Bool.false_eq_true, iEnumT, rSortedPO, rIsi, rRep, rReverse, tLstRg, tTupRg, tRg1, tRg2, rSlL, rSlT, rSortedI, rSlF, rCatF, rMax, tLc2E, rSortedL, rSortedT, gUnl, tPar, rReprX, tChain, tDNewK, tDisp, tPairs, tAndV, tNotV, tFd, sFd, tMeth, tMake, tMakeK, gStar, iZipM, iItems, tLock, tSpread, tDcE, tDGet, sDPut, tPar3, tNever, rIxD, tChain, iEnum, tDIn, tDNotIn, gHd]
      refine ⟨acc, .inl ⟨SqL.of hl, fun t ht => ?_⟩⟩
      have s2 : Fd.St none H' (upd H' t (.tup acc)) := St.new potN ht
      exact k _ _ (sD.trans s2).toSame (.tup (SqT.of upd_same) (dpsSt potN s2 fl al'))
end

/-! ### rows whatever their tags: rubbed, scraped -/
def rubG (gs : List GLay) (t : Nat) (n : Int) : List GLay := gs.modify t fun g => (g.1, g.2 - n)
theorem rubG_get {gs : List GLay} {t i : Nat} {n : Int} {g : GLay} (h : gs[i]? = some g) : (rubG gs t n)[i]? = some (g.1, if i = t then g.2 - n else g.2) := by
  unfold rubG
  rw [List.getElem?_modify, h]
  by_cases e : i = t
  · simp [e]
  · have e' : ¬ t = i := fun z => e z.symm
    simp [e, e']
theorem rubG_len {gs : List GLay} {t : Nat} {n : Int} : (rubG gs t n).length = gs.length := by
  unfold rubG
  rw [List.length_modify]
theorem rubG_flat {gs : List GLay} {t : Nat} {n : Int} (fl : ∀ g ∈ gs, flatT g.1 = true) : ∀ g ∈ rubG gs t n, flatT g.1 = true := fun g m => by
  obtain ⟨i, e⟩ := List.mem_iff_getElem?.mp m
  have hi := (List.getElem?_eq_some_iff.mp e).1
  rw [rubG_len] at hi
  have e2 : gs[i]? = some gs[i] := List.getElem?_eq_getElem hi
  rw [rubG_get e2] at e
  have := fl gs[i] (List.getElem_mem hi)
  rw [← Option.some.inj e]
  exact this
theorem eraseG_step {α : Type} {ls : List α} {t i : Nat} {l : α} (h : ls[i]? = some l) : (ls.take (i + 1)).eraseIdx t = (ls.take i).eraseIdx t ++ (if i = t then [] else [l]) := by
  have hi := (List.getElem?_eq_some_iff.mp h).1
  have len : (ls.take i).length = i := by rw [List.length_take]; omega
  rw [List.take_add_one, h]
  show (ls.take i ++ [l]).eraseIdx t = _
  rcases Nat.lt_trichotomy t i with q | q | q
  · rw [List.eraseIdx_append_of_lt_length (by omega), if_neg (by omega)]
  · subst q
    rw [if_pos rfl, List.eraseIdx_append_of_length_le (by omega), len, Nat.sub_self, List.eraseIdx_of_length_le (l := ls.take t) (by omega)]
    rfl
  · rw [if_neg (by omega), List.eraseIdx_of_length_le (by simp; omega), List.eraseIdx_of_length_le (by omega)]
section
variable {P : Program} {w : World} {K : PySem.W.Frag} {mg : Str → Option Value} {base : Heap}
structure CRub (P : Program) (w : World) (K : PySem.W.Frag) (mg : Str → Option Value) (base : Heap) : Prop where
  left : Has P w K mg base "_left" 1 ["layers"] (spLeft K)
  first : Has P w K mg base "first" 2 ["row"] (spFirst K)
abbrev s_rubbed : Stmt := topS 42
theorem sc_rubbed : FnScope ["row", "n", "top", "at", "tag", "strength"] ["row", "n"] (defScope s_rubbed) := ⟨rfl, rfl, rfl, by decide +kernel, rfl, by decide +kernel, by decide +kernel⟩

def spRubbed (K : PySem.W.Frag) : Sp := fun vs H Q _ => ∃ (v : V) (gs : List GLay) (n : Int), vs = [v, .int n] ∧ Dp K H v (rowG gs) ∧ (∀ g ∈ gs, flatT g.1 = true) ∧ gs.length ≤ 1000 ∧
  ∀ v' H' t, (gs ≠ [] → IsTop (gL gs) t) → Same H H' → Dp K H' v' (rowG ((rubG gs t n).filter posG)) → Q v' H'
theorem ok_rubbed {f : Addr} {fd : FuncData} (F : Fun K "rubbed" "rubbed" s_rubbed f fd) (M : Blt mg) (C : CRub P w K mg base) : FnOk P w K mg base CX0 3 f fd ["row", "n"] (spRubbed K) := by
  refine F.ok sc_rubbed (fun vs H Q E h => ?_) (fun cdv A outer s H vs Q E hr h => ?_)
  · obtain ⟨v, gs, n, rfl, _⟩ := h
    rfl
  · obtain ⟨v, gs, n, rfl, hv, ft, hn, k⟩ := h
    refine ⟨_, (pss_cons (ps_set (i := 2) sc_rubbed.nd rfl (by first | exact Or.inl rfl | exact Or.inr rfl) (callH C.first hr (by rfl) (pa_cons (pv 0) pa_nil)))
      (pss_one (ps_ret (callH C.left hr (by rfl) (pa_cons (pe_lc (own := [("at", 3), ("tag", 4), ("strength", 5)]) (g := gTup K 2 (gCons (gName 3) (gCons (gTup K 2 (gCons (gName 4) (gCons (gName 5) gNil))) gNil))) (tt := tYes) rfl sc_rubbed.nd (pi_enumT (by rfl) M.enumerate (pa_cons (pv 0) pa_nil)) (blkOk_by (own := [("at", 3), ("tag", 4), ("strength", 5)]) (N := ["row", "n", "top", "at", "tag", "strength"]) (sc := defScope s_rubbed) (by decide +kernel)) (fun _ _ _ _ _ => (pg_tup (n := 2) (by rfl) (pgs_cons (pg_name (i := 3) sc_rubbed.nd rfl (by first | exact Or.inl rfl | exact Or.inr rfl)) (pgs_cons (pg_tup (n := 2) (by rfl) (pgs_cons (pg_name (i := 4) sc_rubbed.nd rfl (by first | exact Or.inl rfl | exact Or.inr rfl)) (pgs_cons (pg_name (i := 5) sc_rubbed.nd rfl (by first | exact Or.inl rfl | exact Or.inr rfl)) pgs_nil))) pgs_nil)))) (fun _ _ _ _ _ => pts_nil) (fun _ _ _ _ _ => (pe_tup (pa_cons (pv 4) (pa_cons (pe_ifExp (pt_cmpR op_eq (pv 3) (pv 2) (nomark _)) (pe_op op_sub (pv 5) (pv 1)) (pv 5)) pa_nil))))) pa_nil))))), ?_⟩
    simp only [tSeq, tIfS, tTest, tOp, tUn, tVar, tC, rI, rI0, rU, rEq, rNe, rIxL, rIxT, rIxS, tCB, tCons, tNil, tRet, tRetN, tAsg, gTup, gCons, gNil, gName, gSub, rSetL, tNext, tDrop, tLst, tTup, tCall, tIf, tB, tAnd, tOr, tNot, tSl, tPart, tNoPart, tM1, tM0, tBM, tBM0, tLcE, tForE, iRng1, iRng2, iTup, iList, iStr, tYes, wipe, startDef, cxK, noxK, exists_and_left, exists_eq_left', exists_eq_left, exists_eq_right, Option.some.injEq, V.int.injEq, V.ref.injEq, V.str.injEq, V.bl.injEq, List.cons.injEq, and_true, true_and, List.append_nil, List.map_cons, List.map_nil, List.length_cons, List.length_nil, List.replicate, List.nil_append, List.cons_append, List.set_cons_zero, List.set_cons_succ, List.getElem?_cons_zero, List.getElem?_cons_succ, decide_eq_true_eq, exists_const, Nat.reduceAdd, Nat.reduceSub, List.replicate_succ, List.replicate_zero, exists_prop, and_assoc, List.set_nil, rLenK, rTupK, rLstK, rReprK, rEqD, rNeD, rIn, rAll, rAppend, rCat, ↓reduceIte, Bool.false_eq_true, iEnumT, rSortedPO, rIsi, rRep, rReverse, tLstRg, tTupRg, tRg1, tRg2, rSlL, rSlT, rSortedI, rSlF, rCatF, rMax, tLc2E, rSortedL, rSortedT, gUnl, tPar, rReprX, tChain, tDNewK, tDisp, tPairs, tAndV, tNotV, tFd, sFd, tMeth, tMake, tMakeK, gStar, iZipM, iItems, tLock, tSpread, tDcE, tDGet, sDPut, tPar3, tNever, rIxD, tChain, iEnum, tDIn, tDNotIn, gHd, spFirst, spLeft]
    refine ⟨gs, hv, hn, fun rs H1 rk q1 => ?_⟩
    have rlen : rs.length = gs.length := by rw [rk.len, gL_len]
    obtain ⟨t, ht, hf⟩ : ∃ t : Nat, (gs ≠ [] → IsTop (gL gs) t) ∧ (gs ≠ [] → firstV rs = V.int (t : Int)) := by
      cases rs with
      | nil =>
        have l0 : gs = [] := List.eq_nil_of_length_eq_zero rlen.symm
        exact ⟨0, fun z => absurd l0 z, fun z => absurd l0 z⟩
      | cons i r => exact ⟨i, fun _ => top_of_rank rk, fun _ => rfl⟩
    generalize firstV rs = top at hf ⊢
    have dv := dpSame q1 (flat_rowG ft) hv
    obtain ⟨a, xs, rfl, hx, al⟩ := Dp.tupInv dv
    have len := gs_len al
    refine ⟨a, rfl, xs, hx, ?_⟩
    refine lcK (K := K) walk_enumT none (fun i ds => ds = ((rubG gs t n).take i).map gD) potN (fun H s => St.tup potN s hx) (by omega) rfl ?_ ?_
    · rintro i x Ha H' ds C N hi sa fl rfl ⟨T, x1, x2, rfl, nT, rfl, e1, e2⟩ go _
      obtain rfl : V.int (i : Nat) = x1 := Option.some.inj e1
      obtain ⟨g, b, y, hl, rfl, sq, hy, _⟩ := gs_get al e2
      have fg := ft g (List.mem_of_getElem? hl)
      have ne : gs ≠ [] := fun z => by rw [z] at hl; cases hl
      obtain rfl := hf ne
      have sT : Fd.St none Ha (upd Ha T (.tup [.int (i : Nat), .ref b])) := St.new potN nT
      have sq' := St.tup potN (sa.trans sT) sq
      have hy' := smDp (sa.trans sT).toSame fg hy
      have tT : SqT K (upd Ha T (.tup [.int (i : Nat), .ref b])) T [.int (i : Nat), .ref b] := SqT.of upd_same
      generalize upd Ha T (.tup [.int (i : Nat), .ref b]) = HT at sT sq' hy' tT
      simp only [tSeq, tIfS, tTest, tOp, tUn, tVar, tC, rI, rI0, rU, rEq, rNe, rIxL, rIxT, rIxS, tCB, tCons, tNil, tRet, tRetN, tAsg, gTup, gCons, gNil, gName, gSub, rSetL, tNext, tDrop, tLst, tTup, tCall, tIf, tB, tAnd, tOr, tNot, tSl, tPart, tNoPart, tM1, tM0, tBM, tBM0, tLcE, tForE, iRng1, iRng2, iTup, iList, iStr, tYes, wipe, startDef, cxK, noxK, exists_and_left, exists_eq_left', exists_eq_left, exists_eq_right, Option.some.injEq, V.int.injEq, V.ref.injEq, V.str.injEq, V.bl.injEq, List.cons.injEq, and_true, true_and, List.append_nil, List.map_cons, List.map_nil, List.length_cons, List.length_nil, List.replicate, List.nil_append, List.cons_append, List.set_cons_zero, List.set_cons_succ, List.getElem?_cons_zero, List.getElem?_cons_succ, decide_eq_true_eq, exists_const, Nat.reduceAdd, Nat.reduceSub, List.replicate_succ, List.replicate_zero, exists_prop, and_assoc, List.set_nil, rLenK, rTupK, rLstK, rReprK, rEqD, rNeD, rIn, rAll, rAppend, rCat, ↓reduceIte, Bool.false_eq_true, iEnumT, rSortedPO, rIsi, rRep, rReverse, tLstRg, tTupRg, tRg1, tRg2, rSlL, rSlT, rSortedI, rSlF, rCatF, rMax, tLc2E, rSortedL, rSortedT, gUnl, tPar, rReprX, tChain, tDNewK, tDisp, tPairs, tAndV, tNotV, tFd, sFd, tMeth, tMake, tMakeK, gStar, iZipM, iItems, tLock, tSpread, tDcE, tDGet, sDPut, tPar3, tNever, rIxD, tChain, iEnum, tDIn, tDNotIn, gHd]
      have rg := rubG_get (t := t) (n := n) hl
      have bound : i < (rubG gs t n).length := by rw [rubG_len]; exact (List.getElem?_eq_some_iff.mp hl).1
      refine ⟨_, tT, rfl, _, _, rfl, _, _, rfl, b, rfl, _, sq', rfl, _, _, rfl, _, _, rfl, rfl, rfl, rfl, ?_⟩
      by_cases e : i = t
      · rw [if_pos (by rw [e])]
        rw [if_pos e] at rg
        refine ⟨g.2, rfl, by decide, fun p hp => ?_⟩
        have sp : Fd.St none HT (upd HT p (.tup [y, .int (g.2 - n)])) := St.new potN hp
        refine go _ _ (gD (g.1, g.2 - n)) (sT.trans sp) (flat_gD fg) (.tup (SqT.of upd_same) (.cons (smDp sp.toSame fg hy') (.cons (.int _) .nil))) ?_
        rw [take_succ_map _ _ rg]
      · rw [if_neg (fun z => e (by have := V.int.inj z; omega))]
        rw [if_neg e] at rg
        refine ⟨by decide, fun p hp => ?_⟩
        have sp : Fd.St none HT (upd HT p (.tup [y, .int g.2])) := St.new potN hp
        refine go _ _ (gD g) (sT.trans sp) (flat_gD fg) (.tup (SqT.of upd_same) (.cons (smDp sp.toSame fg hy') (.cons (.int _) .nil))) ?_
        rw [take_succ_map _ _ rg]
    · rintro D acc ds H2 hD sD hl fl al1 rfl
      rw [List.take_of_length_le (by rw [rubG_len]; omega)] at al1
      simp only [tSeq, tIfS, tTest, tOp, tUn, tVar, tC, rI, rI0, rU, rEq, rNe, rIxL, rIxT, rIxS, tCB, tCons, tNil, tRet, tRetN, tAsg, gTup, gCons, gNil, gName, gSub, rSetL, tNext, tDrop, tLst, tTup, tCall, tIf, tB, tAnd, tOr, tNot, tSl, tPart, tNoPart, tM1, tM0, tBM, tBM0, tLcE, tForE, iRng1, iRng2, iTup, iList, iStr, tYes, wipe, startDef, cxK, noxK, exists_and_left, exists_eq_left', exists_eq_left, exists_eq_right, Option.some.injEq, V.int.injEq, V.ref.injEq, V.str.injEq, V.bl.injEq, List.cons.injEq, and_true, true_and, List.append_nil, List.map_cons, List.map_nil, List.length_cons, List.length_nil, List.replicate, List.nil_append, List.cons_append, List.set_cons_zero, List.set_cons_succ, List.getElem?_cons_zero, List.getElem?_cons_succ, decide_eq_true_eq, exists_const, Nat.reduceAdd, Nat.reduceSub, List.replicate_succ, List.replicate_zero, exists_prop, and_assoc, List.set_nil, rLenK, rTupK, rLstK, rReprK, rEqD, rNeD, rIn, rAll, rAppend, rCat, ↓reduceIte, Bool.false_eq_true, iEnumT, rSortedPO, rIsi, rRep, rReverse, tLstRg, tTupRg, tRg1, tRg2, rSlL, rSlT, rSortedI, rSlF, rCatF, rMax, tLc2E, rSortedL, rSortedT, gUnl, tPar, rReprX, tChain, tDNewK, tDisp, tPairs, tAndV, tNotV, tFd, sFd, tMeth, tMake, tMakeK, gStar, iZipM, iItems, tLock, tSpread, tDcE, tDGet, sDPut, tPar3, tNever, rIxD, tChain, iEnum, tDIn, tDNotIn, gHd]
      refine ⟨acc, SqL.of hl, rubG gs t n, al1, rubG_flat ft, by rw [rubG_len]; exact hn, fun v' H3 q3 d3 => ?_⟩
      exact k v' H3 t ht ((q1.trans sD.toSame).trans q3) d3
abbrev s_scraped : Stmt := topS 43
theorem sc_scraped : FnScope ["row", "top", "at", "layer"] ["row"] (defScope s_scraped) := ⟨rfl, rfl, rfl, by decide +kernel, rfl, by decide +kernel, by decide +kernel⟩

def spScraped (K : PySem.W.Frag) : Sp := fun vs H Q _ => ∃ (v : V) (gs : List GLay), vs = [v] ∧ Dp K H v (rowG gs) ∧ (∀ g ∈ gs, flatT g.1 = true) ∧ gs.length ≤ 1000 ∧
  ∀ v' H' t, (gs ≠ [] → IsTop (gL gs) t) → Same H H' → Dp K H' v' (rowG (gs.eraseIdx t)) → Q v' H'
theorem ok_scraped {f : Addr} {fd : FuncData} (F : Fun K "scraped" "scraped" s_scraped f fd) (M : Blt mg) (C : CRub P w K mg base) : FnOk P w K mg base CX0 3 f fd ["row"] (spScraped K) := by
  refine F.ok sc_scraped (fun vs H Q E h => ?_) (fun cdv A outer s H vs Q E hr h => ?_)
  · obtain ⟨v, gs, rfl, _⟩ := h
    rfl
  · obtain ⟨v, gs, rfl, hv, ft, hn, k⟩ := h
    refine ⟨_, (pss_cons (ps_set (i := 1) sc_scraped.nd rfl (by first | exact Or.inl rfl | exact Or.inr rfl) (callH C.first hr (by rfl) (pa_cons (pv 0) pa_nil)))
      (pss_one (ps_ret (pe_callTy (k_tup (K := K) rfl) (by rfl) M.tuple (by decide +kernel) (pa_cons (pe_lc (own := [("at", 2), ("layer", 3)]) (g := gTup K 2 (gCons (gName 2) (gCons (gName 3) gNil)))  rfl sc_scraped.nd (pi_enumT (by rfl) M.enumerate (pa_cons (pv 0) pa_nil)) (blkOk_by (own := [("at", 2), ("layer", 3)]) (N := ["row", "top", "at", "layer"]) (sc := defScope s_scraped) (by decide +kernel)) (fun _ _ _ _ _ => (pg_tup (n := 2) (by rfl) (pgs_cons (pg_name (i := 2) sc_scraped.nd rfl (by first | exact Or.inl rfl | exact Or.inr rfl)) (pgs_cons (pg_name (i := 3) sc_scraped.nd rfl (by first | exact Or.inl rfl | exact Or.inr rfl)) pgs_nil)))) (fun _ _ _ _ _ => (pts_one (pt_cmpR op_ne (pv 2) (pv 1) (nomark _)))) (fun _ _ _ _ _ => (pv 3))) pa_nil))))), ?_⟩
    simp only [tSeq, tIfS, tTest, tOp, tUn, tVar, tC, rI, rI0, rU, rEq, rNe, rIxL, rIxT, rIxS, tCB, tCons, tNil, tRet, tRetN, tAsg, gTup, gCons, gNil, gName, gSub, rSetL, tNext, tDrop, tLst, tTup, tCall, tIf, tB, tAnd, tOr, tNot, tSl, tPart, tNoPart, tM1, tM0, tBM, tBM0, tLcE, tForE, iRng1, iRng2, iTup, iList, iStr, tYes, wipe, startDef, cxK, noxK, exists_and_left, exists_eq_left', exists_eq_left, exists_eq_right, Option.some.injEq, V.int.injEq, V.ref.injEq, V.str.injEq, V.bl.injEq, List.cons.injEq, and_true, true_and, List.append_nil, List.map_cons, List.map_nil, List.length_cons, List.length_nil, List.replicate, List.nil_append, List.cons_append, List.set_cons_zero, List.set_cons_succ, List.getElem?_cons_zero, List.getElem?_cons_succ, decide_eq_true_eq, exists_const, Nat.reduceAdd, Nat.reduceSub, List.replicate_succ, List.replicate_zero, exists_prop, and_assoc, List.set_nil, rLenK, rTupK, rLstK, rReprK, rEqD, rNeD, rIn, rAll, rAppend, rCat, ↓reduceIte, Bool.false_eq_true, iEnumT, rSortedPO, rIsi, rRep, rReverse, tLstRg, tTupRg, tRg1, tRg2, rSlL, rSlT, rSortedI, rSlF, rCatF, rMax, tLc2E, rSortedL, rSortedT, gUnl, tPar, rReprX, tChain, tDNewK, tDisp, tPairs, tAndV, tNotV, tFd, sFd, tMeth, tMake, tMakeK, gStar, iZipM, iItems, tLock, tSpread, tDcE, tDGet, sDPut, tPar3, tNever, rIxD, tChain, iEnum, tDIn, tDNotIn, gHd, spFirst]
    refine ⟨gs, hv, hn, fun rs H1 rk q1 => ?_⟩
    have rlen : rs.length = gs.length := by rw [rk.len, gL_len]
    obtain ⟨t, ht, hf⟩ : ∃ t : Nat, (gs ≠ [] → IsTop (gL gs) t) ∧ (gs ≠ [] → firstV rs = V.int (t : Int)) := by
      cases rs with
      | nil =>
        have l0 : gs = [] := List.eq_nil_of_length_eq_zero rlen.symm
        exact ⟨0, fun z => absurd l0 z, fun z => absurd l0 z⟩
      | cons i r => exact ⟨i, fun _ => top_of_rank rk, fun _ => rfl⟩
    generalize firstV rs = top at hf ⊢
    have dv := dpSame q1 (flat_rowG ft) hv
    obtain ⟨a, xs, rfl, hx, al⟩ := Dp.tupInv dv
    have len := gs_len al
    refine ⟨a, rfl, xs, hx, ?_⟩
    refine lcK (K := K) walk_enumT none (fun i ds => ds = ((gs.take i).eraseIdx t).map gD) potN (fun H s => St.tup potN s hx) (by omega) (by simp) ?_ ?_
    · rintro i x Ha H' ds C N hi sa fl rfl ⟨T, x1, x2, rfl, nT, rfl, e1, e2⟩ go skip
      obtain rfl : V.int (i : Nat) = x1 := Option.some.inj e1
      obtain ⟨g, b, y, hl, rfl, sq, _, hd⟩ := gs_get al e2
      have fg := ft g (List.mem_of_getElem? hl)
      have ne : gs ≠ [] := fun z => by rw [z] at hl; cases hl
      obtain rfl := hf ne
      have sT : Fd.St none Ha (upd Ha T (.tup [.int (i : Nat), .ref b])) := St.new potN nT
      have hd' := smDp (sa.trans sT).toSame (flat_gD fg) hd
      have st := eraseG_step (t := t) hl
      simp only [tSeq, tIfS, tTest, tOp, tUn, tVar, tC, rI, rI0, rU, rEq, rNe, rIxL, rIxT, rIxS, tCB, tCons, tNil, tRet, tRetN, tAsg, gTup, gCons, gNil, gName, gSub, rSetL, tNext, tDrop, tLst, tTup, tCall, tIf, tB, tAnd, tOr, tNot, tSl, tPart, tNoPart, tM1, tM0, tBM, tBM0, tLcE, tForE, iRng1, iRng2, iTup, iList, iStr, tYes, wipe, startDef, cxK, noxK, exists_and_left, exists_eq_left', exists_eq_left, exists_eq_right, Option.some.injEq, V.int.injEq, V.ref.injEq, V.str.injEq, V.bl.injEq, List.cons.injEq, and_true, true_and, List.append_nil, List.map_cons, List.map_nil, List.length_cons, List.length_nil, List.replicate, List.nil_append, List.cons_append, List.set_cons_zero, List.set_cons_succ, List.getElem?_cons_zero, List.getElem?_cons_succ, decide_eq_true_eq, exists_const, Nat.reduceAdd, Nat.reduceSub, List.replicate_succ, List.replicate_zero, exists_prop, and_assoc, List.set_nil, rLenK, rTupK, rLstK, rReprK, rEqD, rNeD, rIn, rAll, rAppend, rCat, ↓reduceIte, Bool.false_eq_true, iEnumT, rSortedPO, rIsi, rRep, rReverse, tLstRg, tTupRg, tRg1, tRg2, rSlL, rSlT, rSortedI, rSlF, rCatF, rMax, tLc2E, rSortedL, rSortedT, gUnl, tPar, rReprX, tChain, tDNewK, tDisp, tPairs, tAndV, tNotV, tFd, sFd, tMeth, tMake, tMakeK, gStar, iZipM, iItems, tLock, tSpread, tDcE, tDGet, sDPut, tPar3, tNever, rIxD, tChain, iEnum, tDIn, tDNotIn, gHd]
      refine ⟨_, SqT.of upd_same, rfl, _, _, rfl, _, _, rfl, rfl, rfl, ?_⟩
      by_cases e : i = t
      · rw [if_neg (by simp [e])]
        refine skip _ sT ?_
        rw [st, if_pos e, List.append_nil]
      · rw [if_pos (by simp; exact fun z => e (by omega))]
        refine go _ _ (gD g) sT (flat_gD fg) hd' ?_
        rw [st, if_neg e, List.map_append]
        rfl
    · rintro D acc ds H2 hD sD hl fl al1 rfl
      rw [List.take_of_length_le (by omega)] at al1 fl
      simp only [tSeq, tIfS, tTest, tOp, tUn, tVar, tC, rI, rI0, rU, rEq, rNe, rIxL, rIxT, rIxS, tCB, tCons, tNil, tRet, tRetN, tAsg, gTup, gCons, gNil, gName, gSub, rSetL, tNext, tDrop, tLst, tTup, tCall, tIf, tB, tAnd, tOr, tNot, tSl, tPart, tNoPart, tM1, tM0, tBM, tBM0, tLcE, tForE, iRng1, iRng2, iTup, iList, iStr, tYes, wipe, startDef, cxK, noxK, exists_and_left, exists_eq_left', exists_eq_left, exists_eq_right, Option.some.injEq, V.int.injEq, V.ref.injEq, V.str.injEq, V.bl.injEq, List.cons.injEq, and_true, true_and, List.append_nil, List.map_cons, List.map_nil, List.length_cons, List.length_nil, List.replicate, List.nil_append, List.cons_append, List.set_cons_zero, List.set_cons_succ, List.getElem?_cons_zero, List.getElem?_cons_succ, decide_eq_true_eq, exists_const, Nat.reduceAdd, Nat.reduceSub, List.replicate_succ, List.replicate_zero, exists_prop, and_assoc, List.set_nil, rLenK, rTupK, rLstK, rReprK, rEqD, rNeD, rIn, rAll, rAppend, rCat, ↓reduceIte, Bool.false_eq_true, iEnumT, rSortedPO, rIsi, rRep, rReverse, tLstRg, tTupRg, tRg1, tRg2, rSlL, rSlT, rSortedI, rSlF, rCatF, rMax, tLc2E, rSortedL, rSortedT, gUnl, tPar, rReprX, tChain, tDNewK, tDisp, tPairs, tAndV, tNotV, tFd, sFd, tMeth, tMake, tMakeK, gStar, iZipM, iItems, tLock, tSpread, tDcE, tDGet, sDPut, tPar3, tNever, rIxD, tChain, iEnum, tDIn, tDNotIn, gHd]
      refine ⟨acc, .inl ⟨SqL.of hl, fun t2 ht2 => ?_⟩⟩
      have s3 : Fd.St none H2 (upd H2 t2 (.tup acc)) := St.new potN ht2
      exact k _ _ t ht (q1.trans (sD.trans s3).toSame) (.tup (SqT.of upd_same) (dpsSt potN s3 fl al1))
end

/-! ### grounds -/
section
variable {P : Program} {w : World} {K : PySem.W.Frag} {mg : Str → Option Value} {base : Heap} {cP : Addr}
structure CNames (P : Program) (w : World) (K : PySem.W.Frag) (mg : Str → Option Value) (base : Heap) (cP : Addr) : Prop where
  Palette_names : HasM P w K mg base cP "names" 1 ["self"] (spNamesP K cP)
abbrev s_bare_ground : Stmt := topS 46
theorem sc_bare_ground : FnScope ["palette", "ink"] ["palette"] (defScope s_bare_ground) := ⟨rfl, rfl, rfl, by decide +kernel, rfl, by decide +kernel, by decide +kernel⟩

def spBare (K : PySem.W.Frag) (cP : Addr) : Sp := fun vs H Q _ => ∃ (p m f : Addr) (inks : List Lay), vs = [.ref p] ∧ PalAt K cP H p m f inks ∧ InksOk inks ∧
  ∀ g H', H g = none → Same H H' → GrdG K H' g (inks.map fun i => (i.1, [])) → Q (.ref g) H'
theorem ok_bare_ground {f : Addr} {fd : FuncData} (F : Fun K "bare_ground" "bare_ground" s_bare_ground f fd) (M : Blt mg) (TPalette : TPal K mg cP) (C : CNames P w K mg base cP) : FnOk P w K mg base CX0 2 f fd ["palette"] (spBare K cP) := by
  refine F.ok sc_bare_ground (fun vs H Q E h => ?_) (fun cdv A outer s H vs Q E hr h => ?_)
  · obtain ⟨p, m, f, inks, rfl, _⟩ := h
    rfl
  · obtain ⟨p, m, f, inks, rfl, hP, ok, k⟩ := h
    obtain ⟨⟨dx, hp⟩, _⟩ := id hP
    refine ⟨_, (pss_one (ps_ret (pe_dc (own := [("ink", 1)]) (g := gName 1) (tt := tYes) rfl sc_bare_ground.nd (pi_list (methC0 C.Palette_names TPalette.cl hr (pv 0))) (blkOk_by (own := [("ink", 1)]) (N := ["palette", "ink"]) (sc := defScope s_bare_ground) (by decide +kernel)) (fun _ _ _ _ _ => (pg_name (i := 1) sc_bare_ground.nd rfl (by first | exact Or.inl rfl | exact Or.inr rfl))) (fun _ _ _ _ _ => pts_nil) (fun _ _ _ _ _ => (pv 1)) (fun _ _ _ _ _ => (pe_tup pa_nil))))), ?_⟩
    simp only [tSeq, tIfS, tTest, tOp, tUn, tVar, tC, rI, rI0, rU, rEq, rNe, rIxL, rIxT, rIxS, tCB, tCons, tNil, tRet, tRetN, tAsg, gTup, gCons, gNil, gName, gSub, rSetL, tNext, tDrop, tLst, tTup, tCall, tIf, tB, tAnd, tOr, tNot, tSl, tPart, tNoPart, tM1, tM0, tBM, tBM0, tLcE, tForE, iRng1, iRng2, iTup, iList, iStr, tYes, wipe, startDef, cxK, noxK, exists_and_left, exists_eq_left', exists_eq_left, exists_eq_right, Option.some.injEq, V.int.injEq, V.ref.injEq, V.str.injEq, V.bl.injEq, List.cons.injEq, and_true, true_and, List.append_nil, List.map_cons, List.map_nil, List.length_cons, List.length_nil, List.replicate, List.nil_append, List.cons_append, List.set_cons_zero, List.set_cons_succ, List.getElem?_cons_zero, List.getElem?_cons_succ, decide_eq_true_eq, exists_const, Nat.reduceAdd, Nat.reduceSub, List.replicate_succ, List.replicate_zero, exists_prop, and_assoc, List.set_nil, rLenK, rTupK, rLstK, rReprK, rEqD, rNeD, rIn, rAll, rAppend, rCat, ↓reduceIte, Bool.false_eq_true, iEnumT, rSortedPO, rIsi, rRep, rReverse, tLstRg, tTupRg, tRg1, tRg2, rSlL, rSlT, rSortedI, rSlF, rCatF, rMax, tLc2E, rSortedL, rSortedT, gUnl, tPar, rReprX, tChain, tDNewK, tDisp, tPairs, tAndV, tNotV, tFd, sFd, tMeth, tMake, tMakeK, gStar, iZipM, iItems, tLock, tSpread, tDcE, tDGet, sDPut, tPar3, tNever, rIxD, tChain, iEnum, tDIn, tDNotIn, gHd, spNamesP]
    refine ⟨dx, _, hp, rfl, m, f, inks, hP, ok.most, fun q H1 nq s1 hq => ⟨⟨_, SqL.of hq⟩, ?_⟩⟩
    refine dcW (walk_list (xs := (inks.map (·.1)).map V.str)) (fun i H' kvs => Paired (GRel K H') kvs ((inks.take i).map fun i => (i.1, []))) (by have := ok.most; simp; omega) (fun D hD => .nil) (fun i Ha kvs sa _ => SqL.of (sa _ _ hq)) ?_ ?_
    · rintro i x Ha H' kvs D C N hi sa hD hd r ⟨rfl, e⟩ go
      obtain ⟨lay, e3, rfl⟩ : ∃ lay, inks[i]? = some lay ∧ x = V.str lay.1 := by
        rw [List.getElem?_map, List.getElem?_map] at e
        cases q : inks[i]? with
        | none => rw [q] at e; cases e
        | some l => rw [q] at e; exact ⟨l, rfl, (Option.some.inj e).symm⟩
      simp only [tSeq, tIfS, tTest, tOp, tUn, tVar, tC, rI, rI0, rU, rEq, rNe, rIxL, rIxT, rIxS, tCB, tCons, tNil, tRet, tRetN, tAsg, gTup, gCons, gNil, gName, gSub, rSetL, tNext, tDrop, tLst, tTup, tCall, tIf, tB, tAnd, tOr, tNot, tSl, tPart, tNoPart, tM1, tM0, tBM, tBM0, tLcE, tForE, iRng1, iRng2, iTup, iList, iStr, tYes, wipe, startDef, cxK, noxK, exists_and_left, exists_eq_left', exists_eq_left, exists_eq_right, Option.some.injEq, V.int.injEq, V.ref.injEq, V.str.injEq, V.bl.injEq, List.cons.injEq, and_true, true_and, List.append_nil, List.map_cons, List.map_nil, List.length_cons, List.length_nil, List.replicate, List.nil_append, List.cons_append, List.set_cons_zero, List.set_cons_succ, List.getElem?_cons_zero, List.getElem?_cons_succ, decide_eq_true_eq, exists_const, Nat.reduceAdd, Nat.reduceSub, List.replicate_succ, List.replicate_zero, exists_prop, and_assoc, List.set_nil, rLenK, rTupK, rLstK, rReprK, rEqD, rNeD, rIn, rAll, rAppend, rCat, ↓reduceIte, Bool.false_eq_true, iEnumT, rSortedPO, rIsi, rRep, rReverse, tLstRg, tTupRg, tRg1, tRg2, rSlL, rSlT, rSortedI, rSlF, rCatF, rMax, tLc2E, rSortedL, rSortedT, gUnl, tPar, rReprX, tChain, tDNewK, tDisp, tPairs, tAndV, tNotV, tFd, sFd, tMeth, tMake, tMakeK, gStar, iZipM, iItems, tLock, tSpread, tDcE, tDGet, sDPut, tPar3, tNever, rIxD, tChain, iEnum, tDIn, tDNotIn, gHd]
      refine ⟨by decide, fun t ht => ?_⟩
      have st : Same _ (upd _ t (.tup [])) := same_new ht
      refine go (Sum.inr lay.1) (.ref t) _ st ?_ fun H6 keep => ?_
      · refine grel_none r ?_
        rw [List.map_map]
        exact not_take (fun j : Lay => j.1) ok.nd e3
      · have keepT : ∀ a xs, SqT K (upd H' t (.tup [])) a xs → SqT K H6 a xs := fun a xs h => by
          have hd' := st _ _ hd
          rcases h with (h | ⟨ob, h⟩) | h
          · exact Or.inl (Or.inl (keep _ _ (ne_of h hd' (by intro z; cases z)) h))
          · exact Or.inl (Or.inr ⟨ob, keep _ _ (ne_of h hd' (by intro z; cases z)) h⟩)
          · exact Or.inr h
        rw [take_succ_map _ _ e3]
        have fl : FlatG ((inks.take i).map fun i => ((i.1 : Str), ([] : List GLay))) := by
          rintro r m g mg
          obtain ⟨j, _, rfl⟩ := List.mem_map.mp m
          cases mg
        exact paired_snoc ⟨rfl, .tup (keepT _ _ (SqT.of upd_same)) .nil⟩ (grels fl (fun a xs h => keepT a xs (St.tup potN (St.ofSame potN st) h)) r)
    · rintro D kvs H' hD sa hd r
      have e : inks.take ((inks.map (·.1)).map V.str).length = inks := List.take_of_length_le (by simp)
      rw [e] at r
      refine k D H' (smFr s1 hD) (smT s1 sa) ⟨kvs, hd, r⟩
structure CFirst (P : Program) (w : World) (K : PySem.W.Frag) (mg : Str → Option Value) (base : Heap) : Prop where
  first : Has P w K mg base "first" 2 ["row"] (spFirst K)
structure GrOk (gr : GGrd) : Prop where
  len : gr.length ≤ 8
  rows : ∀ r ∈ gr, r.2.length ≤ 1000
  nd : (gr.map (·.1)).Nodup
  flat : FlatG gr
abbrev s_seen_on : Stmt := topS 47
theorem sc_seen_on : FnScope ["ground", "found", "ink", "row", "tag", "strength"] ["ground"] (defScope s_seen_on) := ⟨rfl, rfl, rfl, by decide +kernel, rfl, by decide +kernel, by decide +kernel⟩

def spSeenOn (K : PySem.W.Frag) : Sp := fun vs H Q _ => ∃ (g : Addr) (gr : GGrd), vs = [.ref g] ∧ GrdG K H g gr ∧ GrOk gr ∧ ∀ v H', Same H H' → SeenV K H' v (topG gr) → Q v H'
theorem ok_seen_on {f : Addr} {fd : FuncData} (F : Fun K "seen_on" "seen_on" s_seen_on f fd) (M : Blt mg) (C : CFirst P w K mg base) : FnOk P w K mg base CX0 3 f fd ["ground"] (spSeenOn K) := by
  refine F.ok sc_seen_on (fun vs H Q E h => ?_) (fun cdv A outer s H vs Q E hr h => ?_)
  · obtain ⟨g, gr, rfl, _⟩ := h
    rfl
  · obtain ⟨g, gr, rfl, ⟨kvs, hg, hp⟩, ok, k⟩ := h
    refine ⟨_, (pss_cons (ps_set (i := 1) sc_seen_on.nd rfl (by first | exact Or.inl rfl | exact Or.inr rfl) pe_non)
      (pss_cons (ps_lock (ps_for PassesOwn.never rfl (pi_items (pv 0)) (pg_tup (n := 2) (by rfl) (pgs_cons (pg_name (i := 2) sc_seen_on.nd rfl (by first | exact Or.inl rfl | exact Or.inr rfl)) (pgs_cons (pg_name (i := 3) sc_seen_on.nd rfl (by first | exact Or.inl rfl | exact Or.inr rfl)) pgs_nil))) (pss_one (ps_if (pt_truth (pv 3) (by intro _; rfl)) (pss_cons (ps_asg (pe_ix (k_ixT (K := K) rfl) (pv 3) (callH C.first hr (by rfl) (pa_cons (pv 3) pa_nil)) (fun _ _ => rfl)) (pg_tup (n := 2) (by rfl) (pgs_cons (pg_name (i := 4) sc_seen_on.nd rfl (by first | exact Or.inl rfl | exact Or.inr rfl)) (pgs_cons (pg_name (i := 5) sc_seen_on.nd rfl (by first | exact Or.inl rfl | exact Or.inr rfl)) pgs_nil))))
      (pss_one (ps_if (PW.pt (pw_or (pt_cmpR op_isN (pv 1) pe_non (nomark _)) (pw_or1 (pt_cmpR op_gt (pv 5) (pe_ix (k_ixT (K := K) rfl) (pv 1) pe_int (fun _ _ => rfl)) (nomark _))))) (pss_one (ps_set (i := 1) sc_seen_on.nd rfl (by first | exact Or.inl rfl | exact Or.inr rfl) (pe_tup (pa_cons (pv 2) (pa_cons (pv 4) (pa_cons (pv 5) pa_nil)))))) pss_nil))) pss_nil))))
      (pss_one (ps_ret (pv 1))))), ?_⟩
    simp only [tSeq, tIfS, tTest, tOp, tUn, tVar, tC, rI, rI0, rU, rEq, rNe, rIxL, rIxT, rIxS, tCB, tCons, tNil, tRet, tRetN, tAsg, gTup, gCons, gNil, gName, gSub, rSetL, tNext, tDrop, tLst, tTup, tCall, tIf, tB, tAnd, tOr, tNot, tSl, tPart, tNoPart, tM1, tM0, tBM, tBM0, tLcE, tForE, iRng1, iRng2, iTup, iList, iStr, tYes, wipe, startDef, cxK, noxK, exists_and_left, exists_eq_left', exists_eq_left, exists_eq_right, Option.some.injEq, V.int.injEq, V.ref.injEq, V.str.injEq, V.bl.injEq, List.cons.injEq, and_true, true_and, List.append_nil, List.map_cons, List.map_nil, List.length_cons, List.length_nil, List.replicate, List.nil_append, List.cons_append, List.set_cons_zero, List.set_cons_succ, List.getElem?_cons_zero, List.getElem?_cons_succ, decide_eq_true_eq, exists_const, Nat.reduceAdd, Nat.reduceSub, List.replicate_succ, List.replicate_zero, exists_prop, and_assoc, List.set_nil, rLenK, rTupK, rLstK, rReprK, rEqD, rNeD, rIn, rAll, rAppend, rCat, ↓reduceIte, Bool.false_eq_true, iEnumT, rSortedPO, rIsi, rRep, rReverse, tLstRg, tTupRg, tRg1, tRg2, rSlL, rSlT, rSortedI, rSlF, rCatF, rMax, tLc2E, rSortedL, rSortedT, gUnl, tPar, rReprX, tChain, tDNewK, tDisp, tPairs, tAndV, tNotV, tFd, sFd, tMeth, tMake, tMakeK, gStar, iZipM, iItems, tLock, tSpread, tDcE, tDGet, sDPut, tPar3, tNever, rIxD, tChain, iEnum, tDIn, tDNotIn, gHd, spFirst]
    have lk := paired_len hp
    have l8 := ok.len
    refine ⟨g, .dK kvs, hg, trivial, fun od => ⟨od, kvs, upd_same, ?_⟩⟩
    have s0 : ∀ a xs, SqT K H a xs → SqT K (upd H g (.frz od (.dK kvs))) a xs := fun a xs h => by
      rcases h with (h | ⟨ob, h⟩) | h
      · exact Or.inl (Or.inl (by rw [upd_ne (ne_of h hg (by intro z; cases z))]; exact h))
      · exact Or.inl (Or.inr ⟨ob, by rw [upd_ne (ne_of h hg (by intro z; cases z))]; exact h⟩)
      · exact Or.inr h
    have hp0 := grels ok.flat s0 hp
    generalize eH0 : upd H g (.frz od (.dK kvs)) = H0 at hp0 s0
    have hg0 : H0 g = some (.frz od (.dK kvs)) := by rw [← eH0]; exact upd_same
    refine for_it walk_items (fun i σ H' => ∃ fv a2 a3 a4 a5, σ = [some (.ref g), some fv, a2, a3, a4, a5] ∧ Same H0 H' ∧ SeenV K H' fv (topG (gr.take i))) ⟨.non, none, none, none, none, rfl, Same.refl _, rfl⟩
      (fun i σ H' _ ⟨_, _, _, _, _, _, s, _⟩ => s _ _ hg0) ?_ ?_
    · rintro i x σ Ha H' hi ⟨fv, a2, a3, a4, a5, rfl, sa, sv⟩ ⟨T, x1, x2, rfl, nT, rfl, e1, e2⟩
      have ekv : kvs[i]? = some kvs[i] := List.getElem?_eq_getElem hi
      obtain ⟨⟨ink, gs⟩, er, hk, hd⟩ := paired_get hp0 ekv
      have e1' : (kvs[i]?).map (fun kv => kV kv.1) = some x1 := e1
      have e2' : (kvs[i]?).map Prod.snd = some x2 := e2
      rw [ekv] at e1' e2'
      have x1e : V.str ink = x1 := by
        have q : kV kvs[i].1 = x1 := Option.some.inj e1'
        rw [hk] at q
        exact q
      obtain rfl : kvs[i].2 = x2 := Option.some.inj e2'
      subst x1e
      have sT : Same Ha (upd Ha T (.tup [.str ink, kvs[i].2])) := same_new nT
      have mr : (ink, gs) ∈ gr := List.mem_of_getElem? er
      have flr := ok.flat _ mr
      have hd1 : Dp K (upd Ha T (.tup [.str ink, kvs[i].2])) kvs[i].2 (rowG gs) := smDp (smT sa sT) (flat_rowG flr) hd
      have sv1 : SeenV K (upd Ha T (.tup [.str ink, kvs[i].2])) fv (topG (gr.take i)) := SeenV.move (flat_take ok.flat i) (fun _ _ t => St.tup potN (St.ofSame potN sT) t) sv
      generalize eHT : upd Ha T (.tup [.str ink, kvs[i].2]) = HT at sT hd1 sv1
      have hT : HT T = some (.tup [.str ink, kvs[i].2]) := by rw [← eHT]; exact upd_same
      rw [topG_succ gr er]
      generalize kvs[i].2 = rv at hd1 hT
      obtain ⟨ra, rxs, rfl, rs, ral⟩ := Dp.tupInv hd1
      have rlen := gs_len ral
      simp only [tSeq, tIfS, tTest, tOp, tUn, tVar, tC, rI, rI0, rU, rEq, rNe, rIxL, rIxT, rIxS, tCB, tCons, tNil, tRet, tRetN, tAsg, gTup, gCons, gNil, gName, gSub, rSetL, tNext, tDrop, tLst, tTup, tCall, tIf, tB, tAnd, tOr, tNot, tSl, tPart, tNoPart, tM1, tM0, tBM, tBM0, tLcE, tForE, iRng1, iRng2, iTup, iList, iStr, tYes, wipe, startDef, cxK, noxK, exists_and_left, exists_eq_left', exists_eq_left, exists_eq_right, Option.some.injEq, V.int.injEq, V.ref.injEq, V.str.injEq, V.bl.injEq, List.cons.injEq, and_true, true_and, List.append_nil, List.map_cons, List.map_nil, List.length_cons, List.length_nil, List.replicate, List.nil_append, List.cons_append, List.set_cons_zero, List.set_cons_succ, List.getElem?_cons_zero, List.getElem?_cons_succ, decide_eq_true_eq, exists_const, Nat.reduceAdd, Nat.reduceSub, List.replicate_succ, List.replicate_zero, exists_prop, and_assoc, List.set_nil, rLenK, rTupK, rLstK, rReprK, rEqD, rNeD, rIn, rAll, rAppend, rCat, ↓reduceIte, Bool.false_eq_true, iEnumT, rSortedPO, rIsi, rRep, rReverse, tLstRg, tTupRg, tRg1, tRg2, rSlL, rSlT, rSortedI, rSlF, rCatF, rMax, tLc2E, rSortedL, rSortedT, gUnl, tPar, rReprX, tChain, tDNewK, tDisp, tPairs, tAndV, tNotV, tFd, sFd, tMeth, tMake, tMakeK, gStar, iZipM, iItems, tLock, tSpread, tDcE, tDGet, sDPut, tPar3, tNever, rIxD, tChain, iEnum, tDIn, tDNotIn, gHd, spFirst]
      refine ⟨_, SqT.of hT, rfl, _, _, rfl, _, _, rfl, rfl, !rxs.isEmpty, .inr (.inl ⟨rxs, rs, rfl⟩), ?_⟩
      cases gs with
      | nil =>
        obtain rfl : rxs = [] := List.length_eq_zero_iff.mp rlen
        rw [if_neg (by decide)]
        refine ⟨smT sa sT, ?_⟩
        unfold topStep
        rw [firstOf_nil]
        exact sv1
      | cons g0 gs =>
        obtain ⟨r0, rxs, rfl⟩ : ∃ r0 r1, rxs = r0 :: r1 := by
          cases rxs with
          | nil => simp at rlen
          | cons a b => exact ⟨a, b, rfl⟩
        rw [if_pos (by rfl)]
        refine ⟨g0 :: gs, hd1, ok.rows _ mr, fun rk H1 isr s1 => ?_⟩
        cases rk with
        | nil =>
          have := isr.perm.length_eq
          simp [gL] at this
        | cons j rk =>
          have tp := top_of_rank isr
          have jl : j < (g0 :: gs).length := by
            have := tp.lt
            rw [gL_len] at this
            exact this
          obtain ⟨l, b, tv, el, ex, sl, dl⟩ := gs_at ral jl
          have fo := firstOf_top tp
          rw [el] at fo
          have sl1 := St.tup potN (St.ofSame potN s1) sl
          have fll : flatT l.1 = true := flr l (List.mem_of_getElem? el)
          have dl1 := smDp s1 fll dl
          have sv2 := SeenV.move (flat_take ok.flat i) (fun _ _ t => St.tup potN (St.ofSame potN s1) t) sv1
          refine ⟨ra, rfl, _, _, rfl, St.tup potN (St.ofSame potN s1) rs, _, atI_nat ex, b, rfl, _, sl1, rfl, _, _, rfl, _, _, rfl, rfl, ?_⟩
          have new : ∀ q, H1 q = none → Same H0 (upd H1 q (.tup [.str ink, tv, .int l.2])) ∧ SeenV K (upd H1 q (.tup [.str ink, tv, .int l.2])) (.ref q) (some (ink, l)) := fun q hq => by
            have s2 : Same H1 (upd H1 q (.tup [.str ink, tv, .int l.2])) := same_new hq
            exact ⟨smT (smT sa sT) (smT s1 s2), .tup (SqT.of upd_same) (.cons (.str _) (.cons (smDp s2 fll dl1) (.cons (.int _) .nil)))⟩
          unfold topStep
          rw [fo]
          cases et : topG (gr.take i) with
          | none =>
            rw [et] at sv2
            rw [if_pos (show fv = V.non from sv2)]
            exact ⟨by decide, new⟩
          | some a =>
            rw [et] at sv2
            obtain ⟨pa, pxs, rfl, ps, pal⟩ := Dp.tupInv (show Dp K H1 fv (seenD a) from sv2)
            obtain ⟨y1, y2, y3, rfl⟩ : ∃ y1 y2 y3, pxs = [y1, y2, y3] := by
              have := DpAll.len pal
              match pxs, this with
              | [y1, y2, y3], _ => exact ⟨_, _, _, rfl⟩
            have y3e : y3 = .int a.2.2 := by
              cases pal with
              | cons h1 r => cases r with
                | cons h2 r => cases r with
                  | cons h3 r => cases h3; rfl
            subst y3e
            rw [if_neg (by intro z; cases z)]
            refine ⟨pa, rfl, _, ps, _, rfl, _, rfl, _, rfl, ?_⟩
            by_cases c : a.2.2 < l.2
            · rw [if_pos c]
              refine ⟨by decide, ?_⟩
              show ∀ q, H1 q = none → Same H0 (upd H1 q (.tup [.str ink, tv, .int l.2])) ∧ SeenV K (upd H1 q (.tup [.str ink, tv, .int l.2])) (.ref q) (if a.2.2 < l.2 then some (ink, l) else some a)
              rw [if_pos c]
              exact new
            · rw [if_neg c]
              refine ⟨smT (smT sa sT) s1, ?_⟩
              show SeenV K H1 (.ref pa) (if a.2.2 < l.2 then some (ink, l) else some a)
              rw [if_neg c]
              exact sv2
    · rintro σ H' ⟨fv, a2, a3, a4, a5, rfl, sa, sv⟩
      simp only [tSeq, tIfS, tTest, tOp, tUn, tVar, tC, rI, rI0, rU, rEq, rNe, rIxL, rIxT, rIxS, tCB, tCons, tNil, tRet, tRetN, tAsg, gTup, gCons, gNil, gName, gSub, rSetL, tNext, tDrop, tLst, tTup, tCall, tIf, tB, tAnd, tOr, tNot, tSl, tPart, tNoPart, tM1, tM0, tBM, tBM0, tLcE, tForE, iRng1, iRng2, iTup, iList, iStr, tYes, wipe, startDef, cxK, noxK, exists_and_left, exists_eq_left', exists_eq_left, exists_eq_right, Option.some.injEq, V.int.injEq, V.ref.injEq, V.str.injEq, V.bl.injEq, List.cons.injEq, and_true, true_and, List.append_nil, List.map_cons, List.map_nil, List.length_cons, List.length_nil, List.replicate, List.nil_append, List.cons_append, List.set_cons_zero, List.set_cons_succ, List.getElem?_cons_zero, List.getElem?_cons_succ, decide_eq_true_eq, exists_const, Nat.reduceAdd, Nat.reduceSub, List.replicate_succ, List.replicate_zero, exists_prop, and_assoc, List.set_nil, rLenK, rTupK, rLstK, rReprK, rEqD, rNeD, rIn, rAll, rAppend, rCat, ↓reduceIte, Bool.false_eq_true, iEnumT, rSortedPO, rIsi, rRep, rReverse, tLstRg, tTupRg, tRg1, tRg2, rSlL, rSlT, rSortedI, rSlF, rCatF, rMax, tLc2E, rSortedL, rSortedT, gUnl, tPar, rReprX, tChain, tDNewK, tDisp, tPairs, tAndV, tNotV, tFd, sFd, tMeth, tMake, tMakeK, gStar, iZipM, iItems, tLock, tSpread, tDcE, tDGet, sDPut, tPar3, tNever, rIxD, tChain, iEnum, tDIn, tDNotIn, gHd]
      rw [lk, List.take_length] at sv
      refine ⟨sa _ _ hg0, k fv _ (fun a o e => ?_) (SeenV.move ok.flat (fun a xs h => ?_) sv)⟩
      · by_cases n : a = g
        · subst n
          rw [hg] at e
          cases e
          exact upd_same
        · rw [upd_ne n]
          exact sa _ _ (by rw [← eH0, upd_ne n]; exact e)
      · have q := sa _ _ hg0
        rcases h with (h | ⟨ob, h⟩) | h
        · exact Or.inl (Or.inl (by rw [upd_ne (ne_of h q (by intro z; cases z))]; exact h))
        · exact Or.inl (Or.inr ⟨ob, by rw [upd_ne (ne_of h q (by intro z; cases z))]; exact h⟩)
        · exact Or.inr h
end

/-! ### the ground behind a deed -/
def fadeOf (inks : List Lay) (z : Str) : Int := ((inks.find? fun i => decide (i.1 = z)).map (·.2)).getD 0
theorem fadeOf_mem {inks : List Lay} (nd : (inks.map (·.1)).Nodup) {l : Lay} (m : l ∈ inks) : fadeOf inks l.1 = l.2 := by
  unfold fadeOf
  induction inks with
  | nil => cases m
  | cons i inks ih =>
    rw [List.map_cons, List.nodup_cons] at nd
    rw [List.find?_cons]
    rcases List.mem_cons.mp m with e | m
    · subst e
      simp
    · have ne : ¬ i.1 = l.1 := fun e => nd.1 (e ▸ List.mem_map.mpr ⟨l, m, rfl⟩)
      rw [decide_eq_false ne]
      exact ih nd.2 m
def RowW (K : PySem.W.Frag) (H : Hp) (w : Str) (us : List V) (gs gs' : List GLay) : Prop :=
  (w = "lay" ∧ ∃ tv t s, us = [tv, .int s] ∧ Dp K H tv t ∧ flatT t = true ∧ gs' = gs ++ [(t, s)]) ∨ (w = "wash" ∧ ∃ n, us = [.int n] ∧ gs' = weakG gs n) ∨ (w = "warm" ∧ ∃ n, us = [.int n] ∧ gs' = addG gs n) ∨
  (w = "rub" ∧ ∃ n t, us = [.int n] ∧ IsTop (gL gs) t ∧ gs' = (rubG gs t n).filter posG) ∨ (w = "scrape" ∧ ∃ t, us = [] ∧ IsTop (gL gs) t ∧ gs' = gs.eraseIdx t)
section
variable {K : PySem.W.Frag} {H H' : Hp} {wd : Str} {us : List V} {gs gs' : List GLay}
theorem RowW.same (s : Same H H') (h : RowW K H wd us gs gs') : RowW K H' wd us gs gs' := by
  rcases h with ⟨a, tv, t, s', b, c, d, e⟩ | h
  · exact .inl ⟨a, tv, t, s', b, smDp s d c, d, e⟩
  · exact .inr h
theorem RowW.flat (h : RowW K H wd us gs gs') (fl : ∀ g ∈ gs, flatT g.1 = true) : ∀ g ∈ gs', flatT g.1 = true := by
  rcases h with ⟨_, tv, t, s', _, _, d, rfl⟩ | ⟨_, n, _, rfl⟩ | ⟨_, n, _, rfl⟩ | ⟨_, n, t, _, _, rfl⟩ | ⟨_, t, _, _, rfl⟩
  · intro x m
    rcases List.mem_append.mp m with m | m
    · exact fl x m
    · rw [List.mem_singleton.mp m]; exact d
  · exact weakG_flat fl
  · exact addG_flat fl
  · exact fun x m => rubG_flat fl x (List.mem_filter.mp m).1
  · exact fun x m => fl x (List.mem_of_mem_eraseIdx m)
theorem RowW.len (h : RowW K H wd us gs gs') : us.length ≤ 2 := by
  rcases h with ⟨_, tv, t, s', rfl, _⟩ | ⟨_, n, rfl, _⟩ | ⟨_, n, rfl, _⟩ | ⟨_, n, t, rfl, _⟩ | ⟨_, t, rfl, _⟩ <;> simp
theorem RowW.word (h : RowW K H wd us gs gs') : wd ≠ "wait" := by
  rcases h with ⟨rfl, _⟩ | ⟨rfl, _⟩ | ⟨rfl, _⟩ | ⟨rfl, _⟩ | ⟨rfl, _⟩ <;> decide +kernel
end
section
variable {P : Program} {w : World} {K : PySem.W.Frag} {mg : Str → Option Value} {base : Heap} {cP : Addr}
structure CRB (P : Program) (w : World) (K : PySem.W.Frag) (mg : Str → Option Value) (base : Heap) : Prop where
  weaker : Has P w K mg base "weaker" 2 ["row", "n"] (spWeaker K)
  stronger : Has P w K mg base "stronger" 1 ["row", "n"] (spStronger K)
  rubbed : Has P w K mg base "rubbed" 3 ["row", "n"] (spRubbed K)
  scraped : Has P w K mg base "scraped" 3 ["row"] (spScraped K)
abbrev s_row_behind : Stmt := topS 51
theorem sc_row_behind : FnScope ["row", "word", "rest"] ["row", "word", "rest"] (defScope s_row_behind) := ⟨rfl, rfl, rfl, by decide +kernel, rfl, by decide +kernel, by decide +kernel⟩

def spRowB (K : PySem.W.Frag) : Sp := fun vs H Q _ => ∃ (v : V) (wd : Str) (l : Addr) (us : List V) (gs gs' : List GLay), vs = [v, .str wd, .ref l] ∧ Dp K H v (rowG gs) ∧ (∀ g ∈ gs, flatT g.1 = true) ∧ gs.length ≤ 1000 ∧ H l = some (.lst us) ∧ RowW K H wd us gs gs' ∧
  ∀ v' H', Same H H' → Dp K H' v' (rowG gs') → Q v' H'
theorem ok_row_behind {f : Addr} {fd : FuncData} (F : Fun K "_row_behind" "_row_behind" s_row_behind f fd) (M : Blt mg) (C : CRB P w K mg base) : FnOk P w K mg base CX0 4 f fd ["row", "word", "rest"] (spRowB K) := by
  refine F.ok sc_row_behind (fun vs H Q E h => ?_) (fun cdv A outer s H vs Q E hr h => ?_)
  · obtain ⟨v, wd, l, us, gs, gs', rfl, _⟩ := h
    rfl
  · obtain ⟨v, wd, l, us, gs, gs', rfl, hv, fl, hn, hl, hw, k⟩ := h
    refine ⟨_, (pss_cons (ps_if (pt_cmpR op_eq (pv 1) pe_str (nomark _)) (pss_one (ps_ret (pe_op (k_catS (K := K) rfl) (pv 0) (pe_tup (pa_cons (pe_callTy (k_tup (K := K) rfl) (by rfl) M.tuple (by decide +kernel) (pa_cons (pv 2) pa_nil)) pa_nil))))) pss_nil)
      (pss_cons (ps_if (pt_cmpR op_eq (pv 1) pe_str (nomark _)) (pss_one (ps_ret (callH C.weaker hr (by rfl) (pa_cons (pv 0) (pa_cons (pe_ix (k_ixL (K := K) rfl) (pv 2) pe_int (fun _ _ => rfl)) pa_nil))))) pss_nil)
      (pss_cons (ps_if (pt_cmpR op_eq (pv 1) pe_str (nomark _)) (pss_one (ps_ret (callH C.stronger hr (by rfl) (pa_cons (pv 0) (pa_cons (pe_ix (k_ixL (K := K) rfl) (pv 2) pe_int (fun _ _ => rfl)) pa_nil))))) pss_nil)
      (pss_cons (ps_if (pt_cmpR op_eq (pv 1) pe_str (nomark _)) (pss_one (ps_ret (callH C.rubbed hr (by rfl) (pa_cons (pv 0) (pa_cons (pe_ix (k_ixL (K := K) rfl) (pv 2) pe_int (fun _ _ => rfl)) pa_nil))))) pss_nil)
      (pss_one (ps_ret (callH C.scraped hr (by rfl) (pa_cons (pv 0) pa_nil)))))))), ?_⟩
    simp only [tSeq, tIfS, tTest, tOp, tUn, tVar, tC, rI, rI0, rU, rEq, rNe, rIxL, rIxT, rIxS, tCB, tCons, tNil, tRet, tRetN, tAsg, gTup, gCons, gNil, gName, gSub, rSetL, tNext, tDrop, tLst, tTup, tCall, tIf, tB, tAnd, tOr, tNot, tSl, tPart, tNoPart, tM1, tM0, tBM, tBM0, tLcE, tForE, iRng1, iRng2, iTup, iList, iStr, tYes, wipe, startDef, cxK, noxK, exists_and_left, exists_eq_left', exists_eq_left, exists_eq_right, Option.some.injEq, V.int.injEq, V.ref.injEq, V.str.injEq, V.bl.injEq, List.cons.injEq, and_true, true_and, List.append_nil, List.map_cons, List.map_nil, List.length_cons, List.length_nil, List.replicate, List.nil_append, List.cons_append, List.set_cons_zero, List.set_cons_succ, List.getElem?_cons_zero, List.getElem?_cons_succ, decide_eq_true_eq, exists_const, Nat.reduceAdd, Nat.reduceSub, List.replicate_succ, List.replicate_zero, exists_prop, and_assoc, List.set_nil, rLenK, rTupK, rLstK, rReprK, rEqD, rNeD, rIn, rAll, rAppend, rCat, ↓reduceIte, Bool.false_eq_true, iEnumT, rSortedPO, rIsi, rRep, rReverse, tLstRg, tTupRg, tRg1, tRg2, rSlL, rSlT, rSortedI, rSlF, rCatF, rMax, tLc2E, rSortedL, rSortedT, gUnl, tPar, rReprX, tChain, tDNewK, tDisp, tPairs, tAndV, tNotV, tFd, sFd, tMeth, tMake, tMakeK, gStar, iZipM, iItems, tLock, tSpread, tDcE, tDGet, sDPut, tPar3, tNever, rIxD, tChain, iEnum, tDIn, tDNotIn, gHd, spWeaker, spStronger, spRubbed, spScraped]
    obtain ⟨ra, rxs, rfl, rs, ral⟩ := Dp.tupInv hv
    have rlen := gs_len ral
    have line : (2000 : Nat) < sizeLine := by decide
    rcases hw with ⟨rfl, tv, t, s, rfl, ht, ft, rfl⟩ | ⟨rfl, n, rfl, rfl⟩ | ⟨rfl, n, rfl, rfl⟩ | ⟨rfl, n, t, rfl, ht, rfl⟩ | ⟨rfl, t, rfl, ht, rfl⟩
    · refine ⟨rfl, ?_⟩
      rw [if_pos rfl]
      refine ⟨_, .inl ⟨SqL.of hl, fun q hq => ⟨by decide, fun q2 hq2 => ?_⟩⟩⟩
      have s1 : Same H (upd H q (.tup [tv, .int s])) := same_new hq
      have s2 : Same (upd H q (.tup [tv, .int s])) (upd (upd H q (.tup [tv, .int s])) q2 (.tup [.ref q])) := same_new hq2
      refine ⟨ra, rfl, rxs, St.tup potN (St.ofSame potN (smT s1 s2)) rs, _, SqT.of upd_same, by simp; omega, fun q3 H3 s3 h3 => ?_⟩
      have s03 := smT (smT s1 s2) s3
      refine k _ H3 s03 (.tup h3 ?_)
      rw [List.map_append]
      refine DpAll.app (smDps s03 (flat_gDs fl) ral) (.cons (.tup (St.tup potN (St.ofSame potN (smT s2 s3)) (SqT.of upd_same)) (.cons (smDp s03 ft ht) (.cons (.int _) .nil))) .nil)
    · refine ⟨rfl, ?_⟩
      rw [if_neg (by decide +kernel)]
      refine ⟨rfl, ?_⟩
      rw [if_pos rfl]
      exact ⟨_, SqL.of hl, V.int n, atI_nat (j := 0) rfl, gs, n, rfl, hv, fl, hn, k⟩
    · refine ⟨rfl, ?_⟩
      rw [if_neg (by decide +kernel)]
      refine ⟨rfl, ?_⟩
      rw [if_neg (by decide +kernel)]
      refine ⟨rfl, ?_⟩
      rw [if_pos rfl]
      exact ⟨_, SqL.of hl, V.int n, atI_nat (j := 0) rfl, gs, n, rfl, hv, fl, hn, k⟩
    · refine ⟨rfl, ?_⟩
      rw [if_neg (by decide +kernel)]
      refine ⟨rfl, ?_⟩
      rw [if_neg (by decide +kernel)]
      refine ⟨rfl, ?_⟩
      rw [if_neg (by decide +kernel)]
      refine ⟨rfl, ?_⟩
      rw [if_pos rfl]
      refine ⟨_, SqL.of hl, V.int n, atI_nat (j := 0) rfl, gs, n, rfl, hv, fl, hn, fun v' H' t' ht' s' d' => k v' H' s' ?_⟩
      have ne : gs ≠ [] := fun z => by
        have := ht.lt
        rw [z] at this
        simp [gL] at this
      rw [IsTop.uniq ht (ht' ne)]
      exact d'
    · refine ⟨rfl, ?_⟩
      rw [if_neg (by decide +kernel)]
      refine ⟨rfl, ?_⟩
      rw [if_neg (by decide +kernel)]
      refine ⟨rfl, ?_⟩
      rw [if_neg (by decide +kernel)]
      refine ⟨rfl, ?_⟩
      rw [if_neg (by decide +kernel)]
      refine ⟨gs, hv, fl, hn, fun v' H' t' ht' s' d' => k v' H' s' ?_⟩
      have ne : gs ≠ [] := fun z => by
        have := ht.lt
        rw [z] at this
        simp [gL] at this
      rw [IsTop.uniq ht (ht' ne)]
      exact d'
end

/-! ### words that wear -/
def isWear (z : Str) : Prop := z = "scrape" ∨ z = "rub"
instance (z : Str) : Decidable (isWear z) := by unfold isWear; infer_instance
structure CSeenW (P : Program) (w : World) (K : PySem.W.Frag) (mg : Str → Option Value) (base : Heap) : Prop where
  wears : Has P w K mg base "wears" 1 ["deed"] (spWears K)
  seen_on : Has P w K mg base "seen_on" 3 ["ground"] (spSeenOn K)

/-! ### the ground behind any deed -/
def GrdW (K : PySem.W.Frag) (cP : Addr) (H : Hp) (p a : Addr) (gr gr' : GGrd) : Prop :=
  (∃ wd z us gs gs', SqT K H a (.str wd :: .str z :: us) ∧ ¬ isWear wd ∧ (z, gs) ∈ gr ∧ gs.length < 1000 ∧ RowW K H wd us gs gs' ∧ gr' = setG gr z gs') ∨
  (∃ n m f inks, SqT K H a [.str "wait", .int n] ∧ PalAt K cP H p m f inks ∧ InksOk inks ∧ gr.map (·.1) = inks.map (·.1) ∧ n.natAbs < 2 ^ 300 ∧ gr' = gr.map fun r => (r.1, weakG r.2 (n * fadeOf inks r.1))) ∨
  (∃ wd us, SqT K H a (.str wd :: us) ∧ isWear wd ∧ us.length ≤ 2 ∧ ((topG gr = none ∧ gr' = gr) ∨ ∃ z l gs gs', topG gr = some (z, l) ∧ (z, gs) ∈ gr ∧ gs.length < 1000 ∧ RowW K H wd us gs gs' ∧ gr' = setG gr z gs'))
section
variable {P : Program} {w : World} {K : PySem.W.Frag} {mg : Str → Option Value} {base : Heap} {cP : Addr}
structure CGrB (P : Program) (w : World) (K : PySem.W.Frag) (mg : Str → Option Value) (base : Heap) (cP : Addr) : Prop extends CSeenW P w K mg base where
  row_behind : Has P w K mg base "_row_behind" 4 ["row", "word", "rest"] (spRowB K)
  weaker : Has P w K mg base "weaker" 2 ["row", "n"] (spWeaker K)
  Palette_fade : HasM P w K mg base cP "fade" 3 ["self", "name"] (spFade K cP)
abbrev s_ground_behind : Stmt := topS 49
theorem sc_ground_behind : FnScope ["ground", "palette", "deed", "word", "rest", "ink", "row", "seen"] ["ground", "palette", "deed"] (defScope s_ground_behind) := ⟨rfl, rfl, rfl, by decide +kernel, rfl, by decide +kernel, by decide +kernel⟩

/-- the ground behind a deed: a new one, or the same where nothing is seen -/
def spGrB (K : PySem.W.Frag) (cP : Addr) : Sp := fun vs H Q _ => ∃ (g p a : Addr) (gr gr' : GGrd), vs = [.ref g, .ref p, .ref a] ∧ GrdG K H g gr ∧ GrOk gr ∧ GrdW K cP H p a gr gr' ∧
  ∀ g' H', (H g' = none ∨ g' = g) → Same H H' → GrdG K H' g' gr' → Q (.ref g') H'
theorem ok_ground_behind {f : Addr} {fd : FuncData} (F : Fun K "ground_behind" "ground_behind" s_ground_behind f fd) (M : Blt mg) (TPalette : TPal K mg cP) (C : CGrB P w K mg base cP) : FnOk P w K mg base CX0 5 f fd ["ground", "palette", "deed"] (spGrB K cP) := by
  refine F.ok sc_ground_behind (fun vs H Q E h => ?_) (fun cdv A outer s H vs Q E hr h => ?_)
  · obtain ⟨g, p, a, gr, gr', rfl, _⟩ := h
    rfl
  · obtain ⟨g, p, a, gr, gr', rfl, ⟨kvs, hgd, hp⟩, ok, hw, k⟩ := h
    have hu := hu_of hr
    refine ⟨_, (pss_cons (ps_asg (pv 2) (pg_hd (by rfl) (pgs_cons (pg_name (i := 3) sc_ground_behind.nd rfl (by first | exact Or.inl rfl | exact Or.inr rfl)) (pgs_star (pg_name (i := 4) sc_ground_behind.nd rfl (by first | exact Or.inl rfl | exact Or.inr rfl)) pgs_nil))))
      (pss_cons (ps_if (pt_cmpR op_eq (pv 3) pe_str (nomark _)) (pss_one (ps_lock (ps_ret (pe_dc (own := [("ink", 5), ("row", 6)]) (g := gTup K 2 (gCons (gName 5) (gCons (gName 6) gNil))) (tt := tYes) rfl sc_ground_behind.nd (pi_items (pv 0)) (blkOk_by (own := [("ink", 5), ("row", 6)]) (N := ["ground", "palette", "deed", "word", "rest", "ink", "row", "seen"]) (sc := defScope s_ground_behind) (by decide +kernel)) (fun _ _ _ _ _ => (pg_tup (n := 2) (by rfl) (pgs_cons (pg_name (i := 5) sc_ground_behind.nd rfl (by first | exact Or.inl rfl | exact Or.inr rfl)) (pgs_cons (pg_name (i := 6) sc_ground_behind.nd rfl (by first | exact Or.inl rfl | exact Or.inr rfl)) pgs_nil)))) (fun _ _ _ _ _ => pts_nil) (fun _ _ _ _ _ => (pv 5)) (fun _ _ _ _ _ => (callH C.weaker hr (by rfl) (pa_cons (pv 6) (pa_cons (pe_op op_mulX (pe_ix (k_ixL (K := K) rfl) (pv 4) pe_int (fun _ _ => rfl)) (methC C.Palette_fade TPalette.cl hr (pv 1) (pa_cons (pv 5) pa_nil))) pa_nil)))))))) pss_nil)
      (C8.pss_cut (ps_if (pt_val (callH C.wears hr (by rfl) (pa_cons (pv 2) pa_nil))) (pss_cons (ps_set (i := 7) sc_ground_behind.nd rfl (by first | exact Or.inl rfl | exact Or.inr rfl) (callH C.seen_on hr (by rfl) (pa_cons (pv 0) pa_nil)))
      (pss_cons (ps_if (pt_cmpR op_isN (pv 7) pe_non (nomark _)) (pss_one (ps_ret (pv 0))) pss_nil)
      (pss_one (ps_set (i := 5) sc_ground_behind.nd rfl (by first | exact Or.inl rfl | exact Or.inr rfl) (pe_ix (k_ixT (K := K) rfl) (pv 7) pe_int (fun _ _ => rfl)))))) (pss_one (ps_asg (pv 4) (pg_hd (by rfl) (pgs_cons (pg_name (i := 5) sc_ground_behind.nd rfl (by first | exact Or.inl rfl | exact Or.inr rfl)) (pgs_star (pg_name (i := 4) sc_ground_behind.nd rfl (by first | exact Or.inl rfl | exact Or.inr rfl)) pgs_nil))))))
      (pss_one (ps_ret (pe_spread (pv 0) (pv 5) (callH C.row_behind hr (by rfl) (pa_cons (pe_dget hu (pv 0) (pv 5) (fun _ _ => rfl)) (pa_cons (pv 3) (pa_cons (pv 4) pa_nil)))))))))), ?_⟩
    have lk : kvs.length ≤ 8 := by rw [paired_len hp]; exact ok.len
    have hw' : (∃ n m f inks, SqT K H a [.str "wait", .int n] ∧ PalAt K cP H p m f inks ∧ InksOk inks ∧ gr.map (·.1) = inks.map (·.1) ∧ n.natAbs < 2 ^ 300 ∧ gr' = gr.map fun r => (r.1, weakG r.2 (n * fadeOf inks r.1))) ∨
        (∃ wd r, SqT K H a (.str wd :: r) ∧ wd ≠ "wait" ∧ r.length ≤ 3 ∧ ((¬ isWear wd ∧ ∃ z us gs gs', r = .str z :: us ∧ (z, gs) ∈ gr ∧ gs.length < 1000 ∧ RowW K H wd us gs gs' ∧ gr' = setG gr z gs') ∨
          (isWear wd ∧ ((topG gr = none ∧ gr' = gr) ∨ ∃ z l gs gs', topG gr = some (z, l) ∧ (z, gs) ∈ gr ∧ gs.length < 1000 ∧ RowW K H wd r gs gs' ∧ gr' = setG gr z gs')))) := by
      rcases hw with ⟨wd, z, us, gs, gs', hs, nwear, mr, hn, rw', e⟩ | h | ⟨wd, us, hs, wear, us2, tw⟩
      · exact .inr ⟨wd, _, hs, rw'.word, by have := rw'.len; simp; omega, .inl ⟨nwear, z, us, gs, gs', rfl, mr, hn, rw', e⟩⟩
      · exact .inl h
      · refine .inr ⟨wd, us, hs, ?_, by omega, .inr ⟨wear, tw⟩⟩
        rcases wear with rfl | rfl <;> decide +kernel
    clear hw
    simp only [tSeq, tIfS, tTest, tOp, tUn, tVar, tC, rI, rI0, rU, rEq, rNe, rIxL, rIxT, rIxS, tCB, tCons, tNil, tRet, tRetN, tAsg, gTup, gCons, gNil, gName, gSub, rSetL, tNext, tDrop, tLst, tTup, tCall, tIf, tB, tAnd, tOr, tNot, tSl, tPart, tNoPart, tM1, tM0, tBM, tBM0, tLcE, tForE, iRng1, iRng2, iTup, iList, iStr, tYes, wipe, startDef, cxK, noxK, exists_and_left, exists_eq_left', exists_eq_left, exists_eq_right, Option.some.injEq, V.int.injEq, V.ref.injEq, V.str.injEq, V.bl.injEq, List.cons.injEq, and_true, true_and, List.append_nil, List.map_cons, List.map_nil, List.length_cons, List.length_nil, List.replicate, List.nil_append, List.cons_append, List.set_cons_zero, List.set_cons_succ, List.getElem?_cons_zero, List.getElem?_cons_succ, decide_eq_true_eq, exists_const, Nat.reduceAdd, Nat.reduceSub, List.replicate_succ, List.replicate_zero, exists_prop, and_assoc, List.set_nil, rLenK, rTupK, rLstK, rReprK, rEqD, rNeD, rIn, rAll, rAppend, rCat, ↓reduceIte, Bool.false_eq_true, iEnumT, rSortedPO, rIsi, rRep, rReverse, tLstRg, tTupRg, tRg1, tRg2, rSlL, rSlT, rSortedI, rSlF, rCatF, rMax, tLc2E, rSortedL, rSortedT, gUnl, tPar, rReprX, tChain, tDNewK, tDisp, tPairs, tAndV, tNotV, tFd, sFd, tMeth, tMake, tMakeK, gStar, iZipM, iItems, tLock, tSpread, tDcE, tDGet, sDPut, tPar3, tNever, rIxD, tChain, iEnum, tDIn, tDNotIn, gHd, spWears, spSeenOn, spWeaker, spFade]
    rcases hw' with ⟨n, m, f, inks, hs, hP, iok, nms, nb, rfl⟩ | ⟨wd, r, hs, nwait, r3, hc⟩
    · refine ⟨_, _, .inl hs, by simp, fun D1 hD1 => ⟨rfl, ?_⟩⟩
      rw [if_pos rfl]
      have nfg : f ≠ g := by
        rintro rfl
        have e := hP.fades.symm.trans hgd
        have e2 : fadesK inks = kvs := HO.dK.inj (Option.some.inj e)
        have pos := iok.pos
        cases inks with
        | nil => simp at pos
        | cons i r =>
          rw [← e2] at hp
          cases hp with
          | cons h1 _ => obtain ⟨_, _, ez, _⟩ := Dp.tupInv h1.2; cases ez
      have s1 : Same H (upd H D1 (.lst [.int n])) := same_new hD1
      have l1 : (upd H D1 (.lst [.int n])) D1 = some (.lst [.int n]) := upd_same
      generalize upd H D1 (.lst [.int n]) = H1 at s1 l1
      have g1 := s1 _ _ hgd
      refine ⟨g, .dK kvs, g1, trivial, fun od => ⟨od, kvs, upd_same, ?_⟩⟩
      have hP1 := hP.same s1
      have fr0 : ∀ a o, a ≠ g → H1 a = some o → (upd H1 g (.frz od (.dK kvs))) a = some o := fun a o q e => by rw [upd_ne q]; exact e
      have hg0 : (upd H1 g (.frz od (.dK kvs))) g = some (.frz od (.dK kvs)) := upd_same
      generalize upd H1 g (.frz od (.dK kvs)) = H0 at fr0 hg0
      have c0 : Chg [g] H1 H0 := ⟨fun q m => by rw [List.mem_singleton.mp m]; exact ⟨_, g1, True.intro⟩, fun a o q e => fr0 a o (fun z => q (by rw [z]; exact List.mem_singleton_self _)) e⟩
      have hp0 := grels ok.flat (fun a xs h => c0.seqT (St.tup potN (St.ofSame potN s1) h)) hp
      obtain ⟨dx1, hx1⟩ := hP1.ob
      have npg : p ≠ g := ne_of hx1 g1 (by intro z; cases z)
      have nD1 : D1 ≠ g := ne_of l1 g1 (by intro z; cases z)
      have hP0 := hP1.chg c0 (fun m => npg (List.mem_singleton.mp m)) (fun m => nfg (List.mem_singleton.mp m))
      have l0 := fr0 _ _ nD1 l1
      refine dcW walk_items (fun i H' kvs2 => Paired (GRel K H') kvs2 ((gr.take i).map fun r => (r.1, weakG r.2 (n * fadeOf inks r.1)))) (by omega) (fun D hD => .nil) (fun i Ha kvs sa _ => sa _ _ hg0) ?_ ?_
      · rintro i x Ha H' kvs2 D C N hi sa hD hd r ⟨T, x1, x2, rfl, nT, rfl, e1, e2⟩ go
        have ekv : kvs[i]? = some kvs[i] := List.getElem?_eq_getElem hi
        obtain ⟨⟨ink, gs⟩, er, hk, hdv⟩ := paired_get hp0 ekv
        have e1' : (kvs[i]?).map (fun kv => kV kv.1) = some x1 := e1
        have e2' : (kvs[i]?).map Prod.snd = some x2 := e2
        rw [ekv] at e1' e2'
        have x1e : V.str ink = x1 := by
          have q : kV kvs[i].1 = x1 := Option.some.inj e1'
          rw [hk] at q
          exact q
        obtain rfl : kvs[i].2 = x2 := Option.some.inj e2'
        subst x1e
        have sT : Same Ha (upd Ha T (.tup [.str ink, kvs[i].2])) := same_new nT
        have mr : (ink, gs) ∈ gr := List.mem_of_getElem? er
        have flr := ok.flat _ mr
        have hd1 : Dp K (upd Ha T (.tup [.str ink, kvs[i].2])) kvs[i].2 (rowG gs) := smDp (smT sa sT) (flat_rowG flr) hdv
        have hT : (upd Ha T (.tup [.str ink, kvs[i].2])) T = some (.tup [.str ink, kvs[i].2]) := upd_same
        generalize upd Ha T (.tup [.str ink, kvs[i].2]) = HT at sT hd1 hT
        generalize kvs[i].2 = rv at hd1 hT
        have s0T := smT sa sT
        have hPT := hP0.same s0T
        obtain ⟨dxT, hxT⟩ := hPT.ob
        have mi : ink ∈ inks.map (·.1) := by rw [← nms]; exact List.mem_map.mpr ⟨_, mr, rfl⟩
        obtain ⟨lay, ml, el⟩ := List.mem_map.mp mi
        have fo := fadeOf_mem iok.nd ml
        simp only [tSeq, tIfS, tTest, tOp, tUn, tVar, tC, rI, rI0, rU, rEq, rNe, rIxL, rIxT, rIxS, tCB, tCons, tNil, tRet, tRetN, tAsg, gTup, gCons, gNil, gName, gSub, rSetL, tNext, tDrop, tLst, tTup, tCall, tIf, tB, tAnd, tOr, tNot, tSl, tPart, tNoPart, tM1, tM0, tBM, tBM0, tLcE, tForE, iRng1, iRng2, iTup, iList, iStr, tYes, wipe, startDef, cxK, noxK, exists_and_left, exists_eq_left', exists_eq_left, exists_eq_right, Option.some.injEq, V.int.injEq, V.ref.injEq, V.str.injEq, V.bl.injEq, List.cons.injEq, and_true, true_and, List.append_nil, List.map_cons, List.map_nil, List.length_cons, List.length_nil, List.replicate, List.nil_append, List.cons_append, List.set_cons_zero, List.set_cons_succ, List.getElem?_cons_zero, List.getElem?_cons_succ, decide_eq_true_eq, exists_const, Nat.reduceAdd, Nat.reduceSub, List.replicate_succ, List.replicate_zero, exists_prop, and_assoc, List.set_nil, rLenK, rTupK, rLstK, rReprK, rEqD, rNeD, rIn, rAll, rAppend, rCat, ↓reduceIte, Bool.false_eq_true, iEnumT, rSortedPO, rIsi, rRep, rReverse, tLstRg, tTupRg, tRg1, tRg2, rSlL, rSlT, rSortedI, rSlF, rCatF, rMax, tLc2E, rSortedL, rSortedT, gUnl, tPar, rReprX, tChain, tDNewK, tDisp, tPairs, tAndV, tNotV, tFd, sFd, tMeth, tMake, tMakeK, gStar, iZipM, iItems, tLock, tSpread, tDcE, tDGet, sDPut, tPar3, tNever, rIxD, tChain, iEnum, tDIn, tDNotIn, gHd, spWeaker, spFade]
        refine ⟨_, SqT.of hT, rfl, _, _, rfl, _, _, rfl, rfl, _, SqL.of (s0T _ _ l0), V.int n, atI_nat (j := 0) rfl, dxT, _, hxT, by rfl, m, f, inks, lay, by rw [el], hPT, ml, iok, fun H4 s4 => ?_⟩
        refine ⟨n, rfl, mulx_ok nb (iok.ok lay ml).2.2 (by decide), gs, smDp s4 (flat_rowG flr) hd1, flr, ok.rows _ mr, fun v' H5 s5 dv' => ?_⟩
        have sA5 : Same Ha H5 := smT sT (smT s4 s5)
        refine go (Sum.inr ink) v' H5 sA5 ?_ fun H6 keep => ?_
        · refine grel_none r ?_
          rw [List.map_map]
          exact not_take (fun r : Str × List GLay => r.1) ok.nd er
        · have keepT : ∀ a xs, SqT K H5 a xs → SqT K H6 a xs := fun a xs h => by
            have hd' := sA5 _ _ hd
            rcases h with (h | ⟨ob, h⟩) | h
            · exact Or.inl (Or.inl (keep _ _ (ne_of h hd' (by intro z; cases z)) h))
            · exact Or.inl (Or.inr ⟨ob, keep _ _ (ne_of h hd' (by intro z; cases z)) h⟩)
            · exact Or.inr h
          rw [take_succ_map _ _ er]
          have fl : FlatG ((gr.take i).map fun r => (r.1, weakG r.2 (n * fadeOf inks r.1))) := by
            rintro r m g mg
            obtain ⟨j, mj, rfl⟩ := List.mem_map.mp m
            exact weakG_flat (ok.flat j (List.mem_of_mem_take mj)) g mg
          refine paired_snoc ⟨rfl, Dp.move keepT (flat_rowG (weakG_flat flr)) ?_⟩ (grels fl (fun a xs h => keepT a xs (St.tup potN (St.ofSame potN sA5) h)) r)
          rw [← el, fo]
          exact dv'
      · rintro D kvs2 H' hD sa hd r
        have e : gr.take kvs.length = gr := List.take_of_length_le (by rw [paired_len hp]; exact Nat.le_refl _)
        rw [e] at r
        have nDg : D ≠ g := fun z => by
          rw [z, hg0] at hD
          cases hD
        have hD1 : H1 D = none := by
          cases q : H1 D with
          | none => rfl
          | some o =>
            have := fr0 _ _ nDg q
            rw [hD] at this
            cases this
        refine ⟨sa _ _ hg0, k D _ (.inl (smFr s1 hD1)) (fun a o q => ?_) ⟨kvs2, by rw [upd_ne nDg]; exact hd, ?_⟩⟩
        · by_cases z : a = g
          · subst z
            rw [upd_same, ← hgd, q]
          · rw [upd_ne z]
            exact sa _ _ (fr0 _ _ z (s1 _ _ q))
        · have fl : FlatG (gr.map fun r => (r.1, weakG r.2 (n * fadeOf inks r.1))) := by
            rintro r m g mg
            obtain ⟨j, mj, rfl⟩ := List.mem_map.mp m
            exact weakG_flat (ok.flat j mj) g mg
          refine grels fl (fun a xs h => ?_) r
          have ng := sa _ _ hg0
          rcases h with (h | ⟨ob, h⟩) | h
          · exact Or.inl (Or.inl (by rw [upd_ne (ne_of h ng (by intro z; cases z))]; exact h))
          · by_cases z : a = g
            · subst z
              rw [ng] at h
              cases h
            · exact Or.inl (Or.inr ⟨ob, by rw [upd_ne z]; exact h⟩)
          · exact Or.inr h
    · refine ⟨_, _, .inl hs, by omega, fun D1 hD1 => ⟨rfl, ?_⟩⟩
      rw [if_neg (fun e => nwait (V.str.inj e))]
      have s1 : Same H (upd H D1 (.lst r)) := same_new hD1
      have l1 : (upd H D1 (.lst r)) D1 = some (.lst r) := upd_same
      generalize upd H D1 (.lst r) = H1 at s1 l1
      unfold C8.tCut
      refine ⟨fun σ' H' => ∃ (z : Str) (us : List V) (gs gs' : List GLay) (D : Addr) (a6 a7 : Option V), σ' = [some (.ref g), some (.ref p), some (.ref a), some (.str wd), some (.ref D), some (.str z), a6, a7] ∧ Same H H' ∧ H' D = some (.lst us) ∧ (z, gs) ∈ gr ∧ gs.length < 1000 ∧ RowW K H' wd us gs gs' ∧ gr' = setG gr z gs', ?_, ?_⟩
      · simp only [tSeq, tIfS, tTest, tOp, tUn, tVar, tC, rI, rI0, rU, rEq, rNe, rIxL, rIxT, rIxS, tCB, tCons, tNil, tRet, tRetN, tAsg, gTup, gCons, gNil, gName, gSub, rSetL, tNext, tDrop, tLst, tTup, tCall, tIf, tB, tAnd, tOr, tNot, tSl, tPart, tNoPart, tM1, tM0, tBM, tBM0, tLcE, tForE, iRng1, iRng2, iTup, iList, iStr, tYes, wipe, startDef, cxK, noxK, exists_and_left, exists_eq_left', exists_eq_left, exists_eq_right, Option.some.injEq, V.int.injEq, V.ref.injEq, V.str.injEq, V.bl.injEq, List.cons.injEq, and_true, true_and, List.append_nil, List.map_cons, List.map_nil, List.length_cons, List.length_nil, List.replicate, List.nil_append, List.cons_append, List.set_cons_zero, List.set_cons_succ, List.getElem?_cons_zero, List.getElem?_cons_succ, decide_eq_true_eq, exists_const, Nat.reduceAdd, Nat.reduceSub, List.replicate_succ, List.replicate_zero, exists_prop, and_assoc, List.set_nil, rLenK, rTupK, rLstK, rReprK, rEqD, rNeD, rIn, rAll, rAppend, rCat, ↓reduceIte, Bool.false_eq_true, iEnumT, rSortedPO, rIsi, rRep, rReverse, tLstRg, tTupRg, tRg1, tRg2, rSlL, rSlT, rSortedI, rSlF, rCatF, rMax, tLc2E, rSortedL, rSortedT, gUnl, tPar, rReprX, tChain, tDNewK, tDisp, tPairs, tAndV, tNotV, tFd, sFd, tMeth, tMake, tMakeK, gStar, iZipM, iItems, tLock, tSpread, tDcE, tDGet, sDPut, tPar3, tNever, rIxD, tChain, iEnum, tDIn, tDNotIn, gHd, spWears, spSeenOn]
        refine ⟨wd, r, St.tup potN (St.ofSame potN s1) hs, fun H2 s2 => ?_⟩
        have s12 := smT s1 s2
        by_cases iw : isWear wd
        · rw [if_pos (show wd = "scrape" ∨ wd = "rub" from iw)]
          rcases hc with ⟨nw, _⟩ | ⟨_, tw⟩
          · exact absurd iw nw
          refine ⟨gr, GrdG.same ok.flat ⟨kvs, hgd, hp⟩ s12, ok, fun v H3 s3 sv => ?_⟩
          have s13 := smT s12 s3
          rcases tw with ⟨te, rfl⟩ | ⟨z, l, gs, gs', te, mr, hn, rw', rfl⟩
          · rw [te] at sv
            rw [if_pos (show v = V.non from sv)]
            exact k g H3 (.inr rfl) s13 (GrdG.same ok.flat ⟨kvs, hgd, hp⟩ s13)
          · rw [te] at sv
            obtain ⟨pa, xs, rfl, hx, al⟩ := Dp.tupInv (show Dp K H3 v (seenD (z, l)) from sv)
            rw [if_neg (by intro z; cases z)]
            cases al with
            | cons h1 al =>
              cases h1
              exact ⟨pa, rfl, _, hx, _, atI_nat (j := 0) rfl, z, rfl, s13, r, s3 _ _ (s2 _ _ l1), gs, mr, hn, gs', rw'.same s13, rfl⟩
        · rw [if_neg (show ¬ (wd = "scrape" ∨ wd = "rub") from iw)]
          rcases hc with ⟨_, z, us, gs, gs', rfl, mr, hn, rw', rfl⟩ | ⟨w1, _⟩
          · refine ⟨_, us, .inr (SqL.of (s2 _ _ l1)), by simp at r3; omega, fun D2 hD2 => ?_⟩
            have s3 : Same H2 (upd H2 D2 (.lst us)) := same_new hD2
            exact ⟨z, rfl, smT s12 s3, us, upd_same, gs, mr, hn, gs', rw'.same (smT s12 s3), rfl⟩
          · exact absurd w1 iw
      · rintro σ' H3 ⟨z, us, gs, gs', D2, a6, a7, rfl, s03, l3, mr, hn, rw', rfl⟩
        simp only [tSeq, tIfS, tTest, tOp, tUn, tVar, tC, rI, rI0, rU, rEq, rNe, rIxL, rIxT, rIxS, tCB, tCons, tNil, tRet, tRetN, tAsg, gTup, gCons, gNil, gName, gSub, rSetL, tNext, tDrop, tLst, tTup, tCall, tIf, tB, tAnd, tOr, tNot, tSl, tPart, tNoPart, tM1, tM0, tBM, tBM0, tLcE, tForE, iRng1, iRng2, iTup, iList, iStr, tYes, wipe, startDef, cxK, noxK, exists_and_left, exists_eq_left', exists_eq_left, exists_eq_right, Option.some.injEq, V.int.injEq, V.ref.injEq, V.str.injEq, V.bl.injEq, List.cons.injEq, and_true, true_and, List.append_nil, List.map_cons, List.map_nil, List.length_cons, List.length_nil, List.replicate, List.nil_append, List.cons_append, List.set_cons_zero, List.set_cons_succ, List.getElem?_cons_zero, List.getElem?_cons_succ, decide_eq_true_eq, exists_const, Nat.reduceAdd, Nat.reduceSub, List.replicate_succ, List.replicate_zero, exists_prop, and_assoc, List.set_nil, rLenK, rTupK, rLstK, rReprK, rEqD, rNeD, rIn, rAll, rAppend, rCat, ↓reduceIte, Bool.false_eq_true, iEnumT, rSortedPO, rIsi, rRep, rReverse, tLstRg, tTupRg, tRg1, tRg2, rSlL, rSlT, rSortedI, rSlF, rCatF, rMax, tLc2E, rSortedL, rSortedT, gUnl, tPar, rReprX, tChain, tDNewK, tDisp, tPairs, tAndV, tNotV, tFd, sFd, tMeth, tMake, tMakeK, gStar, iZipM, iItems, tLock, tSpread, tDcE, tDGet, sDPut, tPar3, tNever, rIxD, tChain, iEnum, tDIn, tDNotIn, gHd, spRowB]
        intro d hd
        have ngd : g ≠ d := ne_of_none (s03 _ _ hgd) hd
        refine ⟨ngd, upd_same, kvs, by rw [upd_ne ngd]; exact s03 _ _ hgd, by omega, fun e he => ?_⟩
        have s4 : Same H3 (upd (upd H3 d (.dK [])) d (.dK kvs)) := fun a o q => by rw [upd_ne (ne_of_none q hd), upd_ne (ne_of_none q hd)]; exact q
        have d4 : (upd (upd H3 d (.dK [])) d (.dK kvs)) d = some (.dK kvs) := upd_same
        generalize upd (upd H3 d (.dK [])) d (.dK kvs) = H4 at s4 d4 he
        have s5 : Same H4 (upd H4 e (.dK [])) := same_new he
        have e5 : (upd H4 e (.dK [])) e = some (.dK []) := upd_same
        generalize upd H4 e (.dK []) = H5 at s5 e5
        have s35 := smT s4 s5
        have s05 := smT s03 s35
        obtain ⟨rv, ev, dv⟩ := grel_some hp ok.nd mr
        refine ⟨rv, ?_, us, gs, smDp s05 (flat_rowG (ok.flat _ mr)) dv, ok.flat _ mr, by omega, s35 _ _ l3, gs', rw'.same s35, fun v' H6 s6 dv' => ?_⟩
        · have q := DGet.k (k := (Sum.inr z : L2.Key)) (s05 _ _ hgd)
          rw [ev] at q
          exact q
        · have s06 := smT s05 s6
          have d6 := s6 _ _ (s5 _ _ d4)
          have e6 := s6 _ _ e5
          have nde : d ≠ e := ne_of_none d4 he
          refine ⟨Sum.inr z, rfl, e6, d6, ?_⟩
          have hd0 : H d = none := smFr s03 hd
          have he0 : H e = none := smFr s03 (smFr s4 he)
          have sF : Same H (upd (upd H6 e (.dK [(Sum.inr z, v')])) d (.dK (putK kvs (Sum.inr z) v'))) := fun a o q => by
            rw [upd_ne (ne_of_none q hd0), upd_ne (ne_of_none q he0)]
            exact s06 a o q
          refine k d _ (.inl hd0) sF ⟨_, upd_same, ?_⟩
          have mv : ∀ a xs, SqT K H6 a xs → SqT K (upd (upd H6 e (.dK [(Sum.inr z, v')])) d (.dK (putK kvs (Sum.inr z) v'))) a xs := fun a xs h => by
            rcases h with (h | ⟨ob, h⟩) | h
            · exact Or.inl (Or.inl (by rw [upd_ne (ne_of h d6 (by intro z; cases z)), upd_ne (ne_of h e6 (by intro z; cases z))]; exact h))
            · exact Or.inl (Or.inr ⟨ob, by rw [upd_ne (ne_of h d6 (by intro z; cases z)), upd_ne (ne_of h e6 (by intro z; cases z))]; exact h⟩)
            · exact Or.inr h
          exact grel_put (Dp.move mv (flat_rowG (rw'.flat (ok.flat _ mr))) dv') (grels ok.flat (fun a xs h => mv a xs (St.tup potN (St.ofSame potN s06) h)) hp) ok.nd (List.mem_map.mpr ⟨_, mr, rfl⟩)
end

/-! ### places -/
structure TPlc (K : PySem.W.Frag) (mg : Str → Option Value) (cQ : Addr) : Prop where
  cl : Cls K cQ
  n_palette : NoAttr K cQ "_palette"
  n_wear : NoAttr K cQ "_wear"
  n_ground : NoAttr K cQ "_ground"
  n_next_mark : NoAttr K cQ "_next_mark"
structure PlOk (inks : List Lay) (gr : Grd) : Prop where
  iok : InksOk inks
  nms : gr.map (·.1) = inks.map (·.1)
  rws : ∀ r ∈ gr, r.2.length ≤ 500
theorem gG_names (gr : Grd) : (gG gr).map (·.1) = gr.map (·.1) := by
  unfold gG
  rw [List.map_map]
  rfl
theorem PlOk.gr {inks : List Lay} {gr : Grd} (h : PlOk inks gr) : GrOk (gG gr) := by
  refine ⟨?_, ?_, by rw [gG_names, h.nms]; exact h.iok.nd, flat_gG gr⟩
  · have := congrArg List.length h.nms
    have := h.iok.most
    unfold gG
    simp at *
    omega
  · rintro r m
    obtain ⟨s, ms, rfl⟩ := List.mem_map.mp m
    have := h.rws s ms
    show (s.2.map mG).length ≤ 1000
    rw [List.length_map]
    omega
theorem chgIns {H H' : Hp} {x C dx : Addr} {fs : List (Str × V)} (hx : H x = some (.ins C dx fs)) (s : ∀ a o, a ≠ x → H a = some o → H' a = some o) : Chg [x] H H' :=
  ⟨fun q m => by rw [List.mem_singleton.mp m]; exact ⟨_, hx, True.intro⟩, fun a o n e => s a o (fun z => n (by rw [z]; exact List.mem_singleton_self _)) e⟩
theorem ms_len {K : PySem.W.Frag} {H : Hp} {xs : List V} {ls : List Lyr} (al : DpAll K H xs (ls.map mD)) : xs.length = ls.length := by
  rw [DpAll.len al, List.length_map]
theorem ms_get {K : PySem.W.Frag} {H : Hp} {xs : List V} {ls : List Lyr} {i : Nat} {v : V} (h : DpAll K H xs (ls.map mD)) (e : xs[i]? = some v) :
    ∃ (l : Lyr) (b c : Addr), ls[i]? = some l ∧ v = .ref b ∧ SqT K H b [.ref c, .int l.2.2] ∧ SqT K H c [.str l.2.1, .int l.1] := by
  obtain ⟨d, q, k⟩ := DpAll.get h e
  rw [List.getElem?_map] at q
  cases eg : ls[i]? with
  | none => rw [eg] at q; cases q
  | some l =>
    rw [eg] at q
    obtain rfl : mD l = d := Option.some.inj q
    obtain ⟨b, x, e2, s, hx⟩ := dp_pair k
    obtain ⟨c, y, e3, s2, hy⟩ := dp_pair hx
    cases hy
    subst e3
    exact ⟨l, b, c, rfl, e2, s, s2⟩
section
variable {P : Program} {w : World} {K : PySem.W.Frag} {mg : Str → Option Value} {base : Heap} {cP cQ : Addr}
structure CWh (P : Program) (w : World) (K : PySem.W.Frag) (mg : Str → Option Value) (base : Heap) : Prop where
  is_whole : Has P w K mg base "is_whole" 1 ["thing"] (spWhole K)
abbrev s_checked_wear : Stmt := topS 27
theorem sc_checked_wear : FnScope ["thing"] ["thing"] (defScope s_checked_wear) := ⟨rfl, rfl, rfl, by decide +kernel, rfl, by decide +kernel, by decide +kernel⟩

def spCWear (K : PySem.W.Frag) : Sp := fun vs H Q _ => ∃ i : Int, vs = [.int i] ∧ 0 ≤ i ∧ i ≤ 6 ∧ Q (.int i) H
theorem ok_checked_wear {f : Addr} {fd : FuncData} (F : Fun K "checked_wear" "checked_wear" s_checked_wear f fd) (M : Blt mg) (G : Gs mg) (C : CWh P w K mg base) : FnOk P w K mg base CX0 2 f fd ["thing"] (spCWear K) := by
  refine F.ok sc_checked_wear (fun vs H Q E h => ?_) (fun cdv A outer s H vs Q E hr h => ?_)
  · obtain ⟨i, rfl, _⟩ := h
    rfl
  · obtain ⟨i, rfl, h0, h6, k⟩ := h
    obtain ⟨tW, gW⟩ := G.wear
    refine ⟨_, (pss_cons (ps_if (PW.pt (pw_or (pt_not (pt_val (callH C.is_whole hr (by rfl) (pa_cons (pv 0) pa_nil)))) (pw_or1 (pt_not (pt_chain op_le op_le pe_int (pv 0) (pe_glob (v := .int 6) (by rfl) gW ⟨_, rfl⟩)))))) (pss_one ps_never) pss_nil)
      (pss_one (ps_ret (pv 0)))), ?_⟩
    simp only [tSeq, tIfS, tTest, tOp, tUn, tVar, tC, rI, rI0, rU, rEq, rNe, rIxL, rIxT, rIxS, tCB, tCons, tNil, tRet, tRetN, tAsg, gTup, gCons, gNil, gName, gSub, rSetL, tNext, tDrop, tLst, tTup, tCall, tIf, tB, tAnd, tOr, tNot, tSl, tPart, tNoPart, tM1, tM0, tBM, tBM0, tLcE, tForE, iRng1, iRng2, iTup, iList, iStr, tYes, wipe, startDef, cxK, noxK, exists_and_left, exists_eq_left', exists_eq_left, exists_eq_right, Option.some.injEq, V.int.injEq, V.ref.injEq, V.str.injEq, V.bl.injEq, List.cons.injEq, and_true, true_and, List.append_nil, List.map_cons, List.map_nil, List.length_cons, List.length_nil, List.replicate, List.nil_append, List.cons_append, List.set_cons_zero, List.set_cons_succ, List.getElem?_cons_zero, List.getElem?_cons_succ, decide_eq_true_eq, exists_const, Nat.reduceAdd, Nat.reduceSub, List.replicate_succ, List.replicate_zero, exists_prop, and_assoc, List.set_nil, rLenK, rTupK, rLstK, rReprK, rEqD, rNeD, rIn, rAll, rAppend, rCat, ↓reduceIte, Bool.false_eq_true, iEnumT, rSortedPO, rIsi, rRep, rReverse, tLstRg, tTupRg, tRg1, tRg2, rSlL, rSlT, rSortedI, rSlF, rCatF, rMax, tLc2E, rSortedL, rSortedT, gUnl, tPar, rReprX, tChain, tDNewK, tDisp, tPairs, tAndV, tNotV, tFd, sFd, tMeth, tMake, tMakeK, gStar, iZipM, iItems, tLock, tSpread, tDcE, tDGet, sDPut, tPar3, tNever, rIxD, tChain, iEnum, tDIn, tDNotIn, gHd, spWhole]
    refine ⟨.inr (.inl ⟨i, rfl⟩), ?_⟩
    rw [if_neg (by simp [wholeB]), if_pos h0, if_neg (by simp; omega)]
    exact k
structure CPlI (P : Program) (w : World) (K : PySem.W.Frag) (mg : Str → Option Value) (base : Heap) (cP : Addr) : Prop where
  checked_wear : Has P w K mg base "checked_wear" 2 ["thing"] (spCWear K)
  bare_ground : Has P w K mg base "bare_ground" 2 ["palette"] (spBare K cP)
abbrev s_Place_init : Stmt := inClass (topS 53) 0
theorem sc_Place_init : FnScope ["self", "palette", "wear"] ["self", "palette", "wear"] (defScope s_Place_init) := ⟨rfl, rfl, rfl, by decide +kernel, rfl, by decide +kernel, by decide +kernel⟩

def spPlI (K : PySem.W.Frag) (cP cQ : Addr) : Sp := fun vs H Q _ => ∃ (x dx p m f : Addr) (inks : List Lay) (wr : Int), vs = [.ref x, .ref p, .int wr] ∧ H x = some (.ins cQ dx []) ∧ PalAt K cP H p m f inks ∧ InksOk inks ∧ 0 ≤ wr ∧ wr ≤ 6 ∧ p ≠ x ∧
  ∀ g H', H g = none → PlaceAt K cP cQ H' x p m f g inks wr (inks.map fun i => (i.1, [])) 0 → (∀ a o, a ≠ x → H a = some o → H' a = some o) → Q .non H'
theorem ok_Place_init {f : Addr} {fd : FuncData} (F : Fun K "__init__" "Place.__init__" s_Place_init f fd) (M : Blt mg) (TPlace : TPlc K mg cQ) (C : CPlI P w K mg base cP) : FnOk P w K mg base CX0 3 f fd ["self", "palette", "wear"] (spPlI K cP cQ) := by
  refine F.ok sc_Place_init (fun vs H Q E h => ?_) (fun cdv A outer s H vs Q E hr h => ?_)
  · obtain ⟨x, dx, p, m, f, inks, wr, rfl, _⟩ := h
    rfl
  · obtain ⟨x, dx, p, m, f, inks, wr, rfl, hx, hP, ok, h0, h6, npx, k⟩ := h
    refine ⟨_, (pss_cons (stoC rfl TPlace.cl TPlace.n_palette (pv 0) (pv 1))
      (pss_cons (stoC rfl TPlace.cl TPlace.n_wear (pv 0) (callH C.checked_wear hr (by rfl) (pa_cons (pv 2) pa_nil)))
      (pss_cons (stoC rfl TPlace.cl TPlace.n_ground (pv 0) (callH C.bare_ground hr (by rfl) (pa_cons (pv 1) pa_nil)))
      (pss_one (stoC rfl TPlace.cl TPlace.n_next_mark (pv 0) pe_int))))), ?_⟩
    simp only [tSeq, tIfS, tTest, tOp, tUn, tVar, tC, rI, rI0, rU, rEq, rNe, rIxL, rIxT, rIxS, tCB, tCons, tNil, tRet, tRetN, tAsg, gTup, gCons, gNil, gName, gSub, rSetL, tNext, tDrop, tLst, tTup, tCall, tIf, tB, tAnd, tOr, tNot, tSl, tPart, tNoPart, tM1, tM0, tBM, tBM0, tLcE, tForE, iRng1, iRng2, iTup, iList, iStr, tYes, wipe, startDef, cxK, noxK, exists_and_left, exists_eq_left', exists_eq_left, exists_eq_right, Option.some.injEq, V.int.injEq, V.ref.injEq, V.str.injEq, V.bl.injEq, List.cons.injEq, and_true, true_and, List.append_nil, List.map_cons, List.map_nil, List.length_cons, List.length_nil, List.replicate, List.nil_append, List.cons_append, List.set_cons_zero, List.set_cons_succ, List.getElem?_cons_zero, List.getElem?_cons_succ, decide_eq_true_eq, exists_const, Nat.reduceAdd, Nat.reduceSub, List.replicate_succ, List.replicate_zero, exists_prop, and_assoc, List.set_nil, rLenK, rTupK, rLstK, rReprK, rEqD, rNeD, rIn, rAll, rAppend, rCat, ↓reduceIte, Bool.false_eq_true, iEnumT, rSortedPO, rIsi, rRep, rReverse, tLstRg, tTupRg, tRg1, tRg2, rSlL, rSlT, rSortedI, rSlF, rCatF, rMax, tLc2E, rSortedL, rSortedT, gUnl, tPar, rReprX, tChain, tDNewK, tDisp, tPairs, tAndV, tNotV, tFd, sFd, tMeth, tMake, tMakeK, gStar, iZipM, iItems, tLock, tSpread, tDcE, tDGet, sDPut, tPar3, tNever, rIxD, tChain, iEnum, tDIn, tDNotIn, gHd, spCWear, spBare]
    have nfx : f ≠ x := ne_of hP.fades hx (by intro z; cases z)
    have mv : ∀ {H' : Hp}, (∀ a o, a ≠ x → H a = some o → H' a = some o) → PalAt K cP H' p m f inks := fun s =>
      hP.chg (chgIns hx s) (fun z => npx (List.mem_singleton.mp z)) (fun z => nfx (List.mem_singleton.mp z))
    refine ⟨dx, _, hx, by decide, h0, h6, dx, _, upd_same, by show 1 < 1000; decide, m, f, inks, mv (fun a o n e => by rw [upd_ne n, upd_ne n]; exact e), ok, fun g H1 hg s1 gg =>
      ⟨dx, _, s1 _ _ upd_same, by show 2 < 1000; decide, dx, _, upd_same, by show 3 < 1000; decide, ?_⟩⟩
    have hg0 : H g = none := by
      cases e : H g with
      | none => rfl
      | some o =>
        by_cases n : g = x
        · subst n
          rw [upd_same] at hg
          cases hg
        · rw [upd_ne n, upd_ne n, e] at hg
          cases hg
    have x1 := s1 _ _ upd_same
    have fr : ∀ a o, a ≠ x → H a = some o → H1 a = some o := fun a o n e => s1 a o (by rw [upd_ne n, upd_ne n]; exact e)
    generalize eH2 : upd (upd H1 x _) x _ = H2
    have x2 : H2 x = some (.ins cQ dx (placeF (.ref p) wr g 0)) := by rw [← eH2]; exact upd_same
    have fr1 : ∀ a o, a ≠ x → H1 a = some o → H2 a = some o := fun a o n e => by rw [← eH2, upd_ne n, upd_ne n]; exact e
    have fr2 : ∀ a o, a ≠ x → H a = some o → H2 a = some o := fun a o n e => fr1 a o n (fr a o n e)
    obtain ⟨kvs, gd, gp⟩ := gg
    have ngx : g ≠ x := ne_of gd x1 (by intro z; cases z)
    refine k g H2 hg0 ⟨⟨dx, x2⟩, mv fr2, ?_, by rw [List.map_map]; rfl⟩ fr2
    have e : gG (inks.map fun i => (i.1, [])) = inks.map fun i => (i.1, []) := by
      unfold gG
      rw [List.map_map]
      rfl
    show GrdG K H2 g (gG (inks.map fun i => (i.1, [])))
    rw [e]
    have fl : FlatG (inks.map fun i => ((i.1 : Str), ([] : List GLay))) := by
      rintro r m g mg
      obtain ⟨j, _, rfl⟩ := List.mem_map.mp m
      cases mg
    exact GrdG.chg fl ⟨kvs, gd, gp⟩ (chgIns x1 fr1) (fun z => ngx (List.mem_singleton.mp z))
abbrev s_Place_palette : Stmt := inClass (topS 53) 1
theorem sc_Place_palette : FnScope ["self"] ["self"] (defScope s_Place_palette) := ⟨rfl, rfl, rfl, by decide +kernel, rfl, by decide +kernel, by decide +kernel⟩

def spPlP (K : PySem.W.Frag) (cP cQ : Addr) : Sp := fun vs H Q _ => ∃ (x p m f g : Addr) (inks : List Lay) (wr : Int) (gr : Grd) (n : Nat), vs = [.ref x] ∧ PlaceAt K cP cQ H x p m f g inks wr gr n ∧ Q (.ref p) H
theorem ok_Place_palette {f : Addr} {fd : FuncData} (F : Fun K "palette" "Place.palette" s_Place_palette f fd) (M : Blt mg) (TPlace : TPlc K mg cQ) : FnOk P w K mg base CX0 1 f fd ["self"] (spPlP K cP cQ) := by
  refine F.ok sc_Place_palette (fun vs H Q E h => ?_) (fun cdv A outer s H vs Q E hr h => ?_)
  · obtain ⟨x, p, m, f, g, inks, wr, gr, n, rfl, _⟩ := h
    rfl
  · obtain ⟨x, p, m, f, g, inks, wr, gr, n, rfl, hQ, k⟩ := h
    refine ⟨_, (pss_one (ps_ret (fldC rfl TPlace.cl TPlace.n_palette (pv 0)))), ?_⟩
    obtain ⟨dx, hx⟩ := hQ.ob
    simp only [tSeq, tIfS, tTest, tOp, tUn, tVar, tC, rI, rI0, rU, rEq, rNe, rIxL, rIxT, rIxS, tCB, tCons, tNil, tRet, tRetN, tAsg, gTup, gCons, gNil, gName, gSub, rSetL, tNext, tDrop, tLst, tTup, tCall, tIf, tB, tAnd, tOr, tNot, tSl, tPart, tNoPart, tM1, tM0, tBM, tBM0, tLcE, tForE, iRng1, iRng2, iTup, iList, iStr, tYes, wipe, startDef, cxK, noxK, exists_and_left, exists_eq_left', exists_eq_left, exists_eq_right, Option.some.injEq, V.int.injEq, V.ref.injEq, V.str.injEq, V.bl.injEq, List.cons.injEq, and_true, true_and, List.append_nil, List.map_cons, List.map_nil, List.length_cons, List.length_nil, List.replicate, List.nil_append, List.cons_append, List.set_cons_zero, List.set_cons_succ, List.getElem?_cons_zero, List.getElem?_cons_succ, decide_eq_true_eq, exists_const, Nat.reduceAdd, Nat.reduceSub, List.replicate_succ, List.replicate_zero, exists_prop, and_assoc, List.set_nil, rLenK, rTupK, rLstK, rReprK, rEqD, rNeD, rIn, rAll, rAppend, rCat, ↓reduceIte, Bool.false_eq_true, iEnumT, rSortedPO, rIsi, rRep, rReverse, tLstRg, tTupRg, tRg1, tRg2, rSlL, rSlT, rSortedI, rSlF, rCatF, rMax, tLc2E, rSortedL, rSortedT, gUnl, tPar, rReprX, tChain, tDNewK, tDisp, tPairs, tAndV, tNotV, tFd, sFd, tMeth, tMake, tMakeK, gStar, iZipM, iItems, tLock, tSpread, tDcE, tDGet, sDPut, tPar3, tNever, rIxD, tChain, iEnum, tDIn, tDNotIn, gHd]
    exact ⟨dx, _, hx, _, pf_lp .., k⟩
abbrev s_Place_wear : Stmt := inClass (topS 53) 2
theorem sc_Place_wear : FnScope ["self"] ["self"] (defScope s_Place_wear) := ⟨rfl, rfl, rfl, by decide +kernel, rfl, by decide +kernel, by decide +kernel⟩

def spPlW (K : PySem.W.Frag) (cP cQ : Addr) : Sp := fun vs H Q _ => ∃ (x p m f g : Addr) (inks : List Lay) (wr : Int) (gr : Grd) (n : Nat), vs = [.ref x] ∧ PlaceAt K cP cQ H x p m f g inks wr gr n ∧ Q (.int wr) H
theorem ok_Place_wear {f : Addr} {fd : FuncData} (F : Fun K "wear" "Place.wear" s_Place_wear f fd) (M : Blt mg) (TPlace : TPlc K mg cQ) : FnOk P w K mg base CX0 1 f fd ["self"] (spPlW K cP cQ) := by
  refine F.ok sc_Place_wear (fun vs H Q E h => ?_) (fun cdv A outer s H vs Q E hr h => ?_)
  · obtain ⟨x, p, m, f, g, inks, wr, gr, n, rfl, _⟩ := h
    rfl
  · obtain ⟨x, p, m, f, g, inks, wr, gr, n, rfl, hQ, k⟩ := h
    refine ⟨_, (pss_one (ps_ret (fldC rfl TPlace.cl TPlace.n_wear (pv 0)))), ?_⟩
    obtain ⟨dx, hx⟩ := hQ.ob
    simp only [tSeq, tIfS, tTest, tOp, tUn, tVar, tC, rI, rI0, rU, rEq, rNe, rIxL, rIxT, rIxS, tCB, tCons, tNil, tRet, tRetN, tAsg, gTup, gCons, gNil, gName, gSub, rSetL, tNext, tDrop, tLst, tTup, tCall, tIf, tB, tAnd, tOr, tNot, tSl, tPart, tNoPart, tM1, tM0, tBM, tBM0, tLcE, tForE, iRng1, iRng2, iTup, iList, iStr, tYes, wipe, startDef, cxK, noxK, exists_and_left, exists_eq_left', exists_eq_left, exists_eq_right, Option.some.injEq, V.int.injEq, V.ref.injEq, V.str.injEq, V.bl.injEq, List.cons.injEq, and_true, true_and, List.append_nil, List.map_cons, List.map_nil, List.length_cons, List.length_nil, List.replicate, List.nil_append, List.cons_append, List.set_cons_zero, List.set_cons_succ, List.getElem?_cons_zero, List.getElem?_cons_succ, decide_eq_true_eq, exists_const, Nat.reduceAdd, Nat.reduceSub, List.replicate_succ, List.replicate_zero, exists_prop, and_assoc, List.set_nil, rLenK, rTupK, rLstK, rReprK, rEqD, rNeD, rIn, rAll, rAppend, rCat, ↓reduceIte, Bool.false_eq_true, iEnumT, rSortedPO, rIsi, rRep, rReverse, tLstRg, tTupRg, tRg1, tRg2, rSlL, rSlT, rSortedI, rSlF, rCatF, rMax, tLc2E, rSortedL, rSortedT, gUnl, tPar, rReprX, tChain, tDNewK, tDisp, tPairs, tAndV, tNotV, tFd, sFd, tMeth, tMake, tMakeK, gStar, iZipM, iItems, tLock, tSpread, tDcE, tDGet, sDPut, tPar3, tNever, rIxD, tChain, iEnum, tDIn, tDNotIn, gHd]
    exact ⟨dx, _, hx, _, pf_lw .., k⟩
structure CHasP (P : Program) (w : World) (K : PySem.W.Frag) (mg : Str → Option Value) (base : Heap) (cP : Addr) : Prop where
  Palette_has : HasM P w K mg base cP "has" 2 ["self", "name"] (spHas K cP)
abbrev s_Place_marked_row : Stmt := inClass (topS 53) 18
theorem sc_Place_marked_row : FnScope ["self", "ink"] ["self", "ink"] (defScope s_Place_marked_row) := ⟨rfl, rfl, rfl, by decide +kernel, rfl, by decide +kernel, by decide +kernel⟩

def spMRow (K : PySem.W.Frag) (cP cQ : Addr) : Sp := fun vs H Q _ => ∃ (x p m f g : Addr) (inks : List Lay) (wr : Int) (gr : Grd) (n : Nat) (r : Str × List Lyr), vs = [.ref x, .str r.1] ∧ PlaceAt K cP cQ H x p m f g inks wr gr n ∧ PlOk inks gr ∧ r ∈ gr ∧
  ∀ v H', Same H H' → Dp K H' v (mrow r.2) → Q v H'
theorem ok_Place_marked_row {f : Addr} {fd : FuncData} (F : Fun K "_marked_row" "Place._marked_row" s_Place_marked_row f fd) (M : Blt mg) (TPalette : TPal K mg cP) (TPlace : TPlc K mg cQ) (C : CHasP P w K mg base cP) : FnOk P w K mg base CX0 3 f fd ["self", "ink"] (spMRow K cP cQ) := by
  refine F.ok sc_Place_marked_row (fun vs H Q E h => ?_) (fun cdv A outer s H vs Q E hr h => ?_)
  · obtain ⟨x, p, m, f, g, inks, wr, gr, n, r, rfl, _⟩ := h
    rfl
  · obtain ⟨x, p, m, f, g, inks, wr, gr, n, r, rfl, hQ, ok, mr, k⟩ := h
    have hu := hu_of hr
    refine ⟨_, (pss_cons (ps_if (pt_not (pt_val (methC C.Palette_has TPalette.cl hr (fldC rfl TPlace.cl TPlace.n_palette (pv 0)) (pa_cons (pv 1) pa_nil)))) (pss_one ps_never) pss_nil)
      (pss_one (ps_ret (pe_dget hu (fldC rfl TPlace.cl TPlace.n_ground (pv 0)) (pv 1) (fun _ _ => rfl))))), ?_⟩
    obtain ⟨dx, hx⟩ := hQ.ob
    obtain ⟨⟨dp, hp⟩, _⟩ := hQ.pal
    simp only [tSeq, tIfS, tTest, tOp, tUn, tVar, tC, rI, rI0, rU, rEq, rNe, rIxL, rIxT, rIxS, tCB, tCons, tNil, tRet, tRetN, tAsg, gTup, gCons, gNil, gName, gSub, rSetL, tNext, tDrop, tLst, tTup, tCall, tIf, tB, tAnd, tOr, tNot, tSl, tPart, tNoPart, tM1, tM0, tBM, tBM0, tLcE, tForE, iRng1, iRng2, iTup, iList, iStr, tYes, wipe, startDef, cxK, noxK, exists_and_left, exists_eq_left', exists_eq_left, exists_eq_right, Option.some.injEq, V.int.injEq, V.ref.injEq, V.str.injEq, V.bl.injEq, List.cons.injEq, and_true, true_and, List.append_nil, List.map_cons, List.map_nil, List.length_cons, List.length_nil, List.replicate, List.nil_append, List.cons_append, List.set_cons_zero, List.set_cons_succ, List.getElem?_cons_zero, List.getElem?_cons_succ, decide_eq_true_eq, exists_const, Nat.reduceAdd, Nat.reduceSub, List.replicate_succ, List.replicate_zero, exists_prop, and_assoc, List.set_nil, rLenK, rTupK, rLstK, rReprK, rEqD, rNeD, rIn, rAll, rAppend, rCat, ↓reduceIte, Bool.false_eq_true, iEnumT, rSortedPO, rIsi, rRep, rReverse, tLstRg, tTupRg, tRg1, tRg2, rSlL, rSlT, rSortedI, rSlF, rCatF, rMax, tLc2E, rSortedL, rSortedT, gUnl, tPar, rReprX, tChain, tDNewK, tDisp, tPairs, tAndV, tNotV, tFd, sFd, tMeth, tMake, tMakeK, gStar, iZipM, iItems, tLock, tSpread, tDcE, tDGet, sDPut, tPar3, tNever, rIxD, tChain, iEnum, tDIn, tDNotIn, gHd, spHas]
    have mrn : r.1 ∈ inks.map (·.1) := by rw [← ok.nms]; exact List.mem_map.mpr ⟨r, mr, rfl⟩
    obtain ⟨lay, ml, el⟩ := List.mem_map.mp mrn
    have nm : NmOk r.1 := el ▸ (ok.iok.ok lay ml).1
    refine ⟨dx, _, hx, _, pf_lp .., p, rfl, dp, _, hp, rfl, p, rfl, m, f, inks, hQ.pal, cl_nm nm, fun H1 s1 => ?_⟩
    rw [nameB_tag nm, decide_eq_true (List.mem_map.mpr ⟨r.1, mrn, rfl⟩), if_neg (by decide)]
    obtain ⟨kvs, gd, gp⟩ := hQ.grd.same s1
    have mrG : ((r.1, r.2.map mG) : Str × List GLay) ∈ gG gr := List.mem_map.mpr ⟨r, mr, rfl⟩
    obtain ⟨rv, ev, dv⟩ := grel_some gp ok.gr.nd mrG
    refine ⟨dx, _, s1 _ _ hx, _, pf_lg .., g, rfl, rv, ?_, k rv H1 s1 ?_⟩
    · have q := DGet.k (k := (Sum.inr r.1 : L2.Key)) gd
      rw [ev] at q
      exact q
    · unfold mrow
      have e : rowG (r.2.map mG) = .tuple (r.2.map mD) := by
        unfold rowG
        rw [List.map_map]
        rfl
      rw [← e]
      exact dv
structure CMRow (P : Program) (w : World) (K : PySem.W.Frag) (mg : Str → Option Value) (base : Heap) (cP cQ : Addr) : Prop where
  Place_marked_row : HasM P w K mg base cQ "_marked_row" 3 ["self", "ink"] (spMRow K cP cQ)
abbrev s_Place_row : Stmt := inClass (topS 53) 3
theorem sc_Place_row : FnScope ["self", "ink", "tag", "mark", "strength"] ["self", "ink"] (defScope s_Place_row) := ⟨rfl, rfl, rfl, by decide +kernel, rfl, by decide +kernel, by decide +kernel⟩

def rD (l : Lyr) : PyData := .tuple [.str l.2.1, .int l.2.2]
theorem flat_rD (l : Lyr) : flatT (rD l) = true := by simp [rD, flatT, flatTs]
def spPRow (K : PySem.W.Frag) (cP cQ : Addr) : Sp := fun vs H Q _ => ∃ (x p m f g : Addr) (inks : List Lay) (wr : Int) (gr : Grd) (n : Nat) (r : Str × List Lyr), vs = [.ref x, .str r.1] ∧ PlaceAt K cP cQ H x p m f g inks wr gr n ∧ PlOk inks gr ∧ r ∈ gr ∧
  ∀ v H', Same H H' → Dp K H' v (.tuple (r.2.map rD)) → Q v H'
theorem ok_Place_row {f : Addr} {fd : FuncData} (F : Fun K "row" "Place.row" s_Place_row f fd) (M : Blt mg) (TPlace : TPlc K mg cQ) (C : CMRow P w K mg base cP cQ) : FnOk P w K mg base CX0 4 f fd ["self", "ink"] (spPRow K cP cQ) := by
  refine F.ok sc_Place_row (fun vs H Q E h => ?_) (fun cdv A outer s H vs Q E hr h => ?_)
  · obtain ⟨x, p, m, f, g, inks, wr, gr, n, r, rfl, _⟩ := h
    rfl
  · obtain ⟨x, p, m, f, g, inks, wr, gr, n, r, rfl, hQ, ok, mr, k⟩ := h
    refine ⟨_, (pss_one (ps_ret (pe_callTy (k_tup (K := K) rfl) (by rfl) M.tuple (by decide +kernel) (pa_cons (pe_lc (own := [("strength", 4), ("tag", 2), ("mark", 3)]) (g := gTup K 2 (gCons (gTup K 2 (gCons (gName 2) (gCons (gName 3) gNil))) (gCons (gName 4) gNil))) (tt := tYes) rfl sc_Place_row.nd (pi_tup (methC C.Place_marked_row TPlace.cl hr (pv 0) (pa_cons (pv 1) pa_nil))) (blkOk_by (own := [("strength", 4), ("tag", 2), ("mark", 3)]) (N := ["self", "ink", "tag", "mark", "strength"]) (sc := defScope s_Place_row) (by decide +kernel)) (fun _ _ _ _ _ => (pg_tup (n := 2) (by rfl) (pgs_cons (pg_tup (n := 2) (by rfl) (pgs_cons (pg_name (i := 2) sc_Place_row.nd rfl (by first | exact Or.inl rfl | exact Or.inr rfl)) (pgs_cons (pg_name (i := 3) sc_Place_row.nd rfl (by first | exact Or.inl rfl | exact Or.inr rfl)) pgs_nil))) (pgs_cons (pg_name (i := 4) sc_Place_row.nd rfl (by first | exact Or.inl rfl | exact Or.inr rfl)) pgs_nil)))) (fun _ _ _ _ _ => pts_nil) (fun _ _ _ _ _ => (pe_tup (pa_cons (pv 2) (pa_cons (pv 4) pa_nil))))) pa_nil)))), ?_⟩
    obtain ⟨dx, hx⟩ := hQ.ob
    simp only [tSeq, tIfS, tTest, tOp, tUn, tVar, tC, rI, rI0, rU, rEq, rNe, rIxL, rIxT, rIxS, tCB, tCons, tNil, tRet, tRetN, tAsg, gTup, gCons, gNil, gName, gSub, rSetL, tNext, tDrop, tLst, tTup, tCall, tIf, tB, tAnd, tOr, tNot, tSl, tPart, tNoPart, tM1, tM0, tBM, tBM0, tLcE, tForE, iRng1, iRng2, iTup, iList, iStr, tYes, wipe, startDef, cxK, noxK, exists_and_left, exists_eq_left', exists_eq_left, exists_eq_right, Option.some.injEq, V.int.injEq, V.ref.injEq, V.str.injEq, V.bl.injEq, List.cons.injEq, and_true, true_and, List.append_nil, List.map_cons, List.map_nil, List.length_cons, List.length_nil, List.replicate, List.nil_append, List.cons_append, List.set_cons_zero, List.set_cons_succ, List.getElem?_cons_zero, List.getElem?_cons_succ, decide_eq_true_eq, exists_const, Nat.reduceAdd, Nat.reduceSub, List.replicate_succ, List.replicate_zero, exists_prop, and_assoc, List.set_nil, rLenK, rTupK, rLstK, rReprK, rEqD, rNeD, rIn, rAll, rAppend, rCat, ↓reduceIte, Bool.false_eq_true, iEnumT, rSortedPO, rIsi, rRep, rReverse, tLstRg, tTupRg, tRg1, tRg2, rSlL, rSlT, rSortedI, rSlF, rCatF, rMax, tLc2E, rSortedL, rSortedT, gUnl, tPar, rReprX, tChain, tDNewK, tDisp, tPairs, tAndV, tNotV, tFd, sFd, tMeth, tMake, tMakeK, gStar, iZipM, iItems, tLock, tSpread, tDcE, tDGet, sDPut, tPar3, tNever, rIxD, tChain, iEnum, tDIn, tDNotIn, gHd, spMRow]
    refine ⟨dx, _, hx, rfl, p, m, f, g, inks, wr, gr, n, r, rfl, hQ, ok, mr, fun v H1 s1 dv => ?_⟩
    obtain ⟨a, xs, rfl, sx, al⟩ := Dp.tupInv (show Dp K H1 v (.tuple (r.2.map mD)) from dv)
    have len := ms_len al
    have l5 := ok.rws r mr
    refine ⟨a, rfl, ⟨xs, sx⟩, ?_⟩
    refine lcK (K := K) walk_tup none (fun i ds => ds = (r.2.take i).map rD) potN (fun H s => St.tup potN s sx) (by omega) rfl ?_ ?_
    · rintro i x Ha H' ds C N hi s fl rfl ⟨rfl, e⟩ go _
      obtain ⟨l, b, c, el, rfl, sb, sc⟩ := ms_get al e
      simp only [tSeq, tIfS, tTest, tOp, tUn, tVar, tC, rI, rI0, rU, rEq, rNe, rIxL, rIxT, rIxS, tCB, tCons, tNil, tRet, tRetN, tAsg, gTup, gCons, gNil, gName, gSub, rSetL, tNext, tDrop, tLst, tTup, tCall, tIf, tB, tAnd, tOr, tNot, tSl, tPart, tNoPart, tM1, tM0, tBM, tBM0, tLcE, tForE, iRng1, iRng2, iTup, iList, iStr, tYes, wipe, startDef, cxK, noxK, exists_and_left, exists_eq_left', exists_eq_left, exists_eq_right, Option.some.injEq, V.int.injEq, V.ref.injEq, V.str.injEq, V.bl.injEq, List.cons.injEq, and_true, true_and, List.append_nil, List.map_cons, List.map_nil, List.length_cons, List.length_nil, List.replicate, List.nil_append, List.cons_append, List.set_cons_zero, List.set_cons_succ, List.getElem?_cons_zero, List.getElem?_cons_succ, decide_eq_true_eq, exists_const, Nat.reduceAdd, Nat.reduceSub, List.replicate_succ, List.replicate_zero, exists_prop, and_assoc, List.set_nil, rLenK, rTupK, rLstK, rReprK, rEqD, rNeD, rIn, rAll, rAppend, rCat, ↓reduceIte, Bool.false_eq_true, iEnumT, rSortedPO, rIsi, rRep, rReverse, tLstRg, tTupRg, tRg1, tRg2, rSlL, rSlT, rSortedI, rSlF, rCatF, rMax, tLc2E, rSortedL, rSortedT, gUnl, tPar, rReprX, tChain, tDNewK, tDisp, tPairs, tAndV, tNotV, tFd, sFd, tMeth, tMake, tMakeK, gStar, iZipM, iItems, tLock, tSpread, tDcE, tDGet, sDPut, tPar3, tNever, rIxD, tChain, iEnum, tDIn, tDNotIn, gHd]
      refine ⟨_, St.tup potN s sb, rfl, _, _, rfl, c, rfl, _, St.tup potN s sc, rfl, _, _, rfl, _, _, rfl, rfl, _, _, rfl, rfl, by decide, fun t ht => ?_⟩
      refine go _ _ (rD l) (St.new potN ht) (flat_rD l) (.tup (SqT.of upd_same) (.cons (.str _) (.cons (.int _) .nil))) ?_
      rw [take_succ_map _ _ el]
    · rintro D acc ds H' hD sD hl fl al' rfl
      rw [len, List.take_length] at al' fl
      refine ⟨D, rfl, acc, .inl ⟨SqL.of hl, fun t ht => ?_⟩⟩
      have st : Same H' (upd H' t (.tup acc)) := same_new ht
      exact k _ _ (smT s1 (smT sD.toSame st)) (.tup (SqT.of upd_same) (smDps st fl al'))
abbrev s_Place_marks : Stmt := inClass (topS 53) 4
theorem sc_Place_marks : FnScope ["self", "ink", "tag", "mark", "strength"] ["self", "ink"] (defScope s_Place_marks) := ⟨rfl, rfl, rfl, by decide +kernel, rfl, by decide +kernel, by decide +kernel⟩

def spPMarks (K : PySem.W.Frag) (cP cQ : Addr) : Sp := fun vs H Q _ => ∃ (x p m f g : Addr) (inks : List Lay) (wr : Int) (gr : Grd) (n : Nat) (r : Str × List Lyr), vs = [.ref x, .str r.1] ∧ PlaceAt K cP cQ H x p m f g inks wr gr n ∧ PlOk inks gr ∧ r ∈ gr ∧
  ∀ q H', H q = none → Same H H' → H' q = some (.lst (r.2.map fun l : Lyr => V.int l.1)) → Q (.ref q) H'
theorem ok_Place_marks {f : Addr} {fd : FuncData} (F : Fun K "marks" "Place.marks" s_Place_marks f fd) (M : Blt mg) (TPlace : TPlc K mg cQ) (C : CMRow P w K mg base cP cQ) : FnOk P w K mg base CX0 4 f fd ["self", "ink"] (spPMarks K cP cQ) := by
  refine F.ok sc_Place_marks (fun vs H Q E h => ?_) (fun cdv A outer s H vs Q E hr h => ?_)
  · obtain ⟨x, p, m, f, g, inks, wr, gr, n, r, rfl, _⟩ := h
    rfl
  · obtain ⟨x, p, m, f, g, inks, wr, gr, n, r, rfl, hQ, ok, mr, k⟩ := h
    refine ⟨_, (pss_one (ps_ret (pe_lc (own := [("strength", 4), ("tag", 2), ("mark", 3)]) (g := gTup K 2 (gCons (gTup K 2 (gCons (gName 2) (gCons (gName 3) gNil))) (gCons (gName 4) gNil))) (tt := tYes) rfl sc_Place_marks.nd (pi_tup (methC C.Place_marked_row TPlace.cl hr (pv 0) (pa_cons (pv 1) pa_nil))) (blkOk_by (own := [("strength", 4), ("tag", 2), ("mark", 3)]) (N := ["self", "ink", "tag", "mark", "strength"]) (sc := defScope s_Place_marks) (by decide +kernel)) (fun _ _ _ _ _ => (pg_tup (n := 2) (by rfl) (pgs_cons (pg_tup (n := 2) (by rfl) (pgs_cons (pg_name (i := 2) sc_Place_marks.nd rfl (by first | exact Or.inl rfl | exact Or.inr rfl)) (pgs_cons (pg_name (i := 3) sc_Place_marks.nd rfl (by first | exact Or.inl rfl | exact Or.inr rfl)) pgs_nil))) (pgs_cons (pg_name (i := 4) sc_Place_marks.nd rfl (by first | exact Or.inl rfl | exact Or.inr rfl)) pgs_nil)))) (fun _ _ _ _ _ => pts_nil) (fun _ _ _ _ _ => (pv 3))))), ?_⟩
    obtain ⟨dx, hx⟩ := hQ.ob
    simp only [tSeq, tIfS, tTest, tOp, tUn, tVar, tC, rI, rI0, rU, rEq, rNe, rIxL, rIxT, rIxS, tCB, tCons, tNil, tRet, tRetN, tAsg, gTup, gCons, gNil, gName, gSub, rSetL, tNext, tDrop, tLst, tTup, tCall, tIf, tB, tAnd, tOr, tNot, tSl, tPart, tNoPart, tM1, tM0, tBM, tBM0, tLcE, tForE, iRng1, iRng2, iTup, iList, iStr, tYes, wipe, startDef, cxK, noxK, exists_and_left, exists_eq_left', exists_eq_left, exists_eq_right, Option.some.injEq, V.int.injEq, V.ref.injEq, V.str.injEq, V.bl.injEq, List.cons.injEq, and_true, true_and, List.append_nil, List.map_cons, List.map_nil, List.length_cons, List.length_nil, List.replicate, List.nil_append, List.cons_append, List.set_cons_zero, List.set_cons_succ, List.getElem?_cons_zero, List.getElem?_cons_succ, decide_eq_true_eq, exists_const, Nat.reduceAdd, Nat.reduceSub, List.replicate_succ, List.replicate_zero, exists_prop, and_assoc, List.set_nil, rLenK, rTupK, rLstK, rReprK, rEqD, rNeD, rIn, rAll, rAppend, rCat, ↓reduceIte, Bool.false_eq_true, iEnumT, rSortedPO, rIsi, rRep, rReverse, tLstRg, tTupRg, tRg1, tRg2, rSlL, rSlT, rSortedI, rSlF, rCatF, rMax, tLc2E, rSortedL, rSortedT, gUnl, tPar, rReprX, tChain, tDNewK, tDisp, tPairs, tAndV, tNotV, tFd, sFd, tMeth, tMake, tMakeK, gStar, iZipM, iItems, tLock, tSpread, tDcE, tDGet, sDPut, tPar3, tNever, rIxD, tChain, iEnum, tDIn, tDNotIn, gHd, spMRow]
    refine ⟨dx, _, hx, rfl, p, m, f, g, inks, wr, gr, n, r, rfl, hQ, ok, mr, fun v H1 s1 dv => ?_⟩
    obtain ⟨a, xs, rfl, sx, al⟩ := Dp.tupInv (show Dp K H1 v (.tuple (r.2.map mD)) from dv)
    have len := ms_len al
    have l5 := ok.rws r mr
    refine ⟨a, rfl, ⟨xs, sx⟩, ?_⟩
    refine lcK (K := K) walk_tup none (fun i ds => ds = ((r.2.take i).map fun l : Lyr => (l.1 : Int)).map PyData.int) potN (fun H s => St.tup potN s sx) (by omega) rfl ?_ ?_
    · rintro i x Ha H' ds C N hi s fl rfl ⟨rfl, e⟩ go _
      obtain ⟨l, b, c, el, rfl, sb, sc⟩ := ms_get al e
      simp only [tSeq, tIfS, tTest, tOp, tUn, tVar, tC, rI, rI0, rU, rEq, rNe, rIxL, rIxT, rIxS, tCB, tCons, tNil, tRet, tRetN, tAsg, gTup, gCons, gNil, gName, gSub, rSetL, tNext, tDrop, tLst, tTup, tCall, tIf, tB, tAnd, tOr, tNot, tSl, tPart, tNoPart, tM1, tM0, tBM, tBM0, tLcE, tForE, iRng1, iRng2, iTup, iList, iStr, tYes, wipe, startDef, cxK, noxK, exists_and_left, exists_eq_left', exists_eq_left, exists_eq_right, Option.some.injEq, V.int.injEq, V.ref.injEq, V.str.injEq, V.bl.injEq, List.cons.injEq, and_true, true_and, List.append_nil, List.map_cons, List.map_nil, List.length_cons, List.length_nil, List.replicate, List.nil_append, List.cons_append, List.set_cons_zero, List.set_cons_succ, List.getElem?_cons_zero, List.getElem?_cons_succ, decide_eq_true_eq, exists_const, Nat.reduceAdd, Nat.reduceSub, List.replicate_succ, List.replicate_zero, exists_prop, and_assoc, List.set_nil, rLenK, rTupK, rLstK, rReprK, rEqD, rNeD, rIn, rAll, rAppend, rCat, ↓reduceIte, Bool.false_eq_true, iEnumT, rSortedPO, rIsi, rRep, rReverse, tLstRg, tTupRg, tRg1, tRg2, rSlL, rSlT, rSortedI, rSlF, rCatF, rMax, tLc2E, rSortedL, rSortedT, gUnl, tPar, rReprX, tChain, tDNewK, tDisp, tPairs, tAndV, tNotV, tFd, sFd, tMeth, tMake, tMakeK, gStar, iZipM, iItems, tLock, tSpread, tDcE, tDGet, sDPut, tPar3, tNever, rIxD, tChain, iEnum, tDIn, tDNotIn, gHd]
      refine ⟨_, St.tup potN s sb, rfl, _, _, rfl, c, rfl, _, St.tup potN s sc, rfl, _, _, rfl, _, _, rfl, rfl, _, _, rfl, rfl, ?_⟩
      refine go _ _ (.int l.1) (St.refl potN) (by simp [flatT]) (.int _) ?_
      rw [take_succ_map _ _ el, List.map_append]
      rfl
    · rintro D acc ds H' hD sD hl fl al' rfl
      rw [len, List.take_length] at al'
      have e := dps_ints_inv al'
      subst e
      rw [List.map_map] at hl
      exact k D H' (smFr s1 hD) (smT s1 sD.toSame) hl
structure CSeenO (P : Program) (w : World) (K : PySem.W.Frag) (mg : Str → Option Value) (base : Heap) : Prop where
  seen_on : Has P w K mg base "seen_on" 3 ["ground"] (spSeenOn K)
def SeenP (K : PySem.W.Frag) (H : Hp) (v : V) (gr : Grd) : Prop := (topG (gG gr) = none ∧ v = .non) ∨ ∃ (ink : Str) (l : Lyr), topG (gG gr) = some (ink, mG l) ∧ Dp K H v (.tuple [.str ink, .str l.2.1, .int l.2.2])
def SeenM (v : V) (gr : Grd) : Prop := (topG (gG gr) = none ∧ v = .non) ∨ ∃ (ink : Str) (l : Lyr), topG (gG gr) = some (ink, mG l) ∧ v = .int l.1
theorem topG_lyr {gr : Grd} {a : Str × GLay} (h : topG (gG gr) = some a) : ∃ l : Lyr, a = (a.1, mG l) := by
  obtain ⟨r, mr, _, ma⟩ := topG_mem h
  obtain ⟨r', _, rfl⟩ := List.mem_map.mp mr
  obtain ⟨l, _, el⟩ := List.mem_map.mp ma
  exact ⟨l, by rw [el]⟩
theorem seen_inv {H : Hp} {v : V} {ink : Str} {l : Lyr} (h : Dp K H v (seenD (ink, mG l))) : ∃ a b, v = .ref a ∧ SqT K H a [.str ink, .ref b, .int l.2.2] ∧ SqT K H b [.str l.2.1, .int l.1] := by
  obtain ⟨a, xs, rfl, s, al⟩ := Dp.tupInv h
  cases al with
  | cons h1 r => cases r with
    | cons h2 r => cases r with
      | cons h3 r =>
        cases r
        cases h1
        cases h3
        obtain ⟨b, y, rfl, s2, hy⟩ := dp_pair h2
        cases hy
        exact ⟨a, b, rfl, s, s2⟩
abbrev s_Place_seen : Stmt := inClass (topS 53) 5
theorem sc_Place_seen : FnScope ["self", "seen", "ink", "tag", "_", "strength"] ["self"] (defScope s_Place_seen) := ⟨rfl, rfl, rfl, by decide +kernel, rfl, by decide +kernel, by decide +kernel⟩

def spPSeen (K : PySem.W.Frag) (cP cQ : Addr) : Sp := fun vs H Q _ => ∃ (x p m f g : Addr) (inks : List Lay) (wr : Int) (gr : Grd) (n : Nat), vs = [.ref x] ∧ PlaceAt K cP cQ H x p m f g inks wr gr n ∧ PlOk inks gr ∧
  ∀ v H', Same H H' → SeenP K H' v gr → Q v H'
theorem ok_Place_seen {f : Addr} {fd : FuncData} (F : Fun K "seen" "Place.seen" s_Place_seen f fd) (M : Blt mg) (TPlace : TPlc K mg cQ) (C : CSeenO P w K mg base) : FnOk P w K mg base CX0 4 f fd ["self"] (spPSeen K cP cQ) := by
  refine F.ok sc_Place_seen (fun vs H Q E h => ?_) (fun cdv A outer s H vs Q E hr h => ?_)
  · obtain ⟨x, p, m, f, g, inks, wr, gr, n, rfl, _⟩ := h
    rfl
  · obtain ⟨x, p, m, f, g, inks, wr, gr, n, rfl, hQ, ok, k⟩ := h
    refine ⟨_, (pss_cons (ps_set (i := 1) sc_Place_seen.nd rfl (by first | exact Or.inl rfl | exact Or.inr rfl) (callH C.seen_on hr (by rfl) (pa_cons (fldC rfl TPlace.cl TPlace.n_ground (pv 0)) pa_nil)))
      (pss_cons (ps_if (pt_cmpR op_isN (pv 1) pe_non (nomark _)) (pss_one (ps_ret pe_non)) pss_nil)
      (pss_cons (ps_asg (pv 1) (pg_tup (n := 3) (by rfl) (pgs_cons (pg_name (i := 2) sc_Place_seen.nd rfl (by first | exact Or.inl rfl | exact Or.inr rfl)) (pgs_cons (pg_tup (n := 2) (by rfl) (pgs_cons (pg_name (i := 3) sc_Place_seen.nd rfl (by first | exact Or.inl rfl | exact Or.inr rfl)) (pgs_cons (pg_name (i := 4) sc_Place_seen.nd rfl (by first | exact Or.inl rfl | exact Or.inr rfl)) pgs_nil))) (pgs_cons (pg_name (i := 5) sc_Place_seen.nd rfl (by first | exact Or.inl rfl | exact Or.inr rfl)) pgs_nil)))))
      (pss_one (ps_ret (pe_tup (pa_cons (pv 2) (pa_cons (pv 3) (pa_cons (pv 5) pa_nil))))))))), ?_⟩
    obtain ⟨dx, hx⟩ := hQ.ob
    simp only [tSeq, tIfS, tTest, tOp, tUn, tVar, tC, rI, rI0, rU, rEq, rNe, rIxL, rIxT, rIxS, tCB, tCons, tNil, tRet, tRetN, tAsg, gTup, gCons, gNil, gName, gSub, rSetL, tNext, tDrop, tLst, tTup, tCall, tIf, tB, tAnd, tOr, tNot, tSl, tPart, tNoPart, tM1, tM0, tBM, tBM0, tLcE, tForE, iRng1, iRng2, iTup, iList, iStr, tYes, wipe, startDef, cxK, noxK, exists_and_left, exists_eq_left', exists_eq_left, exists_eq_right, Option.some.injEq, V.int.injEq, V.ref.injEq, V.str.injEq, V.bl.injEq, List.cons.injEq, and_true, true_and, List.append_nil, List.map_cons, List.map_nil, List.length_cons, List.length_nil, List.replicate, List.nil_append, List.cons_append, List.set_cons_zero, List.set_cons_succ, List.getElem?_cons_zero, List.getElem?_cons_succ, decide_eq_true_eq, exists_const, Nat.reduceAdd, Nat.reduceSub, List.replicate_succ, List.replicate_zero, exists_prop, and_assoc, List.set_nil, rLenK, rTupK, rLstK, rReprK, rEqD, rNeD, rIn, rAll, rAppend, rCat, ↓reduceIte, Bool.false_eq_true, iEnumT, rSortedPO, rIsi, rRep, rReverse, tLstRg, tTupRg, tRg1, tRg2, rSlL, rSlT, rSortedI, rSlF, rCatF, rMax, tLc2E, rSortedL, rSortedT, gUnl, tPar, rReprX, tChain, tDNewK, tDisp, tPairs, tAndV, tNotV, tFd, sFd, tMeth, tMake, tMakeK, gStar, iZipM, iItems, tLock, tSpread, tDcE, tDGet, sDPut, tPar3, tNever, rIxD, tChain, iEnum, tDIn, tDNotIn, gHd, spSeenOn]
    refine ⟨dx, _, hx, _, pf_lg .., g, rfl, gG gr, hQ.grd, ok.gr, fun v H1 s1 sv => ?_⟩
    cases e : topG (gG gr) with
    | none =>
      rw [e] at sv
      rw [if_pos (show v = V.non from sv)]
      exact k _ H1 s1 (.inl ⟨e, rfl⟩)
    | some a =>
      rw [e] at sv
      obtain ⟨l, ea⟩ := topG_lyr e
      rw [ea] at sv e
      obtain ⟨b, c, rfl, sb, sc⟩ := seen_inv (show Dp K H1 v (seenD (a.1, mG l)) from sv)
      rw [if_neg (by intro z; cases z)]
      refine ⟨b, rfl, _, sb, rfl, _, _, rfl, _, _, rfl, c, rfl, _, sc, rfl, _, _, rfl, _, _, rfl, rfl, _, _, rfl, rfl, by decide, fun t ht => ?_⟩
      exact k _ _ (smT s1 (same_new ht)) (.inr ⟨a.1, l, e, .tup (SqT.of upd_same) (.cons (.str _) (.cons (.str _) (.cons (.int _) .nil)))⟩)
abbrev s_Place_seen_mark : Stmt := inClass (topS 53) 6
theorem sc_Place_seen_mark : FnScope ["self", "seen"] ["self"] (defScope s_Place_seen_mark) := ⟨rfl, rfl, rfl, by decide +kernel, rfl, by decide +kernel, by decide +kernel⟩

def spPSeenM (K : PySem.W.Frag) (cP cQ : Addr) : Sp := fun vs H Q _ => ∃ (x p m f g : Addr) (inks : List Lay) (wr : Int) (gr : Grd) (n : Nat), vs = [.ref x] ∧ PlaceAt K cP cQ H x p m f g inks wr gr n ∧ PlOk inks gr ∧
  ∀ v H', Same H H' → SeenM v gr → Q v H'
theorem ok_Place_seen_mark {f : Addr} {fd : FuncData} (F : Fun K "seen_mark" "Place.seen_mark" s_Place_seen_mark f fd) (M : Blt mg) (TPlace : TPlc K mg cQ) (C : CSeenO P w K mg base) : FnOk P w K mg base CX0 4 f fd ["self"] (spPSeenM K cP cQ) := by
  refine F.ok sc_Place_seen_mark (fun vs H Q E h => ?_) (fun cdv A outer s H vs Q E hr h => ?_)
  · obtain ⟨x, p, m, f, g, inks, wr, gr, n, rfl, _⟩ := h
    rfl
  · obtain ⟨x, p, m, f, g, inks, wr, gr, n, rfl, hQ, ok, k⟩ := h
    refine ⟨_, (pss_cons (ps_set (i := 1) sc_Place_seen_mark.nd rfl (by first | exact Or.inl rfl | exact Or.inr rfl) (callH C.seen_on hr (by rfl) (pa_cons (fldC rfl TPlace.cl TPlace.n_ground (pv 0)) pa_nil)))
      (pss_one (ps_ret (pe_ifExp (pt_cmpR op_isN (pv 1) pe_non (nomark _)) pe_non (pe_ix (k_ixT (K := K) rfl) (pe_ix (k_ixT (K := K) rfl) (pv 1) pe_int (fun _ _ => rfl)) pe_int (fun _ _ => rfl)))))), ?_⟩
    obtain ⟨dx, hx⟩ := hQ.ob
    simp only [tSeq, tIfS, tTest, tOp, tUn, tVar, tC, rI, rI0, rU, rEq, rNe, rIxL, rIxT, rIxS, tCB, tCons, tNil, tRet, tRetN, tAsg, gTup, gCons, gNil, gName, gSub, rSetL, tNext, tDrop, tLst, tTup, tCall, tIf, tB, tAnd, tOr, tNot, tSl, tPart, tNoPart, tM1, tM0, tBM, tBM0, tLcE, tForE, iRng1, iRng2, iTup, iList, iStr, tYes, wipe, startDef, cxK, noxK, exists_and_left, exists_eq_left', exists_eq_left, exists_eq_right, Option.some.injEq, V.int.injEq, V.ref.injEq, V.str.injEq, V.bl.injEq, List.cons.injEq, and_true, true_and, List.append_nil, List.map_cons, List.map_nil, List.length_cons, List.length_nil, List.replicate, List.nil_append, List.cons_append, List.set_cons_zero, List.set_cons_succ, List.getElem?_cons_zero, List.getElem?_cons_succ, decide_eq_true_eq, exists_const, Nat.reduceAdd, Nat.reduceSub, List.replicate_succ, List.replicate_zero, exists_prop, and_assoc, List.set_nil, rLenK, rTupK, rLstK, rReprK, rEqD, rNeD, rIn, rAll, rAppend, rCat, ↓reduceIte, Bool.false_eq_true, iEnumT, rSortedPO, rIsi, rRep, rReverse, tLstRg, tTupRg, tRg1, tRg2, rSlL, rSlT, rSortedI, rSlF, rCatF, rMax, tLc2E, rSortedL, rSortedT, gUnl, tPar, rReprX, tChain, tDNewK, tDisp, tPairs, tAndV, tNotV, tFd, sFd, tMeth, tMake, tMakeK, gStar, iZipM, iItems, tLock, tSpread, tDcE, tDGet, sDPut, tPar3, tNever, rIxD, tChain, iEnum, tDIn, tDNotIn, gHd, spSeenOn]
    refine ⟨dx, _, hx, _, pf_lg .., g, rfl, gG gr, hQ.grd, ok.gr, fun v H1 s1 sv => ?_⟩
    cases e : topG (gG gr) with
    | none =>
      rw [e] at sv
      rw [if_pos (show v = V.non from sv)]
      exact k _ H1 s1 (.inl ⟨e, rfl⟩)
    | some a =>
      rw [e] at sv
      obtain ⟨l, ea⟩ := topG_lyr e
      rw [ea] at sv e
      obtain ⟨b, c, rfl, sb, sc⟩ := seen_inv (show Dp K H1 v (seenD (a.1, mG l)) from sv)
      rw [if_neg (by intro z; cases z)]
      exact ⟨b, rfl, _, sb, _, rfl, c, rfl, _, sc, _, rfl, k _ H1 s1 (.inr ⟨a.1, l, e, rfl⟩)⟩
def layP (gr : Grd) (z : Str) (l : Lyr) : Grd := gr.map fun r => if r.1 = z then (r.1, r.2 ++ [l]) else r
theorem layP_names (gr : Grd) (z : Str) (l : Lyr) : (layP gr z l).map (·.1) = gr.map (·.1) := by
  unfold layP
  rw [List.map_map]
  refine List.map_congr_left fun r _ => ?_
  show (if r.1 = z then (r.1, r.2 ++ [l]) else r).1 = r.1
  by_cases e : r.1 = z
  · rw [if_pos e]
  · rw [if_neg e]
theorem nd_inj {gr : Grd} (nd : (gr.map (·.1)).Nodup) {r s : Str × List Lyr} (mr : r ∈ gr) (ms : s ∈ gr) (e : r.1 = s.1) : r = s := by
  induction gr with
  | nil => cases mr
  | cons a gr ih =>
    rw [List.map_cons, List.nodup_cons] at nd
    rcases List.mem_cons.mp mr with q | q
    · rcases List.mem_cons.mp ms with q2 | q2
      · rw [q, q2]
      · exact absurd (List.mem_map.mpr ⟨s, q2, by rw [← e, q]⟩) nd.1
    · rcases List.mem_cons.mp ms with q2 | q2
      · exact absurd (List.mem_map.mpr ⟨r, q, by rw [e, q2]⟩) nd.1
      · exact ih nd.2 q q2
theorem layP_set {gr : Grd} (nd : (gr.map (·.1)).Nodup) {r : Str × List Lyr} (mr : r ∈ gr) (l : Lyr) : gG (layP gr r.1 l) = setG (gG gr) r.1 (r.2.map mG ++ [mG l]) := by
  unfold gG layP setG
  rw [List.map_map, List.map_map]
  refine List.map_congr_left fun s ms => ?_
  show ((if s.1 = r.1 then (s.1, s.2 ++ [l]) else s).1, (if s.1 = r.1 then (s.1, s.2 ++ [l]) else s).2.map mG) = if s.1 = r.1 then (s.1, r.2.map mG ++ [mG l]) else (s.1, s.2.map mG)
  by_cases e : s.1 = r.1
  · rw [if_pos e, if_pos e]
    have q := nd_inj nd ms mr e
    subst q
    rw [List.map_append]
    rfl
  · rw [if_neg e, if_neg e]
end

/-! ### a place's deeds -/
def mapP (gr : Grd) (z : Str) (f : List Lyr → List Lyr) : Grd := gr.map fun r => if r.1 = z then (r.1, f r.2) else r
theorem mapP_names (gr : Grd) (z : Str) (f : List Lyr → List Lyr) : (mapP gr z f).map (·.1) = gr.map (·.1) := by
  unfold mapP
  rw [List.map_map]
  refine List.map_congr_left fun r _ => ?_
  show (if r.1 = z then (r.1, f r.2) else r).1 = r.1
  by_cases e : r.1 = z
  · rw [if_pos e]
  · rw [if_neg e]
theorem mapP_set {gr : Grd} (nd : (gr.map (·.1)).Nodup) {r : Str × List Lyr} (mr : r ∈ gr) (f : List Lyr → List Lyr) : gG (mapP gr r.1 f) = setG (gG gr) r.1 ((f r.2).map mG) := by
  unfold gG mapP setG
  rw [List.map_map, List.map_map]
  refine List.map_congr_left fun s ms => ?_
  show ((if s.1 = r.1 then (s.1, f s.2) else s).1, (if s.1 = r.1 then (s.1, f s.2) else s).2.map mG) = if s.1 = r.1 then (s.1, (f r.2).map mG) else (s.1, s.2.map mG)
  by_cases e : s.1 = r.1
  · rw [if_pos e, if_pos e]
    have q := nd_inj nd ms mr e
    subst q
    rfl
  · rw [if_neg e, if_neg e]
theorem layP_mapP (gr : Grd) (z : Str) (l : Lyr) : layP gr z l = mapP gr z (· ++ [l]) := rfl
def posY (l : Lyr) : Bool := decide (0 < l.2.2)
def addY (ls : List Lyr) (n : Int) : List Lyr := ls.map fun l => (l.1, l.2.1, l.2.2 + n)
def weakY (ls : List Lyr) (n : Int) : List Lyr := (addY ls (-n)).filter posY
theorem addY_G (ls : List Lyr) (n : Int) : (addY ls n).map mG = addG (ls.map mG) n := by
  unfold addY addG
  rw [List.map_map, List.map_map]
  rfl
theorem weakY_G (ls : List Lyr) (n : Int) : (weakY ls n).map mG = weakG (ls.map mG) n := by
  unfold weakY weakG
  rw [← addY_G, List.filter_map]
  rfl
def lessP (gr : Grd) (z : Str) (n : Int) : Grd := mapP gr z fun ls => weakY ls n
def moreP (gr : Grd) (z : Str) (n : Int) : Grd := mapP gr z fun ls => addY ls n
def waitP (inks : List Lay) (gr : Grd) (n : Int) : Grd := gr.map fun r => (r.1, weakY r.2 (n * fadeOf inks r.1))
theorem waitP_G (inks : List Lay) (gr : Grd) (n : Int) : gG (waitP inks gr n) = (gG gr).map fun r => (r.1, weakG r.2 (n * fadeOf inks r.1)) := by
  unfold gG waitP
  rw [List.map_map, List.map_map]
  refine List.map_congr_left fun r _ => ?_
  show (r.1, (weakY r.2 _).map mG) = _
  rw [weakY_G]
  rfl
/-- what a deed that doesn't wear makes of the rows -/
def PlW (K : PySem.W.Frag) (H : Hp) (a : Addr) (inks : List Lay) (gr gr' : Grd) : Prop :=
  (∃ r ∈ gr, ∃ (l : Lyr) (b : Addr), SqT K H a [.str "lay", .str r.1, .ref b, .int l.2.2] ∧ SqT K H b [.str l.2.1, .int l.1] ∧ gr' = layP gr r.1 l) ∨
  (∃ r ∈ gr, ∃ n, SqT K H a [.str "wash", .str r.1, .int n] ∧ gr' = lessP gr r.1 n) ∨
  (∃ r ∈ gr, ∃ n, SqT K H a [.str "warm", .str r.1, .int n] ∧ gr' = moreP gr r.1 n) ∨
  (∃ n, SqT K H a [.str "wait", .int n] ∧ n.natAbs < 2 ^ 300 ∧ gr' = waitP inks gr n)
section
variable {P : Program} {w : World} {K : PySem.W.Frag} {mg : Str → Option Value} {base : Heap} {cP cQ : Addr}
theorem PlW.same {H H' : Hp} {a : Addr} {inks : List Lay} {gr gr' : Grd} (s : Same H H') (h : PlW K H a inks gr gr') : PlW K H' a inks gr gr' := by
  have mv : ∀ {b xs}, SqT K H b xs → SqT K H' b xs := fun t => St.tup potN (St.ofSame potN s) t
  rcases h with ⟨r, mr, l, b, h1, h2, e⟩ | ⟨r, mr, n, h1, e⟩ | ⟨r, mr, n, h1, e⟩ | ⟨n, h1, h2, e⟩
  · exact .inl ⟨r, mr, l, b, mv h1, mv h2, e⟩
  · exact .inr (.inl ⟨r, mr, n, mv h1, e⟩)
  · exact .inr (.inr (.inl ⟨r, mr, n, mv h1, e⟩))
  · exact .inr (.inr (.inr ⟨n, mv h1, h2, e⟩))
theorem PlW.word {H : Hp} {a : Addr} {inks : List Lay} {gr gr' : Grd} (h : PlW K H a inks gr gr') : ∃ wd us, SqT K H a (.str wd :: us) ∧ ¬ isWear wd := by
  rcases h with ⟨r, mr, l, b, h1, h2, e⟩ | ⟨r, mr, n, h1, e⟩ | ⟨r, mr, n, h1, e⟩ | ⟨n, h1, h2, e⟩ <;> exact ⟨_, _, h1, by unfold isWear; decide +kernel⟩
theorem PlW.names {H : Hp} {a : Addr} {inks : List Lay} {gr gr' : Grd} (h : PlW K H a inks gr gr') : gr'.map (·.1) = gr.map (·.1) := by
  rcases h with ⟨r, mr, l, b, h1, h2, rfl⟩ | ⟨r, mr, n, h1, rfl⟩ | ⟨r, mr, n, h1, rfl⟩ | ⟨n, h1, h2, rfl⟩
  · exact layP_names ..
  · exact mapP_names ..
  · exact mapP_names ..
  · unfold waitP
    rw [List.map_map]
    rfl
theorem PlW.grd {H : Hp} {p m f a : Addr} {inks : List Lay} {gr gr' : Grd} (h : PlW K H a inks gr gr') (ok : PlOk inks gr) (hP : PalAt K cP H p m f inks) : GrdW K cP H p a (gG gr) (gG gr') := by
  have nd : (gr.map (·.1)).Nodup := by rw [ok.nms]; exact ok.iok.nd
  have mG' : ∀ r ∈ gr, ((r.1, r.2.map mG) : Str × List GLay) ∈ gG gr := fun r mr => List.mem_map.mpr ⟨r, mr, rfl⟩
  have lG : ∀ r ∈ gr, (r.2.map mG).length < 1000 := fun r mr => by
    have := ok.rws r mr
    rw [List.length_map]
    omega
  rcases h with ⟨r, mr, l, b, h1, h2, rfl⟩ | ⟨r, mr, n, h1, rfl⟩ | ⟨r, mr, n, h1, rfl⟩ | ⟨n, h1, h2, rfl⟩
  · refine .inl ⟨_, r.1, _, r.2.map mG, r.2.map mG ++ [mG l], h1, by unfold isWear; decide +kernel, mG' r mr, lG r mr, .inl ⟨rfl, .ref b, .tuple [.str l.2.1, .int l.1], l.2.2, rfl, .tup h2 (.cons (.str _) (.cons (.int _) .nil)), by simp [flatT, flatTs], rfl⟩, layP_set nd mr l⟩
  · refine .inl ⟨_, r.1, _, r.2.map mG, weakG (r.2.map mG) n, h1, by unfold isWear; decide +kernel, mG' r mr, lG r mr, .inr (.inl ⟨rfl, n, rfl, rfl⟩), ?_⟩
    rw [← weakY_G]
    exact mapP_set nd mr _
  · refine .inl ⟨_, r.1, _, r.2.map mG, addG (r.2.map mG) n, h1, by unfold isWear; decide +kernel, mG' r mr, lG r mr, .inr (.inr (.inl ⟨rfl, n, rfl, rfl⟩)), ?_⟩
    rw [← addY_G]
    exact mapP_set nd mr _
  · refine .inr (.inl ⟨n, m, f, inks, h1, hP, ok.iok, by rw [gG_names, ok.nms], h2, waitP_G ..⟩)
/-! ### deeds that wear -/
def rubY (ls : List Lyr) (i : Nat) (n : Int) : List Lyr := (ls.modify i fun l => (l.1, l.2.1, l.2.2 - n)).filter posY
/-- what a scrape, or a rub, makes of the row of what is seen -/
def wornY (us : List V) (i : Nat) (ls : List Lyr) : List Lyr := match us with
  | [.int n] => rubY ls i n
  | _ => ls.eraseIdx i
theorem modify_map {α β : Type} (f : α → β) (g : α → α) (h : β → β) (e : ∀ a, f (g a) = h (f a)) : ∀ (ls : List α) (i : Nat), (ls.modify i g).map f = (ls.map f).modify i h
  | [], i => by simp
  | a :: r, 0 => by simp [e]
  | a :: r, i + 1 => by simp [modify_map f g h e r i]
theorem rubY_G (ls : List Lyr) (i : Nat) (n : Int) : (rubY ls i n).map mG = (rubG (ls.map mG) i n).filter posG := by
  unfold rubY rubG
  rw [← modify_map mG (fun l : Lyr => (l.1, l.2.1, l.2.2 - n)) (fun g : GLay => (g.1, g.2 - n)) (fun _ => rfl) ls i, List.filter_map]
  rfl
theorem eraseY_G (ls : List Lyr) (i : Nat) : (ls.eraseIdx i).map mG = (ls.map mG).eraseIdx i := by
  rw [List.eraseIdx_eq_take_drop_succ, List.eraseIdx_eq_take_drop_succ, List.map_append, List.map_take, List.map_drop]
/-- a scrape, a rub, as a tuple -/
def WdAt (K : PySem.W.Frag) (H : Hp) (a : Addr) (us : List V) : Prop := ∃ z : Str, SqT K H a (.str z :: us) ∧ ((z = "scrape" ∧ us = []) ∨ (z = "rub" ∧ ∃ n, 1 ≤ n ∧ us = [.int n]))
theorem WdAt.same {H H' : Hp} {a : Addr} {us : List V} (s : Same H H') (h : WdAt K H a us) : WdAt K H' a us := by
  obtain ⟨z, t, r⟩ := h
  exact ⟨z, St.tup potN (St.ofSame potN s) t, r⟩
/-- the layer that is seen -/
def TopAt (gr : Grd) (r : Str × List Lyr) (i : Nat) (l : Lyr) : Prop := r ∈ gr ∧ r.2[i]? = some l ∧ IsTop (gL (r.2.map mG)) i ∧ topG (gG gr) = some (r.1, mG l)
theorem WdAt.grd {H : Hp} {p a : Addr} {us : List V} {inks : List Lay} {gr : Grd} {r : Str × List Lyr} {i : Nat} {l : Lyr} (h : WdAt K H a us) (ok : PlOk inks gr) (t : TopAt gr r i l) : GrdW K cP H p a (gG gr) (gG (mapP gr r.1 (wornY us i))) := by
  obtain ⟨z, sq, hz⟩ := h
  obtain ⟨mr, el, tp, tg⟩ := t
  have nd : (gr.map (·.1)).Nodup := by rw [ok.nms]; exact ok.iok.nd
  have l5 := ok.rws r mr
  rcases hz with ⟨rfl, rfl⟩ | ⟨rfl, n, _, rfl⟩
  · refine .inr (.inr ⟨_, [], sq, .inl rfl, by simp, .inr ⟨r.1, mG l, r.2.map mG, (r.2.map mG).eraseIdx i, tg, List.mem_map.mpr ⟨r, mr, rfl⟩, by rw [List.length_map]; omega, .inr (.inr (.inr (.inr ⟨rfl, i, rfl, tp, rfl⟩))), ?_⟩⟩)
    rw [mapP_set nd mr (wornY [] i)]
    show setG _ _ ((r.2.eraseIdx i).map mG) = _
    rw [eraseY_G]
  · refine .inr (.inr ⟨_, [.int n], sq, .inr rfl, by simp, .inr ⟨r.1, mG l, r.2.map mG, (rubG (r.2.map mG) i n).filter posG, tg, List.mem_map.mpr ⟨r, mr, rfl⟩, by rw [List.length_map]; omega, .inr (.inr (.inr (.inl ⟨rfl, n, i, rfl, tp, rfl⟩))), ?_⟩⟩)
    rw [mapP_set nd mr (wornY [.int n] i)]
    show setG _ _ ((rubY r.2 i n).map mG) = _
    rw [rubY_G]
theorem WdAt.bare {H : Hp} {p a : Addr} {us : List V} {gr : Grd} (h : WdAt K H a us) (t : topG (gG gr) = none) : GrdW K cP H p a (gG gr) (gG gr) := by
  obtain ⟨z, sq, hz⟩ := h
  refine .inr (.inr ⟨z, us, sq, ?_, ?_, .inl ⟨t, rfl⟩⟩)
  · rcases hz with ⟨rfl, _⟩ | ⟨rfl, _⟩
    · exact .inl rfl
    · exact .inr rfl
  · rcases hz with ⟨_, rfl⟩ | ⟨_, n, _, rfl⟩ <;> simp
theorem WdAt.word {H : Hp} {a : Addr} {us : List V} (h : WdAt K H a us) : ∃ z, SqT K H a (.str z :: us) ∧ isWear z := by
  obtain ⟨z, sq, hz⟩ := h
  refine ⟨z, sq, ?_⟩
  rcases hz with ⟨rfl, _⟩ | ⟨rfl, _⟩
  · exact .inl rfl
  · exact .inr rfl
structure TWorn (K : PySem.W.Frag) (mg : Str → Option Value) (cW fW : Addr) : Prop where
  ox : OxC K cW
  at_ : PySem.W.findIn K (.ref cW) "at" = some none
  ini : PySem.W.findIn K (.ref cW) "__init__" = some (some (.ref fW))
  fn : PySem.W.typeIn K (.ref fW) = some (.type "function")
  gl : mg "Worn" = some (.ref cW)
  self_ : PySem.W.exmOne K (.ref cW) (.ref cW) = some true
abbrev s_Worn_init : Stmt := inClass (topS 17) 0
theorem sc_Worn_init : FnScope ["self", "at"] ["self", "at"] (defScope s_Worn_init) := ⟨rfl, rfl, rfl, by decide +kernel, rfl, by decide +kernel, by decide +kernel⟩

theorem ok_Worn_init {f : Addr} {fd : FuncData} (F : FunD K "__init__" "Worn.__init__" (defArgs s_Worn_init) (defBody s_Worn_init) (defScope s_Worn_init) [.int 0] [] f fd) : FnOk P w K mg base CX0 1 f fd ["self", "at"] (spInit K "at") := by
  refine F.ok sc_Worn_init (fun vs H Q E h => ?_) (fun cdv A outer s H vs Q E hr h => ?_)
  · obtain ⟨a, C, v, rfl, _⟩ := h
    rfl
  · obtain ⟨a, C, v, rfl, T, no, ha, k⟩ := h
    refine ⟨_, (pss_one (ps_os rfl (pv 0) (pv 1))), ?_⟩
    simp only [tSeq, tIfS, tTest, tOp, tUn, tVar, tC, rI, rI0, rU, rEq, rNe, rIxL, rIxT, rIxS, tCB, tCons, tNil, tRet, tRetN, tAsg, gTup, gCons, gNil, gName, gSub, rSetL, tNext, tDrop, tLst, tTup, tCall, tIf, tB, tAnd, tOr, tNot, tSl, tPart, tNoPart, tM1, tM0, tBM, tBM0, tLcE, tForE, iRng1, iRng2, iTup, iList, iStr, tYes, wipe, startDef, cxK, noxK, exists_and_left, exists_eq_left', exists_eq_left, exists_eq_right, Option.some.injEq, V.int.injEq, V.ref.injEq, V.str.injEq, V.bl.injEq, List.cons.injEq, and_true, true_and, List.append_nil, List.map_cons, List.map_nil, List.length_cons, List.length_nil, List.replicate, List.nil_append, List.cons_append, List.set_cons_zero, List.set_cons_succ, List.getElem?_cons_zero, List.getElem?_cons_succ, decide_eq_true_eq, exists_const, Nat.reduceAdd, Nat.reduceSub, List.replicate_succ, List.replicate_zero, exists_prop, and_assoc, List.set_nil, rLenK, rTupK, rLstK, rReprK, rEqD, rNeD, rIn, rAll, rAppend, rCat, ↓reduceIte, Bool.false_eq_true, iEnumT, rSortedPO, rIsi, rRep, rReverse, tLstRg, tTupRg, tRg1, tRg2, rSlL, rSlT, rSortedI, rSlF, rCatF, rMax, tLc2E, rSortedL, rSortedT, gUnl, tPar, rReprX, tChain, tDNewK, tDisp, tPairs, tAndV, tNotV, tFd, sFd, tMeth, tMake, tMakeK, gStar, iZipM, iItems, tLock, tSpread, tDcE, tDGet, sDPut, tPar3, tNever, rIxD, tChain, iEnum, tDIn, tDNotIn, gHd, tOs]
    exact ⟨C, T, no, ha, k⟩
structure CWearX (P : Program) (w : World) (K : PySem.W.Frag) (mg : Str → Option Value) (base : Heap) (fW : Addr) : Prop extends CSeenW P w K mg base where
  worn : ∃ fd ds, FnOk P w K mg base CX0 1 fW fd ["self", "at"] (spInit K "at") ∧ Vals [.int 0] ds ∧ Binds K fd ["self", "at"] ds
theorem CWearX.mkWorn {X : Cx} {fW cW : Addr} {j : Nat} {p pos : Pos} (C : CWearX X.prog X.w X.K X.mg X.base fW) (T : TWorn X.K X.mg cW fW) (hr : Room j X.A) (hg : Gl X "Worn") (hk : 2 ≤ j := by decide) :
    PMk X (.Call (.Name "Worn" p) [] [] pos) (tMk cW (spInit X.K "at") [.int 0] tNil) := by
  obtain ⟨fd, ds, F, hv, hb⟩ := C.worn
  exact pmk_x0 T.ox T.ini T.fn F (hr.mono hk) hb hv pass0 hg T.gl
/-- raise Worn() -/
theorem worn_way {cW fW : Addr} (T : TWorn K mg cW fW) {σ : L2.St} {H : Hp} {Q : XK} (h : ∀ d, H d = none → Q (.ref cW) (some d) (upd H d (.xd [("at", .int 0)]))) : tMk cW (spInit K "at") [.int 0] tNil σ H Q :=
  tMk_one T.ox T.at_ ⟨.int 0, rfl, h⟩ (fun f => f [] H)
abbrev s_wear_behind : Stmt := topS 48
theorem sc_wear_behind : FnScope ["wear", "ground", "deed"] ["wear", "ground", "deed"] (defScope s_wear_behind) := ⟨rfl, rfl, rfl, by decide +kernel, rfl, by decide +kernel, by decide +kernel⟩

/-- wear behind a deed; refused where something is seen and wear is 0 -/
def spWearX (K : PySem.W.Frag) (cW : Addr) : Sp := fun vs H Q E => ∃ (wr : Int) (g a : Addr) (gr : GGrd) (z : Str) (r : List V), vs = [.int wr, .ref g, .ref a] ∧ GrdG K H g gr ∧ GrOk gr ∧ SqT K H a (.str z :: r) ∧
  (isWear z → topG gr ≠ none → wr = 0 → ∀ H' d, Same H H' → H d = none → H' d = some (.xd [("at", .int 0)]) → E (.ref cW) (some d) H') ∧
  ((isWear z → topG gr ≠ none → wr ≠ 0) → ∀ H', Same H H' → Q (.int (if isWear z ∧ topG gr ≠ none then wr - 1 else wr)) H')
theorem ok_wear_behind {f cW fW : Addr} {fd : FuncData} (F : Fun K "wear_behind" "wear_behind" s_wear_behind f fd) (M : Blt mg) (TWorn : TWorn K mg cW fW) (C : CWearX P w K mg base fW) : FnOk P w K mg base (L2.CX P w) 4 f fd ["wear", "ground", "deed"] (spWearX K cW) := by
  refine F.okX sc_wear_behind (fun vs H Q E h => ?_) (fun cdv A outer s H vs Q E hr h => ?_)
  · obtain ⟨wr, g, a, gr, z, r, rfl, _⟩ := h
    rfl
  · obtain ⟨wr, g, a, gr, z, r, rfl, hg, ok, hs, kE, k⟩ := h
    refine ⟨_, (pss_cons (ps_if (PW.pt (pw_or (pt_not (pt_val (callH C.wears hr (by rfl) (pa_cons (pv 2) pa_nil)))) (pw_or1 (pt_cmpR op_isN (callH C.seen_on hr (by rfl) (pa_cons (pv 1) pa_nil)) pe_non (nomark _))))) (pss_one (ps_ret (pv 0))) pss_nil)
      (pss_cons (ps_if (pt_cmpR op_eq (pv 0) pe_int (nomark _)) (pss_one (ps_raise rfl (takes_of rfl rfl rfl rfl) (C.mkWorn TWorn hr (by rfl)))) pss_nil)
      (pss_one (ps_ret (pe_op op_sub (pv 0) pe_int))))), ?_⟩
    simp only [tSeq, tIfS, tTest, tOp, tUn, tVar, tC, rI, rI0, rU, rEq, rNe, rIxL, rIxT, rIxS, tCB, tCons, tNil, tRet, tRetN, tAsg, gTup, gCons, gNil, gName, gSub, rSetL, tNext, tDrop, tLst, tTup, tCall, tIf, tB, tAnd, tOr, tNot, tSl, tPart, tNoPart, tM1, tM0, tBM, tBM0, tLcE, tForE, iRng1, iRng2, iTup, iList, iStr, tYes, wipe, startDef, cxK, noxK, exists_and_left, exists_eq_left', exists_eq_left, exists_eq_right, Option.some.injEq, V.int.injEq, V.ref.injEq, V.str.injEq, V.bl.injEq, List.cons.injEq, and_true, true_and, List.append_nil, List.map_cons, List.map_nil, List.length_cons, List.length_nil, List.replicate, List.nil_append, List.cons_append, List.set_cons_zero, List.set_cons_succ, List.getElem?_cons_zero, List.getElem?_cons_succ, decide_eq_true_eq, exists_const, Nat.reduceAdd, Nat.reduceSub, List.replicate_succ, List.replicate_zero, exists_prop, and_assoc, List.set_nil, rLenK, rTupK, rLstK, rReprK, rEqD, rNeD, rIn, rAll, rAppend, rCat, ↓reduceIte, Bool.false_eq_true, iEnumT, rSortedPO, rIsi, rRep, rReverse, tLstRg, tTupRg, tRg1, tRg2, rSlL, rSlT, rSortedI, rSlF, rCatF, rMax, tLc2E, rSortedL, rSortedT, gUnl, tPar, rReprX, tChain, tDNewK, tDisp, tPairs, tAndV, tNotV, tFd, sFd, tMeth, tMake, tMakeK, gStar, iZipM, iItems, tLock, tSpread, tDcE, tDGet, sDPut, tPar3, tNever, rIxD, tChain, iEnum, tDIn, tDNotIn, gHd, spWears, spSeenOn]
    refine ⟨z, r, hs, fun H1 s1 => ?_⟩
    by_cases iw : z = "scrape" ∨ z = "rub"
    · rw [decide_eq_true iw, if_neg (by decide)]
      refine ⟨gr, GrdG.same ok.flat hg s1, ok, fun v H2 s2 sv => ?_⟩
      cases e : topG gr with
      | none =>
        rw [e] at sv
        rw [if_pos (show v = V.non from sv)]
        have q := k (fun _ ne => absurd e ne) H2 (smT s1 s2)
        rw [if_neg (fun q => q.2 e)] at q
        exact q
      | some b =>
        rw [e] at sv
        obtain ⟨pa, _, rfl, _⟩ := Dp.tupInv (show Dp K H2 v (seenD b) from sv)
        rw [if_neg (by intro z; cases z)]
        have ne : topG gr ≠ none := by rw [e]; intro z; cases z
        refine ⟨rfl, ?_⟩
        by_cases w0 : wr = 0
        · rw [if_pos w0]
          refine worn_way TWorn fun d hd => kE iw ne w0 _ d (smT (smT s1 s2) (same_new hd)) (smFr (smT s1 s2) hd) upd_same
        · rw [if_neg w0]
          have q := k (fun _ _ => w0) H2 (smT s1 s2)
          rw [if_pos ⟨iw, ne⟩] at q
          exact q
    · rw [decide_eq_false iw, if_pos (by decide)]
      have q := k (fun i => absurd i iw) H1 s1
      rw [if_neg (fun q => iw q.1)] at q
      exact q
end

/-! ### a place's deeds, wearing ones too -/
theorem calmOk {P : Program} {w : World} {K : PySem.W.Frag} {mg : Str → Option Value} {base : Heap} {k : Nat} {f : Addr} {fd : FuncData} {ps : List Str} {sp sp' : Sp} (F : FnOk P w K mg base (L2.CX P w) k f fd ps sp)
    (h : ∀ vs H Q E, sp' vs H Q E → sp vs H Q (fun _ _ _ => False)) : FnOk P w K mg base CX0 k f fd ps sp' := by
  refine ⟨fun vs H Q E q => F.len _ _ _ _ (h _ _ _ _ q), fun A outer s H args us vs Q E hr e0 hb r q => codeAny_mono (F.run A outer s H args us vs Q _ hr e0 hb r (h _ _ _ _ q)) fun r s' told => ?_⟩
  match r, told with
  | .error e, ⟨_, _, _, _, _, _, _, _, _, _, _, _, q⟩ => exact q.elim
  | .ok (.ret u), told => exact told
  | .ok .next, told => exact told
  | .ok .brk, told => exact told
  | .ok .cont, told => exact told
section
variable {P : Program} {w : World} {K : PySem.W.Frag} {mg : Str → Option Value} {base : Heap} {cP cQ cW fW : Addr}
structure CTk (P : Program) (w : World) (K : PySem.W.Frag) (mg : Str → Option Value) (base : Heap) (cP cW : Addr) : Prop where
  wear_behind : HasX P w K mg base "wear_behind" 4 ["wear", "ground", "deed"] (spWearX K cW)
  ground_behind : Has P w K mg base "ground_behind" 5 ["ground", "palette", "deed"] (spGrB K cP)
/-- what is told behind a deed at x: the place stands so -/
def Done (K : PySem.W.Frag) (cP cQ : Addr) (H : Hp) (x p m f g : Addr) (inks : List Lay) (n : Nat) (Q : VK) (v : V) (wr : Int) (gr : Grd) : Prop :=
  ∀ g' H', (H g' = none ∨ g' = g) → PlaceAt K cP cQ H' x p m f g' inks wr gr n → (∀ a o, a ≠ x → H a = some o → H' a = some o) → Q v H'
/-- refused: an error that tells 0 -/
def Refused (cW : Addr) (H : Hp) (E : XK) : Prop := ∀ d H', Same H H' → H d = none → H' d = some (.xd [("at", .int 0)]) → E (.ref cW) (some d) H'
theorem Refused.same {cW : Addr} {H H1 : Hp} {E : XK} (s : Same H H1) (h : Refused cW H E) : Refused cW H1 E := fun d H' s' hd e => h d H' (smT s s') (smFr s hd) e
theorem Done.same {H H1 : Hp} {x p m f g : Addr} {inks : List Lay} {n : Nat} {Q : VK} {v : V} {wr : Int} {gr : Grd} (s : Same H H1) (h : Done K cP cQ H x p m f g inks n Q v wr gr) : Done K cP cQ H1 x p m f g inks n Q v wr gr := fun g' H' hg hQ fr =>
  h g' H' (hg.imp (smFr s) id) hQ fun a o ne e => fr a o ne (s a o e)
/-- a scrape or a rub of the tuple at a -/
def WornWay (K : PySem.W.Frag) (cP cQ cW : Addr) (H : Hp) (x p m f g a : Addr) (inks : List Lay) (wr : Int) (gr : Grd) (n : Nat) (Q : VK) (E : XK) : Prop :=
  ∃ us, WdAt K H a us ∧ ((topG (gG gr) = none ∧ Done K cP cQ H x p m f g inks n Q .non wr gr) ∨
    ∃ r i l, TopAt gr r i l ∧ ((wr ≠ 0 ∧ Done K cP cQ H x p m f g inks n Q .non (wr - 1) (mapP gr r.1 (wornY us i))) ∨ (wr = 0 ∧ Refused cW H E)))
theorem WornWay.same {H H1 : Hp} {x p m f g a : Addr} {inks : List Lay} {wr : Int} {gr : Grd} {n : Nat} {Q : VK} {E : XK} (s : Same H H1) (h : WornWay K cP cQ cW H x p m f g a inks wr gr n Q E) : WornWay K cP cQ cW H1 x p m f g a inks wr gr n Q E := by
  obtain ⟨us, wd, ⟨t, k⟩ | ⟨r, i, l, t, ⟨w0, k⟩ | ⟨w0, k⟩⟩⟩ := h
  · exact ⟨us, wd.same s, .inl ⟨t, k.same s⟩⟩
  · exact ⟨us, wd.same s, .inr ⟨r, i, l, t, .inl ⟨w0, k.same s⟩⟩⟩
  · exact ⟨us, wd.same s, .inr ⟨r, i, l, t, .inr ⟨w0, k.same s⟩⟩⟩
abbrev s_Place_take : Stmt := inClass (topS 53) 19
theorem sc_Place_take : FnScope ["self", "deed", "wear"] ["self", "deed"] (defScope s_Place_take) := ⟨rfl, rfl, rfl, by decide +kernel, rfl, by decide +kernel, by decide +kernel⟩

def spTakeX (K : PySem.W.Frag) (cP cQ cW : Addr) : Sp := fun vs H Q E => ∃ (x p m f g a : Addr) (inks : List Lay) (wr : Int) (gr : Grd) (n : Nat), vs = [.ref x, .ref a] ∧ PlaceAt K cP cQ H x p m f g inks wr gr n ∧ PlOk inks gr ∧
  ((∃ gr', PlW K H a inks gr gr' ∧ Done K cP cQ H x p m f g inks n Q .non wr gr') ∨ WornWay K cP cQ cW H x p m f g a inks wr gr n Q E)
theorem ok_Place_takeX {f : Addr} {fd : FuncData} (F : Fun K "_take" "Place._take" s_Place_take f fd) (M : Blt mg) (TPlace : TPlc K mg cQ) (C : CTk P w K mg base cP cW) : FnOk P w K mg base (L2.CX P w) 6 f fd ["self", "deed"] (spTakeX K cP cQ cW) := by
  refine F.okX sc_Place_take (fun vs H Q E h => ?_) (fun cdv A outer s H vs Q E hr h => ?_)
  · obtain ⟨x, p, m, f, g, a, inks, wr, gr, n, rfl, _⟩ := h
    rfl
  · obtain ⟨x, p, m, f, g, a, inks, wr, gr, n, rfl, hQ, ok, hw⟩ := h
    refine ⟨_, (pss_cons (ps_set (i := 2) sc_Place_take.nd rfl (by first | exact Or.inl rfl | exact Or.inr rfl) (callX C.wear_behind hr (takes_of rfl rfl rfl rfl) (by rfl) (pa_cons (fldC rfl TPlace.cl TPlace.n_wear (pv 0)) (pa_cons (fldC rfl TPlace.cl TPlace.n_ground (pv 0)) (pa_cons (pv 1) pa_nil)))))
      (pss_cons (stoC rfl TPlace.cl TPlace.n_ground (pv 0) (callH C.ground_behind hr (by rfl) (pa_cons (fldC rfl TPlace.cl TPlace.n_ground (pv 0)) (pa_cons (fldC rfl TPlace.cl TPlace.n_palette (pv 0)) (pa_cons (pv 1) pa_nil)))))
      (pss_one (stoC rfl TPlace.cl TPlace.n_wear (pv 0) (pv 2))))), ?_⟩
    obtain ⟨dx, hx⟩ := hQ.ob
    simp only [tSeq, tIfS, tTest, tOp, tUn, tVar, tC, rI, rI0, rU, rEq, rNe, rIxL, rIxT, rIxS, tCB, tCons, tNil, tRet, tRetN, tAsg, gTup, gCons, gNil, gName, gSub, rSetL, tNext, tDrop, tLst, tTup, tCall, tIf, tB, tAnd, tOr, tNot, tSl, tPart, tNoPart, tM1, tM0, tBM, tBM0, tLcE, tForE, iRng1, iRng2, iTup, iList, iStr, tYes, wipe, startDef, cxK, noxK, exists_and_left, exists_eq_left', exists_eq_left, exists_eq_right, Option.some.injEq, V.int.injEq, V.ref.injEq, V.str.injEq, V.bl.injEq, List.cons.injEq, and_true, true_and, List.append_nil, List.map_cons, List.map_nil, List.length_cons, List.length_nil, List.replicate, List.nil_append, List.cons_append, List.set_cons_zero, List.set_cons_succ, List.getElem?_cons_zero, List.getElem?_cons_succ, decide_eq_true_eq, exists_const, Nat.reduceAdd, Nat.reduceSub, List.replicate_succ, List.replicate_zero, exists_prop, and_assoc, List.set_nil, rLenK, rTupK, rLstK, rReprK, rEqD, rNeD, rIn, rAll, rAppend, rCat, ↓reduceIte, Bool.false_eq_true, iEnumT, rSortedPO, rIsi, rRep, rReverse, tLstRg, tTupRg, tRg1, tRg2, rSlL, rSlT, rSortedI, rSlF, rCatF, rMax, tLc2E, rSortedL, rSortedT, gUnl, tPar, rReprX, tChain, tDNewK, tDisp, tPairs, tAndV, tNotV, tFd, sFd, tMeth, tMake, tMakeK, gStar, iZipM, iItems, tLock, tSpread, tDcE, tDGet, sDPut, tPar3, tNever, rIxD, tChain, iEnum, tDIn, tDNotIn, gHd, spWearX, spGrB, tCallS, WE]
    -- behind the wear
    have fin : ∀ (wr' : Int) (gr' : Grd) (H1 : Hp), Same H H1 → gr'.map (·.1) = gr.map (·.1) → ∀ g' H2, (H1 g' = none ∨ g' = g) → Same H1 H2 → GrdG K H2 g' (gG gr') →
        ∀ H3, H3 = upd (upd H2 x (.ins cQ dx (placeF (.ref p) wr g' n))) x (.ins cQ dx (placeF (.ref p) wr' g' n)) →
        (H g' = none ∨ g' = g) ∧ PlaceAt K cP cQ H3 x p m f g' inks wr' gr' n ∧ (∀ a o, a ≠ x → H a = some o → H3 a = some o) := by
      intro wr' gr' H1 s1 en g' H2 hg' s2 gg H3 eH3
      have x2 := s2 _ _ (s1 _ _ hx)
      have s02 := smT s1 s2
      have x3 : H3 x = some (.ins cQ dx (placeF (.ref p) wr' g' n)) := by rw [eH3]; exact upd_same
      have fr : ∀ a o, a ≠ x → H2 a = some o → H3 a = some o := fun a o n e => by rw [eH3, upd_ne n, upd_ne n]; exact e
      have c3 := chgIns x2 fr
      have ngx : g' ≠ x := by
        obtain ⟨kvs, gd, _⟩ := gg
        exact ne_of gd x2 (by intro z; cases z)
      have npx : p ≠ x := by
        obtain ⟨dp, hp⟩ := hQ.pal.ob
        refine ne_of hp hx (by intro z; cases z)
      have nfx : f ≠ x := ne_of hQ.pal.fades hx (by intro z; cases z)
      have nS : ∀ {q}, q ≠ x → q ∉ [x] := fun h m => h (List.mem_singleton.mp m)
      exact ⟨hg'.imp (smFr s1) id, ⟨⟨dx, x3⟩, (hQ.pal.same s02).chg c3 (nS npx) (nS nfx), GrdG.chg (flat_gG _) gg c3 (nS ngx), by rw [en]; exact hQ.names⟩, fun a o n e => fr a o n (s02 a o e)⟩
    have way : ∀ (H1 : Hp) (wr' : Int) (gr' : Grd) (v : Int), v = wr' → Same H H1 → gr'.map (·.1) = gr.map (·.1) → GrdW K cP H1 p a (gG gr) (gG gr') → Done K cP cQ H x p m f g inks n Q .non wr' gr' →
        ∃ g_1, V.ref g = V.ref g_1 ∧ ∃ x_1, V.ref p = V.ref x_1 ∧ ∃ x_2, GrdG K H1 g_1 x_2 ∧ GrOk x_2 ∧ ∃ x_3, GrdW K cP H1 x_1 a x_2 x_3 ∧ ∀ (g' : Addr) (H' : Hp), H1 g' = none ∨ g' = g_1 → Same H1 H' → GrdG K H' g' x_3 →
          ∃ x_4 x_5, H' x = some (HO.ins cQ x_4 x_5) ∧ x_5.length < 1000 ∧ ∃ x_6 x_7, upd H' x (HO.ins cQ x_4 (putF (Str.ofString "_ground") (V.ref g') x_5)) x = some (HO.ins cQ x_6 x_7) ∧ x_7.length < 1000 ∧
            Q V.non (upd (upd H' x (HO.ins cQ x_4 (putF (Str.ofString "_ground") (V.ref g') x_5))) x (HO.ins cQ x_6 (putF (Str.ofString "_wear") (V.int v) x_7))) := by
      rintro H1 wr' gr' _ rfl s1 en gw k
      refine ⟨g, rfl, p, rfl, gG gr, hQ.grd.same s1, ok.gr, gG gr', gw, fun g' H2 hg' s2 gg => ⟨dx, _, s2 _ _ (s1 _ _ hx), by show 4 < 1000; decide, dx, _, upd_same, by show 4 < 1000; decide, ?_⟩⟩
      obtain ⟨q1, q2, q3⟩ := fin _ gr' H1 s1 en g' H2 hg' s2 gg _ rfl
      exact k g' _ q1 q2 q3
    rcases hw with ⟨gr', hw, k⟩ | ⟨us, wd, hc⟩
    · obtain ⟨z, us, sa, nw⟩ := hw.word
      refine ⟨dx, _, hx, _, pf_lw .., dx, _, hx, _, pf_lg .., wr, rfl, g, rfl, gG gr, hQ.grd, ok.gr, z, us, sa, fun iw => absurd iw nw, fun _ H1 s1 => ⟨dx, _, s1 _ _ hx, _, pf_lg .., dx, _, s1 _ _ hx, _, pf_lp .., ?_⟩⟩
      exact way H1 wr gr' _ (if_neg (fun q => nw q.1)) s1 hw.names ((hw.same s1).grd ok (hQ.pal.same s1)) k
    · obtain ⟨z, sa, iw⟩ := wd.word
      refine ⟨dx, _, hx, _, pf_lw .., dx, _, hx, _, pf_lg .., wr, rfl, g, rfl, gG gr, hQ.grd, ok.gr, z, us, sa, ?_, fun hne H1 s1 => ⟨dx, _, s1 _ _ hx, _, pf_lg .., dx, _, s1 _ _ hx, _, pf_lp .., ?_⟩⟩
      · intro _ ne w0 H' d s' hd e
        rcases hc with ⟨t, k⟩ | ⟨r, i, l, t, ⟨w1, k⟩ | ⟨w1, k⟩⟩
        · exact absurd t ne
        · exact absurd w0 w1
        · exact k d H' s' hd e
      · rcases hc with ⟨t, k⟩ | ⟨r, i, l, t, ⟨w1, k⟩ | ⟨w1, k⟩⟩
        · exact way H1 wr gr _ (if_neg (fun q => q.2 t)) s1 rfl ((wd.same s1).bare t) k
        · have ne : topG (gG gr) ≠ none := by rw [t.2.2.2]; intro z; cases z
          exact way H1 (wr - 1) _ _ (if_pos ⟨iw, ne⟩) s1 (mapP_names ..) ((wd.same s1).grd ok t) k
        · have ne : topG (gG gr) ≠ none := by rw [t.2.2.2]; intro z; cases z
          exact absurd w1 (hne iw ne)
end

/-! ### the methods -/
section
variable {P : Program} {w : World} {K : PySem.W.Frag} {mg : Str → Option Value} {base : Heap} {cP cQ cW : Addr}
def spPTake (K : PySem.W.Frag) (cP cQ : Addr) : Sp := fun vs H Q _ => ∃ (x p m f g a : Addr) (inks : List Lay) (wr : Int) (gr : Grd) (n : Nat), vs = [.ref x, .ref a] ∧ PlaceAt K cP cQ H x p m f g inks wr gr n ∧ PlOk inks gr ∧
  ∃ gr', PlW K H a inks gr gr' ∧ Done K cP cQ H x p m f g inks n Q .non wr gr'
theorem calm_take {f : Addr} {fd : FuncData} (F : FnOk P w K mg base (L2.CX P w) 6 f fd ["self", "deed"] (spTakeX K cP cQ cW)) : FnOk P w K mg base CX0 6 f fd ["self", "deed"] (spPTake K cP cQ) := by
  refine calmOk F fun vs H Q E h => ?_
  obtain ⟨x, p, m, f, g, a, inks, wr, gr, n, e, hQ, ok, hw⟩ := h
  exact ⟨x, p, m, f, g, a, inks, wr, gr, n, e, hQ, ok, .inl hw⟩
structure CLayP (P : Program) (w : World) (K : PySem.W.Frag) (mg : Str → Option Value) (base : Heap) (cP cQ : Addr) : Prop where
  checked : Has P w K mg base "checked" 4 ["deed", "palette"] (spChecked K cP)
  Place_take : HasM P w K mg base cQ "_take" 6 ["self", "deed"] (spPTake K cP cQ)
abbrev s_Place_lay : Stmt := inClass (topS 53) 7
theorem sc_Place_lay : FnScope ["self", "ink", "tag", "strength", "mark"] ["self", "ink", "tag", "strength"] (defScope s_Place_lay) := ⟨rfl, rfl, rfl, by decide +kernel, rfl, by decide +kernel, by decide +kernel⟩

def spPLay (K : PySem.W.Frag) (cP cQ : Addr) : Sp := fun vs H Q _ => ∃ (x p m f g : Addr) (inks : List Lay) (wr : Int) (gr : Grd) (n : Nat) (r : Str × List Lyr) (t : Str) (s : Int), vs = [.ref x, .str r.1, .str t, .int s] ∧ PlaceAt K cP cQ H x p m f g inks wr gr n ∧ PlOk inks gr ∧ r ∈ gr ∧ NmOk t ∧ 1 ≤ s ∧
  ∀ g' H', (H g' = none ∨ g' = g) → PlaceAt K cP cQ H' x p m f g' inks wr (layP gr r.1 (n, t, s)) (n + 1) → (∀ a o, a ≠ x → H a = some o → H' a = some o) → Q (.int n) H'
theorem ok_Place_lay {f : Addr} {fd : FuncData} (F : Fun K "lay" "Place.lay" s_Place_lay f fd) (M : Blt mg) (TPlace : TPlc K mg cQ) (C : CLayP P w K mg base cP cQ) : FnOk P w K mg base CX0 7 f fd ["self", "ink", "tag", "strength"] (spPLay K cP cQ) := by
  refine F.ok sc_Place_lay (fun vs H Q E h => ?_) (fun cdv A outer s H vs Q E hr h => ?_)
  · obtain ⟨x, p, m, f, g, inks, wr, gr, n, r, t, s, rfl, _⟩ := h
    rfl
  · obtain ⟨x, p, m, f, g, inks, wr, gr, n, r, t, s, rfl, hQ, ok, mr, ht, h1, k⟩ := h
    refine ⟨_, (pss_cons (ps_expr (callH C.checked hr (by rfl) (pa_cons (pe_tup (pa_cons pe_str (pa_cons (pv 1) (pa_cons (pv 2) (pa_cons (pv 3) pa_nil))))) (pa_cons (fldC rfl TPlace.cl TPlace.n_palette (pv 0)) pa_nil))))
      (pss_cons (ps_set (i := 4) sc_Place_lay.nd rfl (by first | exact Or.inl rfl | exact Or.inr rfl) (fldC rfl TPlace.cl TPlace.n_next_mark (pv 0)))
      (pss_cons (ps_expr (methC C.Place_take TPlace.cl hr (pv 0) (pa_cons (pe_tup (pa_cons pe_str (pa_cons (pv 1) (pa_cons (pe_tup (pa_cons (pv 2) (pa_cons (pv 4) pa_nil))) (pa_cons (pv 3) pa_nil))))) pa_nil)))
      (pss_cons (stoC rfl TPlace.cl TPlace.n_next_mark (pv 0) (pe_op op_add (pv 4) pe_int))
      (pss_one (ps_ret (pv 4))))))), ?_⟩
    obtain ⟨dx, hx⟩ := hQ.ob
    simp only [tSeq, tIfS, tTest, tOp, tUn, tVar, tC, rI, rI0, rU, rEq, rNe, rIxL, rIxT, rIxS, tCB, tCons, tNil, tRet, tRetN, tAsg, gTup, gCons, gNil, gName, gSub, rSetL, tNext, tDrop, tLst, tTup, tCall, tIf, tB, tAnd, tOr, tNot, tSl, tPart, tNoPart, tM1, tM0, tBM, tBM0, tLcE, tForE, iRng1, iRng2, iTup, iList, iStr, tYes, wipe, startDef, cxK, noxK, exists_and_left, exists_eq_left', exists_eq_left, exists_eq_right, Option.some.injEq, V.int.injEq, V.ref.injEq, V.str.injEq, V.bl.injEq, List.cons.injEq, and_true, true_and, List.append_nil, List.map_cons, List.map_nil, List.length_cons, List.length_nil, List.replicate, List.nil_append, List.cons_append, List.set_cons_zero, List.set_cons_succ, List.getElem?_cons_zero, List.getElem?_cons_succ, decide_eq_true_eq, exists_const, Nat.reduceAdd, Nat.reduceSub, List.replicate_succ, List.replicate_zero, exists_prop, and_assoc, List.set_nil, rLenK, rTupK, rLstK, rReprK, rEqD, rNeD, rIn, rAll, rAppend, rCat, ↓reduceIte, Bool.false_eq_true, iEnumT, rSortedPO, rIsi, rRep, rReverse, tLstRg, tTupRg, tRg1, tRg2, rSlL, rSlT, rSortedI, rSlF, rCatF, rMax, tLc2E, rSortedL, rSortedT, gUnl, tPar, rReprX, tChain, tDNewK, tDisp, tPairs, tAndV, tNotV, tFd, sFd, tMeth, tMake, tMakeK, gStar, iZipM, iItems, tLock, tSpread, tDcE, tDGet, sDPut, tPar3, tNever, rIxD, tChain, iEnum, tDIn, tDNotIn, gHd, spChecked, spPTake]
    refine ⟨by decide, fun q1 hq1 => ?_⟩
    have s1 : Same H (upd H q1 (.tup [.str "lay", .str r.1, .str t, .int s])) := same_new hq1
    have t1 : (upd H q1 (.tup [.str "lay", .str r.1, .str t, .int s])) q1 = some (.tup [.str "lay", .str r.1, .str t, .int s]) := upd_same
    generalize upd H q1 (.tup [.str "lay", .str r.1, .str t, .int s]) = H1 at s1 t1
    have hk : kindsOf "lay" = some (["ink", "tag", "amount"] : List Str) := by decide +kernel
    have mrn : r.1 ∈ inks.map (·.1) := by rw [← ok.nms]; exact List.mem_map.mpr ⟨r, mr, rfl⟩
    obtain ⟨lay, ml, el⟩ := List.mem_map.mp mrn
    have nm : NmOk r.1 := el ▸ (ok.iok.ok lay ml).1
    refine ⟨dx, _, s1 _ _ hx, _, pf_lp .., p, rfl, m, f, _, _, SqT.of t1, _, inks, hQ.pal.same s1, hk, rfl, by decide, ?_, fun H2 s2 => ⟨dx, _, s2 _ _ (s1 _ _ hx), _, pf_ln .., dx, _, s2 _ _ (s1 _ _ hx), rfl, by decide, fun q2 hq2 => ?_⟩⟩
    · intro i v kd e1 e2
      match i, e1, e2 with
      | 0, e1, e2 =>
        cases e1
        cases e2
        refine ⟨cl_nm nm, ?_⟩
        unfold kindB
        rw [if_pos rfl, nameB_tag nm, Bool.true_and]
        exact decide_eq_true (List.mem_map.mpr ⟨r.1, mrn, rfl⟩)
      | 1, e1, e2 =>
        cases e1
        cases e2
        refine ⟨cl_nm ht, ?_⟩
        unfold kindB
        rw [if_neg (by decide +kernel), if_pos rfl]
        exact nameB_tag ht
      | 2, e1, e2 =>
        cases e1
        cases e2
        refine ⟨.inr (.inl ⟨s, rfl⟩), ?_⟩
        unfold kindB
        rw [if_neg (by decide +kernel), if_neg (by decide +kernel)]
        exact decide_eq_true h1
      | i + 3, e1, _ => cases e1
    have s3 : Same H2 (upd H2 q2 (.tup [.str t, .int (n : Int)])) := same_new hq2
    have t3 : (upd H2 q2 (.tup [.str t, .int (n : Int)])) q2 = some (.tup [.str t, .int (n : Int)]) := upd_same
    generalize upd H2 q2 (.tup [.str t, .int (n : Int)]) = H3 at s3 t3
    refine ⟨by decide, fun q4 hq4 => ?_⟩
    have s4 : Same H3 (upd H3 q4 (.tup [.str "lay", .str r.1, .ref q2, .int s])) := same_new hq4
    have t4 : (upd H3 q4 (.tup [.str "lay", .str r.1, .ref q2, .int s])) q4 = some (.tup [.str "lay", .str r.1, .ref q2, .int s]) := upd_same
    generalize upd H3 q4 (.tup [.str "lay", .str r.1, .ref q2, .int s]) = H4 at s4 t4
    have s04 := smT s1 (smT s2 (smT s3 s4))
    refine ⟨p, m, f, g, inks, wr, gr, n, hQ.same s04, ok, _, .inl ⟨r, mr, (n, t, s), q2, SqT.of t4, SqT.of (s4 _ _ t3), rfl⟩, fun g' H5 hg' hQ5 fr5 => ?_⟩
    obtain ⟨dx5, hx5⟩ := hQ5.ob
    refine ⟨(n : Int), rfl, dx5, _, hx5, by show 4 < 1000; decide, ?_⟩
    generalize eH6 : upd H5 x _ = H6
    have x6 : H6 x = some (.ins cQ dx5 (placeF (.ref p) wr g' ((n + 1 : Nat) : Int))) := by rw [← eH6]; exact upd_same
    have fr6 : ∀ a o, a ≠ x → H5 a = some o → H6 a = some o := fun a o n e => by rw [← eH6, upd_ne n]; exact e
    have c6 := chgIns hx5 fr6
    have npx : p ≠ x := by
      obtain ⟨dp, hp⟩ := hQ5.pal.ob
      refine ne_of hp hx5 (by intro z; cases z)
    have nfx : f ≠ x := ne_of hQ5.pal.fades hx5 (by intro z; cases z)
    have ngx : g' ≠ x := by
      obtain ⟨kvs, gd, _⟩ := hQ5.grd
      exact ne_of gd hx5 (by intro z; cases z)
    have nS : ∀ {q}, q ≠ x → q ∉ [x] := fun h m => h (List.mem_singleton.mp m)
    exact k g' H6 (hg'.imp (smFr s04) id) ⟨⟨dx5, x6⟩, hQ5.pal.chg c6 (nS npx) (nS nfx), hQ5.grd.chg c6 (nS ngx), hQ5.names⟩ (fun a o n e => fr6 a o n (fr5 a o n (s04 a o e)))
theorem kd_ink {H : Hp} {inks : List Lay} {gr : Grd} (ok : PlOk inks gr) {r : Str × List Lyr} (mr : r ∈ gr) {n : Int} (h1 : 1 ≤ n) : ∀ (i : Nat) (v : V) (kd : Str), [V.str r.1, .int n][i]? = some v → (["ink", "amount"] : List Str)[i]? = some kd → Fd.Cl K H v ∧ kindB inks kd v = true := by
  have mrn : r.1 ∈ inks.map (·.1) := by rw [← ok.nms]; exact List.mem_map.mpr ⟨r, mr, rfl⟩
  obtain ⟨lay, ml, el⟩ := List.mem_map.mp mrn
  have nm : NmOk r.1 := el ▸ (ok.iok.ok lay ml).1
  intro i v kd e1 e2
  match i, e1, e2 with
  | 0, e1, e2 =>
    cases e1
    cases e2
    refine ⟨cl_nm nm, ?_⟩
    unfold kindB
    rw [if_pos rfl, nameB_tag nm, Bool.true_and]
    exact decide_eq_true (List.mem_map.mpr ⟨r.1, mrn, rfl⟩)
  | 1, e1, e2 =>
    cases e1
    cases e2
    refine ⟨.inr (.inl ⟨n, rfl⟩), ?_⟩
    unfold kindB
    rw [if_neg (by decide +kernel), if_neg (by decide +kernel)]
    exact decide_eq_true h1
  | i + 2, e1, _ => cases e1
abbrev s_Place_wash : Stmt := inClass (topS 53) 9
theorem sc_Place_wash : FnScope ["self", "ink", "n"] ["self", "ink", "n"] (defScope s_Place_wash) := ⟨rfl, rfl, rfl, by decide +kernel, rfl, by decide +kernel, by decide +kernel⟩

def spPWash (K : PySem.W.Frag) (cP cQ : Addr) : Sp := fun vs H Q _ => ∃ (x p m f g : Addr) (inks : List Lay) (wr : Int) (gr : Grd) (nx : Nat) (r : Str × List Lyr) (n : Int), vs = [.ref x, .str r.1, .int n] ∧ PlaceAt K cP cQ H x p m f g inks wr gr nx ∧ PlOk inks gr ∧ r ∈ gr ∧ 1 ≤ n ∧ n.natAbs < 2 ^ 300 ∧
  Done K cP cQ H x p m f g inks nx Q .non wr (lessP gr r.1 n)
theorem ok_Place_wash {f : Addr} {fd : FuncData} (F : Fun K "wash" "Place.wash" s_Place_wash f fd) (M : Blt mg) (TPlace : TPlc K mg cQ) (C : CLayP P w K mg base cP cQ) : FnOk P w K mg base CX0 7 f fd ["self", "ink", "n"] (spPWash K cP cQ) := by
  refine F.ok sc_Place_wash (fun vs H Q E h => ?_) (fun cdv A outer s H vs Q E hr h => ?_)
  · obtain ⟨x, p, m, f, g, inks, wr, gr, nx, r, n, rfl, _⟩ := h
    rfl
  · obtain ⟨x, p, m, f, g, inks, wr, gr, nx, r, n, rfl, hQ, ok, mr, h1, nb, k⟩ := h
    refine ⟨_, (pss_one (ps_expr (methC C.Place_take TPlace.cl hr (pv 0) (pa_cons (callH C.checked hr (by rfl) (pa_cons (pe_tup (pa_cons pe_str (pa_cons (pv 1) (pa_cons (pv 2) pa_nil)))) (pa_cons (fldC rfl TPlace.cl TPlace.n_palette (pv 0)) pa_nil))) pa_nil)))), ?_⟩
    obtain ⟨dx, hx⟩ := hQ.ob
    simp only [tSeq, tIfS, tTest, tOp, tUn, tVar, tC, rI, rI0, rU, rEq, rNe, rIxL, rIxT, rIxS, tCB, tCons, tNil, tRet, tRetN, tAsg, gTup, gCons, gNil, gName, gSub, rSetL, tNext, tDrop, tLst, tTup, tCall, tIf, tB, tAnd, tOr, tNot, tSl, tPart, tNoPart, tM1, tM0, tBM, tBM0, tLcE, tForE, iRng1, iRng2, iTup, iList, iStr, tYes, wipe, startDef, cxK, noxK, exists_and_left, exists_eq_left', exists_eq_left, exists_eq_right, Option.some.injEq, V.int.injEq, V.ref.injEq, V.str.injEq, V.bl.injEq, List.cons.injEq, and_true, true_and, List.append_nil, List.map_cons, List.map_nil, List.length_cons, List.length_nil, List.replicate, List.nil_append, List.cons_append, List.set_cons_zero, List.set_cons_succ, List.getElem?_cons_zero, List.getElem?_cons_succ, decide_eq_true_eq, exists_const, Nat.reduceAdd, Nat.reduceSub, List.replicate_succ, List.replicate_zero, exists_prop, and_assoc, List.set_nil, rLenK, rTupK, rLstK, rReprK, rEqD, rNeD, rIn, rAll, rAppend, rCat, ↓reduceIte, Bool.false_eq_true, iEnumT, rSortedPO, rIsi, rRep, rReverse, tLstRg, tTupRg, tRg1, tRg2, rSlL, rSlT, rSortedI, rSlF, rCatF, rMax, tLc2E, rSortedL, rSortedT, gUnl, tPar, rReprX, tChain, tDNewK, tDisp, tPairs, tAndV, tNotV, tFd, sFd, tMeth, tMake, tMakeK, gStar, iZipM, iItems, tLock, tSpread, tDcE, tDGet, sDPut, tPar3, tNever, rIxD, tChain, iEnum, tDIn, tDNotIn, gHd, spChecked, spPTake]
    refine ⟨dx, _, hx, by rfl, by decide, fun q1 hq1 => ?_⟩
    have s1 : Same H (upd H q1 (.tup [.str "wash", .str r.1, .int n])) := same_new hq1
    have t1 : (upd H q1 (.tup [.str "wash", .str r.1, .int n])) q1 = some (.tup [.str "wash", .str r.1, .int n]) := upd_same
    generalize upd H q1 (.tup [.str "wash", .str r.1, .int n]) = H1 at s1 t1
    have hk : kindsOf "wash" = some (["ink", "amount"] : List Str) := by decide +kernel
    refine ⟨dx, _, s1 _ _ hx, _, pf_lp .., p, rfl, m, f, _, _, SqT.of t1, _, inks, hQ.pal.same s1, hk, rfl, by decide, kd_ink ok mr h1, fun H2 s2 => ?_⟩
    have s02 := smT s1 s2
    refine ⟨p, m, f, g, inks, wr, gr, nx, hQ.same s02, ok, _, .inr (.inl ⟨r, mr, n, SqT.of (s2 _ _ t1), rfl⟩), k.same s02⟩
end

/-! ### palettes, equal or not; a press that may refuse -/
section
variable {P : Program} {w : World} {K : PySem.W.Frag} {mg : Str → Option Value} {base : Heap} {cP cQ cU : Addr}
/-- whether they are equal -/
def palE (a b : List Lay) : Bool := PyData.eqv (.list (a.map layD)) (.list (b.map layD))
abbrev s_Palette_eq : Stmt := inClass (topS 29) 6
theorem sc_Palette_eq : FnScope ["self", "other"] ["self", "other"] (defScope s_Palette_eq) := ⟨rfl, rfl, rfl, by decide +kernel, rfl, by decide +kernel, by decide +kernel⟩

def spPalEq (K : PySem.W.Frag) (cP : Addr) : Sp := fun vs H Q _ => ∃ (a b m f m' f' : Addr) (inks inks2 : List Lay), vs = [.ref a, .ref b] ∧ PalAt K cP H a m f inks ∧ PalAt K cP H b m' f' inks2 ∧ InksOk inks ∧ InksOk inks2 ∧ Q (.bl (palE inks inks2)) H
theorem nice_inks {inks : List Lay} (h : InksOk inks) : Nice (.list (inks.map layD)) := by
  have q := niceWs (n := 502) (k := 1) (ds := inks.map layD) fun d m => by
    obtain ⟨l, ml, rfl⟩ := List.mem_map.mp m
    exact ⟨niceW_lay ⟨(h.ok l ml).1.1, (h.ok l ml).2.2⟩, by simp [layD, PyData.depth, PyData.depthAll]⟩
  have := h.most
  refine (q.lst (by decide)).nice ?_
  rw [List.length_map]
  omega
theorem palE_refl {inks : List Lay} (h : InksOk inks) : palE inks inks = true := (nice_inks h).refl
theorem ok_Palette_eq {f : Addr} {fd : FuncData} (F : Fun K "__eq__" "Palette.__eq__" s_Palette_eq f fd) (M : Blt mg) (TPalette : TPal K mg cP) (gP : mg "Palette" = some (.ref cP)) : FnOk P w K mg base CX0 1 f fd ["self", "other"] (spPalEq K cP) := by
  refine F.ok sc_Palette_eq (fun vs H Q E h => ?_) (fun cdv A outer s H vs Q E hr h => ?_)
  · obtain ⟨a, b, m, f, m', f', inks, inks2, rfl, _⟩ := h
    rfl
  · obtain ⟨a, b, m, f, m', f', inks, inks2, rfl, h1, h2, ok, ok2, k⟩ := h
    refine ⟨_, (pss_one (ps_ret (pe_and (pe_callB (C8.call_isC TPalette.ins) (by rfl) M.isinstance (by decide +kernel) (pa_cons (pv 1) (pa_cons (pe_glob (v := .ref cP) (by rfl) gP rfl) pa_nil))) (pe_one (pe_cmpR (k_eqD (K := K) rfl hr.units) (fldC rfl TPalette.cl TPalette.n_made (pv 0)) (fldC rfl TPalette.cl TPalette.n_made (pv 1)) (nomark _)))))), ?_⟩
    obtain ⟨⟨dx, hx⟩, ⟨us, hm, al⟩, _⟩ := h1
    obtain ⟨⟨dy, hy⟩, ⟨us', hm', al'⟩, _⟩ := h2
    simp only [tSeq, tIfS, tTest, tOp, tUn, tVar, tC, rI, rI0, rU, rEq, rNe, rIxL, rIxT, rIxS, tCB, tCons, tNil, tRet, tRetN, tAsg, gTup, gCons, gNil, gName, gSub, rSetL, tNext, tDrop, tLst, tTup, tCall, tIf, tB, tAnd, tOr, tNot, tSl, tPart, tNoPart, tM1, tM0, tBM, tBM0, tLcE, tForE, iRng1, iRng2, iTup, iList, iStr, tYes, wipe, startDef, cxK, noxK, exists_and_left, exists_eq_left', exists_eq_left, exists_eq_right, Option.some.injEq, V.int.injEq, V.ref.injEq, V.str.injEq, V.bl.injEq, List.cons.injEq, and_true, true_and, List.append_nil, List.map_cons, List.map_nil, List.length_cons, List.length_nil, List.replicate, List.nil_append, List.cons_append, List.set_cons_zero, List.set_cons_succ, List.getElem?_cons_zero, List.getElem?_cons_succ, decide_eq_true_eq, exists_const, Nat.reduceAdd, Nat.reduceSub, List.replicate_succ, List.replicate_zero, exists_prop, and_assoc, List.set_nil, rLenK, rTupK, rLstK, rReprK, rEqD, rNeD, rIn, rAll, rAppend, rCat, ↓reduceIte, Bool.false_eq_true, iEnumT, rSortedPO, rIsi, rRep, rReverse, tLstRg, tTupRg, tRg1, tRg2, rSlL, rSlT, rSortedI, rSlF, rCatF, rMax, tLc2E, rSortedL, rSortedT, gUnl, tPar, rReprX, tChain, tDNewK, tDisp, tPairs, tAndV, tNotV, tFd, sFd, tMeth, tMake, tMakeK, gStar, iZipM, iItems, tLock, tSpread, tDcE, tDGet, sDPut, tPar3, tNever, rIxD, tChain, iEnum, tDIn, tDNotIn, gHd]
    refine ⟨dy, _, hy, dx, _, hx, _, rfl, dy, _, hy, _, rfl, _, .lst (SqL.of hm) al, _, .lst (SqL.of hm') al', (nice_inks ok).shaped, (nice_inks ok2).shaped, ?_⟩
    exact k
structure CRef (P : Program) (w : World) (K : PySem.W.Frag) (mg : Str → Option Value) (base : Heap) (cP : Addr) : Prop where
  eqP : HasO P w K mg base cP 1 (spPalEq K cP)
/-- class Unlike, which has no __init__ -/
structure TUnl (K : PySem.W.Frag) (mg : Str → Option Value) (cU : Addr) : Prop where
  ex : PySem.W.excIn K cU [.type "ValueError", .type "Exception", .type "BaseException", .type "object"] "ValueError.__new__" = true
  gl : mg "Unlike" = some (.ref cU)
  kp : PySem.W.keepIn K (.ref cU) = true
  sb : PySem.W.subIn K (.ref cU) (.type "BaseException") = some true
  ty : PySem.W.typeIn K (.ref cU) = some (.type "type")
theorem TUnl.rs {X : Cx} (T : TUnl X.K mg cU) : Raises X (.ref cU) := raises_own T.sb T.ty
abbrev s_refuse_unlike : Stmt := topS 30
theorem sc_refuse_unlike : FnScope ["one", "other"] ["one", "other"] (defScope s_refuse_unlike) := ⟨rfl, rfl, rfl, by decide +kernel, rfl, by decide +kernel, by decide +kernel⟩

def spRefuseX (K : PySem.W.Frag) (cP cU : Addr) : Sp := fun vs H Q E => ∃ (a b m f m' f' : Addr) (inks inks2 : List Lay), vs = [.ref a, .ref b] ∧ PalAt K cP H a m f inks ∧ PalAt K cP H b m' f' inks2 ∧ InksOk inks ∧ InksOk inks2 ∧
  ((palE inks inks2 = true ∧ Q .non H) ∨ (palE inks inks2 = false ∧ E (.ref cU) none H))
theorem ok_refuse_unlike {f : Addr} {fd : FuncData} (F : Fun K "refuse_unlike" "refuse_unlike" s_refuse_unlike f fd) (M : Blt mg) (TUnlike : TUnl K mg cU) (C : CRef P w K mg base cP) : FnOk P w K mg base (L2.CX P w) 3 f fd ["one", "other"] (spRefuseX K cP cU) := by
  refine F.okX sc_refuse_unlike (fun vs H Q E h => ?_) (fun cdv A outer s H vs Q E hr h => ?_)
  · obtain ⟨a, b, m, f, m', f', inks, inks2, rfl, _⟩ := h
    rfl
  · obtain ⟨a, b, m, f, m', f', inks, inks2, rfl, h1, h2, ok, ok2, k⟩ := h
    refine ⟨_, (pss_one (ps_if (pt_cmpR (op_neO C.eqP hr) (pv 0) (pv 1) (nomark _)) (pss_one (ps_raise rfl (takes_of rfl rfl rfl rfl) (pmk_own PySem.F.excBase_ValueError TUnlike.ex TUnlike.gl TUnlike.kp TUnlike.rs (by rfl)))) pss_nil)), ?_⟩
    obtain ⟨dx, hx⟩ := h1.ob
    obtain ⟨dy, hy⟩ := h2.ob
    simp only [tSeq, tIfS, tTest, tOp, tUn, tVar, tC, rI, rI0, rU, rEq, rNe, rIxL, rIxT, rIxS, tCB, tCons, tNil, tRet, tRetN, tAsg, gTup, gCons, gNil, gName, gSub, rSetL, tNext, tDrop, tLst, tTup, tCall, tIf, tB, tAnd, tOr, tNot, tSl, tPart, tNoPart, tM1, tM0, tBM, tBM0, tLcE, tForE, iRng1, iRng2, iTup, iList, iStr, tYes, wipe, startDef, cxK, noxK, exists_and_left, exists_eq_left', exists_eq_left, exists_eq_right, Option.some.injEq, V.int.injEq, V.ref.injEq, V.str.injEq, V.bl.injEq, List.cons.injEq, and_true, true_and, List.append_nil, List.map_cons, List.map_nil, List.length_cons, List.length_nil, List.replicate, List.nil_append, List.cons_append, List.set_cons_zero, List.set_cons_succ, List.getElem?_cons_zero, List.getElem?_cons_succ, decide_eq_true_eq, exists_const, Nat.reduceAdd, Nat.reduceSub, List.replicate_succ, List.replicate_zero, exists_prop, and_assoc, List.set_nil, rLenK, rTupK, rLstK, rReprK, rEqD, rNeD, rIn, rAll, rAppend, rCat, ↓reduceIte, Bool.false_eq_true, iEnumT, rSortedPO, rIsi, rRep, rReverse, tLstRg, tTupRg, tRg1, tRg2, rSlL, rSlT, rSortedI, rSlF, rCatF, rMax, tLc2E, rSortedL, rSortedT, gUnl, tPar, rReprX, tChain, tDNewK, tDisp, tPairs, tAndV, tNotV, tFd, sFd, tMeth, tMake, tMakeK, gStar, iZipM, iItems, tLock, tSpread, tDcE, tDGet, sDPut, tPar3, tNever, rIxD, tChain, iEnum, tDIn, tDNotIn, gHd, rNeO, spPalEq, tCallS, WE]
    refine ⟨_, _, _, hx, _, hy, m, f, m', f', inks, h1, inks2, h2, ok, ok2, ?_⟩
    rcases k with ⟨e, k⟩ | ⟨e, k⟩
    · rw [e, if_neg (by decide)]
      exact k
    · rw [e, if_pos (by decide)]
      exact k
abbrev s_pressed : Stmt := topS 50
theorem sc_pressed : FnScope ["seen", "ink", "tag", "strength"] ["seen"] (defScope s_pressed) := ⟨rfl, rfl, rfl, by decide +kernel, rfl, by decide +kernel, by decide +kernel⟩

def spPressed (K : PySem.W.Frag) : Sp := fun vs H Q _ => ∃ v, vs = [v] ∧ ((v = .non ∧ Q .non H) ∨ ∃ (ink t : Str) (s : Int), Dp K H v (.tuple [.str ink, .str t, .int s]) ∧ s.natAbs < 2 ^ 250 ∧ (s < 2 → Q .non H) ∧
  (2 ≤ s → ∀ a H', H a = none → Same H H' → H' a = some (.tup [.str ink, .str t, .int (s / 2)]) → Q (.ref a) H'))
theorem ok_pressed {f : Addr} {fd : FuncData} (F : Fun K "pressed" "pressed" s_pressed f fd) (M : Blt mg) : FnOk P w K mg base CX0 1 f fd ["seen"] (spPressed K) := by
  refine F.ok sc_pressed (fun vs H Q E h => ?_) (fun cdv A outer s H vs Q E hr h => ?_)
  · obtain ⟨v, rfl, _⟩ := h
    rfl
  · obtain ⟨v, rfl, h⟩ := h
    refine ⟨_, (pss_cons (ps_if (PW.pt (pw_or (pt_cmpR op_isN (pv 0) pe_non (nomark _)) (pw_or1 (pt_cmpR op_lt (pe_ix (k_ixT (K := K) rfl) (pv 0) pe_int (fun _ _ => rfl)) pe_int (nomark _))))) (pss_one (ps_ret pe_non)) pss_nil)
      (pss_cons (ps_asg (pv 0) (pg_tup (n := 3) (by rfl) (pgs_cons (pg_name (i := 1) sc_pressed.nd rfl (by first | exact Or.inl rfl | exact Or.inr rfl)) (pgs_cons (pg_name (i := 2) sc_pressed.nd rfl (by first | exact Or.inl rfl | exact Or.inr rfl)) (pgs_cons (pg_name (i := 3) sc_pressed.nd rfl (by first | exact Or.inl rfl | exact Or.inr rfl)) pgs_nil)))))
      (pss_one (ps_ret (pe_tup (pa_cons (pv 1) (pa_cons (pv 2) (pa_cons (pe_op op_fdiv (pv 3) pe_int) pa_nil)))))))), ?_⟩
    simp only [tSeq, tIfS, tTest, tOp, tUn, tVar, tC, rI, rI0, rU, rEq, rNe, rIxL, rIxT, rIxS, tCB, tCons, tNil, tRet, tRetN, tAsg, gTup, gCons, gNil, gName, gSub, rSetL, tNext, tDrop, tLst, tTup, tCall, tIf, tB, tAnd, tOr, tNot, tSl, tPart, tNoPart, tM1, tM0, tBM, tBM0, tLcE, tForE, iRng1, iRng2, iTup, iList, iStr, tYes, wipe, startDef, cxK, noxK, exists_and_left, exists_eq_left', exists_eq_left, exists_eq_right, Option.some.injEq, V.int.injEq, V.ref.injEq, V.str.injEq, V.bl.injEq, List.cons.injEq, and_true, true_and, List.append_nil, List.map_cons, List.map_nil, List.length_cons, List.length_nil, List.replicate, List.nil_append, List.cons_append, List.set_cons_zero, List.set_cons_succ, List.getElem?_cons_zero, List.getElem?_cons_succ, decide_eq_true_eq, exists_const, Nat.reduceAdd, Nat.reduceSub, List.replicate_succ, List.replicate_zero, exists_prop, and_assoc, List.set_nil, rLenK, rTupK, rLstK, rReprK, rEqD, rNeD, rIn, rAll, rAppend, rCat, ↓reduceIte, Bool.false_eq_true, iEnumT, rSortedPO, rIsi, rRep, rReverse, tLstRg, tTupRg, tRg1, tRg2, rSlL, rSlT, rSortedI, rSlF, rCatF, rMax, tLc2E, rSortedL, rSortedT, gUnl, tPar, rReprX, tChain, tDNewK, tDisp, tPairs, tAndV, tNotV, tFd, sFd, tMeth, tMake, tMakeK, gStar, iZipM, iItems, tLock, tSpread, tDcE, tDGet, sDPut, tPar3, tNever, rIxD, tChain, iEnum, tDIn, tDNotIn, gHd]
    rcases h with ⟨rfl, k⟩ | ⟨ink, t, s, dv, sb, k1, k2⟩
    · rw [if_pos rfl]
      exact k
    · obtain ⟨a, xs, rfl, sq, al⟩ := Dp.tupInv dv
      cases al with
      | cons h1 al =>
        cases al with
        | cons h2 al =>
          cases al with
          | cons h3 al =>
            cases al
            cases h1
            cases h2
            cases h3
            rw [if_neg (by intro z; cases z)]
            refine ⟨a, rfl, _, sq, _, atI_nat (j := 2) rfl, s, rfl, ?_⟩
            by_cases c : s < 2
            · rw [if_pos c]
              exact k1 c
            · rw [if_neg c]
              exact ⟨a, rfl, _, sq, rfl, _, _, rfl, _, _, rfl, _, _, rfl, rfl, s, rfl, ⟨by decide, by decide⟩, by decide, fun p hp => k2 (by omega) p _ hp (same_new hp) upd_same⟩
structure CPress (P : Program) (w : World) (K : PySem.W.Frag) (mg : Str → Option Value) (base : Heap) (cP cQ cU : Addr) : Prop where
  refuse_unlike : HasX P w K mg base "refuse_unlike" 3 ["one", "other"] (spRefuseX K cP cU)
  pressed : Has P w K mg base "pressed" 1 ["seen"] (spPressed K)
  Place_palette : HasM P w K mg base cQ "palette" 1 ["self"] (spPlP K cP cQ)
  Place_seen : HasM P w K mg base cQ "seen" 4 ["self"] (spPSeen K cP cQ)
  Place_lay_b : HasB P w K mg base cQ "lay" 7 (spPLay K cP cQ)
/-- what a pressing of gr2 lays on -/
def pressL (gr2 : Grd) (ink t : Str) (s : Int) : Prop := ∃ l : Lyr, topG (gG gr2) = some (ink, mG l) ∧ l.2.1 = t ∧ 2 ≤ l.2.2 ∧ s = l.2.2 / 2
abbrev s_Place_press : Stmt := inClass (topS 53) 15
theorem sc_Place_press : FnScope ["self", "other", "layer"] ["self", "other"] (defScope s_Place_press) := ⟨rfl, rfl, rfl, by decide +kernel, rfl, by decide +kernel, by decide +kernel⟩

def spPressX (K : PySem.W.Frag) (cP cQ cU : Addr) : Sp := fun vs H Q E => ∃ (x y p m f g p' m' f' g2 : Addr) (inks inks2 : List Lay) (wr wr2 : Int) (gr gr2 : Grd) (n n2 : Nat), vs = [.ref x, .ref y] ∧ PlaceAt K cP cQ H x p m f g inks wr gr n ∧ PlaceAt K cP cQ H y p' m' f' g2 inks2 wr2 gr2 n2 ∧
  PlOk inks gr ∧ PlOk inks2 gr2 ∧ ((palE inks inks2 = false ∧ E (.ref cU) none H) ∨ (palE inks inks2 = true ∧ (∀ r ∈ gr2, ∀ l ∈ r.2, NmOk l.2.1 ∧ l.2.2.natAbs < 2 ^ 250) ∧
  (((∀ (ink : Str) (l : Lyr), topG (gG gr2) = some (ink, mG l) → l.2.2 < 2) ∧ ∀ H', Same H H' → Q .non H') ∨
    ∃ r ∈ gr, ∃ (l : Lyr), topG (gG gr2) = some (r.1, mG l) ∧ 2 ≤ l.2.2 ∧ Done K cP cQ H x p m f g inks (n + 1) Q .non wr (layP gr r.1 (n, l.2.1, l.2.2 / 2)))))
def spPress (K : PySem.W.Frag) (cP cQ : Addr) : Sp := fun vs H Q _ => ∃ (x y p m f g p' m' f' g2 : Addr) (inks inks2 : List Lay) (wr wr2 : Int) (gr gr2 : Grd) (n n2 : Nat), vs = [.ref x, .ref y] ∧ PlaceAt K cP cQ H x p m f g inks wr gr n ∧ PlaceAt K cP cQ H y p' m' f' g2 inks2 wr2 gr2 n2 ∧
  PlOk inks gr ∧ PlOk inks2 gr2 ∧ palE inks inks2 = true ∧ (∀ r ∈ gr2, ∀ l ∈ r.2, NmOk l.2.1 ∧ l.2.2.natAbs < 2 ^ 250) ∧
  (((∀ (ink : Str) (l : Lyr), topG (gG gr2) = some (ink, mG l) → l.2.2 < 2) ∧ ∀ H', Same H H' → Q .non H') ∨
    ∃ r ∈ gr, ∃ (l : Lyr), topG (gG gr2) = some (r.1, mG l) ∧ 2 ≤ l.2.2 ∧ Done K cP cQ H x p m f g inks (n + 1) Q .non wr (layP gr r.1 (n, l.2.1, l.2.2 / 2)))
theorem calm_press {f : Addr} {fd : FuncData} (F : FnOk P w K mg base (L2.CX P w) 8 f fd ["self", "other"] (spPressX K cP cQ cU)) : FnOk P w K mg base CX0 8 f fd ["self", "other"] (spPress K cP cQ) := by
  refine calmOk F fun vs H Q E h => ?_
  obtain ⟨x, y, p, m, f, g, p', m', f', g2, inks, inks2, wr, wr2, gr, gr2, n, n2, e, hX, hY, ok, ok2, q⟩ := h
  exact ⟨x, y, p, m, f, g, p', m', f', g2, inks, inks2, wr, wr2, gr, gr2, n, n2, e, hX, hY, ok, ok2, .inr q⟩
theorem ok_Place_press {f : Addr} {fd : FuncData} (F : Fun K "press" "Place.press" s_Place_press f fd) (M : Blt mg) (TPlace : TPlc K mg cQ) (C : CPress P w K mg base cP cQ cU) : FnOk P w K mg base (L2.CX P w) 8 f fd ["self", "other"] (spPressX K cP cQ cU) := by
  refine F.okX sc_Place_press (fun vs H Q E h => ?_) (fun cdv A outer s H vs Q E hr h => ?_)
  · obtain ⟨x, y, p, m, f, g, p', m', f', g2, inks, inks2, wr, wr2, gr, gr2, n, n2, rfl, _⟩ := h
    rfl
  · obtain ⟨x, y, p, m, f, g, p', m', f', g2, inks, inks2, wr, wr2, gr, gr2, n, n2, rfl, hX, hY, ok, ok2, hc⟩ := h
    refine ⟨_, (pss_cons (ps_expr (callX C.refuse_unlike hr (takes_of rfl rfl rfl rfl) (by rfl) (pa_cons (fldC rfl TPlace.cl TPlace.n_palette (pv 0)) (pa_cons (methC0 C.Place_palette TPlace.cl hr (pv 1)) pa_nil))))
      (pss_cons (ps_set (i := 2) sc_Place_press.nd rfl (by first | exact Or.inl rfl | exact Or.inr rfl) (callH C.pressed hr (by rfl) (pa_cons (methC0 C.Place_seen TPlace.cl hr (pv 1)) pa_nil)))
      (pss_one (ps_if (pt_cmpR op_notN (pv 2) pe_non (nomark _)) (pss_one (ps_expr (methB C.Place_lay_b (pv 0) TPlace.cl hr (pv 2)))) pss_nil)))), ?_⟩
    obtain ⟨dx, hx⟩ := hX.ob
    obtain ⟨dy, hy⟩ := hY.ob
    simp only [tSeq, tIfS, tTest, tOp, tUn, tVar, tC, rI, rI0, rU, rEq, rNe, rIxL, rIxT, rIxS, tCB, tCons, tNil, tRet, tRetN, tAsg, gTup, gCons, gNil, gName, gSub, rSetL, tNext, tDrop, tLst, tTup, tCall, tIf, tB, tAnd, tOr, tNot, tSl, tPart, tNoPart, tM1, tM0, tBM, tBM0, tLcE, tForE, iRng1, iRng2, iTup, iList, iStr, tYes, wipe, startDef, cxK, noxK, exists_and_left, exists_eq_left', exists_eq_left, exists_eq_right, Option.some.injEq, V.int.injEq, V.ref.injEq, V.str.injEq, V.bl.injEq, List.cons.injEq, and_true, true_and, List.append_nil, List.map_cons, List.map_nil, List.length_cons, List.length_nil, List.replicate, List.nil_append, List.cons_append, List.set_cons_zero, List.set_cons_succ, List.getElem?_cons_zero, List.getElem?_cons_succ, decide_eq_true_eq, exists_const, Nat.reduceAdd, Nat.reduceSub, List.replicate_succ, List.replicate_zero, exists_prop, and_assoc, List.set_nil, rLenK, rTupK, rLstK, rReprK, rEqD, rNeD, rIn, rAll, rAppend, rCat, ↓reduceIte, Bool.false_eq_true, iEnumT, rSortedPO, rIsi, rRep, rReverse, tLstRg, tTupRg, tRg1, tRg2, rSlL, rSlT, rSortedI, rSlF, rCatF, rMax, tLc2E, rSortedL, rSortedT, gUnl, tPar, rReprX, tChain, tDNewK, tDisp, tPairs, tAndV, tNotV, tFd, sFd, tMeth, tMake, tMakeK, gStar, iZipM, iItems, tLock, tSpread, tDcE, tDGet, sDPut, tPar3, tNever, rIxD, tChain, iEnum, tDIn, tDNotIn, gHd, spRefuseX, spPlP, spPSeen, spPressed, spPLay, tMethB, tCallS, WE]
    rcases hc with ⟨e, k⟩ | ⟨e, nms, hc⟩
    · refine ⟨dx, _, hx, _, pf_lp .., dy, _, hy, rfl, p', m', f', g2, inks2, wr2, gr2, n2, hY, p, rfl, m, f, m', f', inks, hX.pal, inks2, hY.pal, ok.iok, ok2.iok, .inr ⟨e, ?_⟩⟩
      exact k
    refine ⟨dx, _, hx, _, pf_lp .., dy, _, hy, rfl, p', m', f', g2, inks2, wr2, gr2, n2, hY, p, rfl, m, f, m', f', inks, hX.pal, inks2, hY.pal, ok.iok, ok2.iok, .inl ⟨e, ?_⟩⟩
    refine ⟨dy, _, hy, rfl, p', m', f', g2, inks2, wr2, gr2, n2, hY, ok2, fun v H1 s1 sv => ?_⟩
    rcases sv with ⟨t0, rfl⟩ | ⟨ink, l, t0, dv⟩
    · refine .inl ⟨rfl, ?_⟩
      rw [if_neg (by simp)]
      rcases hc with ⟨_, k⟩ | ⟨r, mr, l, t1, _⟩
      · exact k _ s1
      · exact nomatch t0.symm.trans t1
    · have lmem : ∃ r ∈ gr2, r.1 = ink ∧ l ∈ r.2 := by
        obtain ⟨r, mr, er, ma⟩ := topG_mem t0
        obtain ⟨r', mr', rfl⟩ := List.mem_map.mp mr
        obtain ⟨l', ml, el⟩ := List.mem_map.mp ma
        have e2 : (.tuple [.str l'.2.1, .int l'.1], l'.2.2) = ((.tuple [.str l.2.1, .int l.1], l.2.2) : PyData × Int) := el
        have e3 : l' = l := by
          obtain ⟨a1, b1, c1⟩ := l'
          obtain ⟨a2, b2, c2⟩ := l
          simp at e2
          obtain ⟨⟨h1, h2⟩, h3⟩ := e2
          have h2' : a1 = a2 := by omega
          rw [h1, h2', h3]
        rw [e3] at ml
        exact ⟨r', mr', er, ml⟩
      obtain ⟨r2, mr2, er2, ml2⟩ := lmem
      obtain ⟨nmt, sb⟩ := nms r2 mr2 l ml2
      refine .inr ⟨ink, l.2.1, l.2.2, dv, sb, fun lt => ?_, fun ge a H2 ha s2 ha2 => ?_⟩
      · rw [if_neg (by simp)]
        rcases hc with ⟨_, k⟩ | ⟨r, mr, l', t1, g2', _⟩
        · exact k _ s1
        · have e := Option.some.inj (t0.symm.trans t1)
          have e2 := congrArg (fun q : Str × GLay => q.2.2) e
          have e3 : l.2.2 = l'.2.2 := e2
          omega
      · rw [if_pos (by simp)]
        rcases hc with ⟨no, _⟩ | ⟨r, mr, l', t1, _, k⟩
        · have := no ink l t0
          omega
        · have e := Option.some.inj (t0.symm.trans t1)
          have e1 : ink = r.1 := (Prod.mk.inj e).1
          have e2 : mG l = mG l' := (Prod.mk.inj e).2
          have s12 := smT s1 s2
          refine ⟨dx, _, s12 _ _ hx, by rfl, fun q g0 hq => ?_⟩
          have s3 : Same H2 (upd H2 q (.met g0 x)) := same_new hq
          have q3 : (upd H2 q (.met g0 x)) q = some (.met g0 x) := upd_same
          generalize upd H2 q (.met g0 x) = H3 at s3 q3
          have s03 := smT s12 s3
          have e4 : l.2.1 = l'.2.1 ∧ l.2.2 = l'.2.2 := by
            have e5 : (.tuple [.str l.2.1, .int l.1], l.2.2) = ((.tuple [.str l'.2.1, .int l'.1], l'.2.2) : PyData × Int) := e2
            simp at e5
            exact ⟨e5.1.1, e5.2⟩
          refine ⟨_, .inl (SqT.of (s3 _ _ ha2)), q3, p, m, f, g, inks, wr, gr, n, r, l.2.1, l.2.2 / 2, by rw [e1], hX.same s03, ok, mr, nmt, by omega, ?_⟩
          rw [e4.1, e4.2]
          exact k.same s03
end

/-! ### the draws of the laws on places -/
theorem join_len (cs : List Nat) : (Txt.join "" (cs.map sgn)).length = cs.length := by
  have e : Txt.join "" (cs.map sgn) = Str.join "" (cs.map sgn) := StrLaws.glued_eq_join _ _
  rw [e]
  have q := cps_join cs
  show (Str.join "" (cs.map sgn)).cps.size = _
  rw [← Array.length_toList, q]
theorem single_left {zs : List Str} (n : zs.length ≤ 20) : ∃ c r, abc.cps.toList.filter (fun c => notIn zs (sgn c)) = c :: r ∧ Letter c ∧ sgn c ∉ zs := by
  cases e : abc.cps.toList.filter (fun c => notIn zs (sgn c)) with
  | cons c r =>
    have m : c ∈ abc.cps.toList.filter (fun c => notIn zs (sgn c)) := by rw [e]; exact List.mem_cons_self ..
    obtain ⟨m1, m2⟩ := List.mem_filter.mp m
    rw [abc_cps] at m1
    obtain ⟨j, mj, rfl⟩ := List.mem_map.mp m1
    have := List.mem_range.mp mj
    refine ⟨_, r, rfl, ⟨by omega, by omega⟩, ?_⟩
    unfold notIn at m2
    rw [inV_strs] at m2
    simpa using m2
  | nil =>
    have all : ∀ x ∈ (List.range 26).map (fun c => sgn (c + 97)), x ∈ zs := fun x m => by
      obtain ⟨c, mc, rfl⟩ := List.mem_map.mp m
      have q := (List.filter_eq_nil_iff.mp e) (c + 97) (by rw [abc_cps]; exact List.mem_map.mpr ⟨c, mc, rfl⟩)
      unfold notIn at q
      rw [inV_strs] at q
      simpa using q
    have nd : ((List.range 26).map (fun c => sgn (c + 97))).Nodup := by
      refine List.Pairwise.map _ (fun a b h q => h ?_) List.nodup_range
      have : (#[a + 97] : Array Nat) = #[b + 97] := congrArg Str.cps q
      simp at this
      exact this
    have := pigeon zs _ nd all
    simp at this
    omega
section
variable {P : Program} {w : World} {K : PySem.W.Frag} {mg : Str → Option Value} {base : Heap}
abbrev s_at : Stmt := topS 55
theorem sc_at : FnScope ["_law_script", "_law_k"] ["_law_script", "_law_k"] (defScope s_at) := ⟨rfl, rfl, rfl, by decide +kernel, rfl, by decide +kernel, by decide +kernel⟩

def spAt (K : PySem.W.Frag) : Sp := fun vs H Q _ => ∃ (a : Addr) (ns : List Int) (j : Nat), vs = [.ref a, .int j] ∧ SqL K H a (ns.map V.int) ∧ ∀ c, Q (.int c) H
theorem ok_at {f : Addr} {fd : FuncData} (F : Fun K "_law_at" "_law_at" s_at f fd) (M : Blt mg) : FnOk P w K mg base CX0 1 f fd ["_law_script", "_law_k"] (spAt K) := by
  refine F.ok sc_at (fun vs H Q E h => ?_) (fun cdv A outer s H vs Q E hr h => ?_)
  · obtain ⟨a, ns, j, rfl, _⟩ := h
    rfl
  · obtain ⟨a, ns, j, rfl, hs, k⟩ := h
    refine ⟨_, (pss_cons (ps_if (pt_cmpR op_lt (pv 1) (pe_callB (k_len (K := K) rfl) (by rfl) M.len (by decide +kernel) (pa_cons (pv 0) pa_nil)) (nomark _)) (pss_one (ps_ret (pe_ix (k_ixL (K := K) rfl) (pv 0) (pv 1) (fun _ _ => rfl)))) pss_nil)
      (pss_one (ps_ret pe_int))), ?_⟩
    simp only [tSeq, tIfS, tTest, tOp, tUn, tVar, tC, rI, rI0, rU, rEq, rNe, rIxL, rIxT, rIxS, tCB, tCons, tNil, tRet, tRetN, tAsg, gTup, gCons, gNil, gName, gSub, rSetL, tNext, tDrop, tLst, tTup, tCall, tIf, tB, tAnd, tOr, tNot, tSl, tPart, tNoPart, tM1, tM0, tBM, tBM0, tLcE, tForE, iRng1, iRng2, iTup, iList, iStr, tYes, wipe, startDef, cxK, noxK, exists_and_left, exists_eq_left', exists_eq_left, exists_eq_right, Option.some.injEq, V.int.injEq, V.ref.injEq, V.str.injEq, V.bl.injEq, List.cons.injEq, and_true, true_and, List.append_nil, List.map_cons, List.map_nil, List.length_cons, List.length_nil, List.replicate, List.nil_append, List.cons_append, List.set_cons_zero, List.set_cons_succ, List.getElem?_cons_zero, List.getElem?_cons_succ, decide_eq_true_eq, exists_const, Nat.reduceAdd, Nat.reduceSub, List.replicate_succ, List.replicate_zero, exists_prop, and_assoc, List.set_nil, rLenK, rTupK, rLstK, rReprK, rEqD, rNeD, rIn, rAll, rAppend, rCat, ↓reduceIte, Bool.false_eq_true, iEnumT, rSortedPO, rIsi, rRep, rReverse, tLstRg, tTupRg, tRg1, tRg2, rSlL, rSlT, rSortedI, rSlF, rCatF, rMax, tLc2E, rSortedL, rSortedT, gUnl, tPar, rReprX, tChain, tDNewK, tDisp, tPairs, tAndV, tNotV, tFd, sFd, tMeth, tMake, tMakeK, gStar, iZipM, iItems, tLock, tSpread, tDcE, tDGet, sDPut, tPar3, tNever, rIxD, tChain, iEnum, tDIn, tDNotIn, gHd]
    refine ⟨_, .inl hs, ?_⟩
    by_cases hj : (j : Int) < ((ns.map V.int).length : Int)
    · rw [if_pos hj]
      have hj' : j < ns.length := by
        rw [List.length_map] at hj
        omega
      refine ⟨_, hs, .int ns[j], atI_nat (by rw [List.getElem?_map, List.getElem?_eq_getElem hj']; rfl), ?_⟩
      exact k _
    · rw [if_neg hj]
      exact k _
abbrev s_pot : Stmt := topS 56
theorem sc_pot : FnScope ["_law_cell"] ["_law_cell"] (defScope s_pot) := ⟨rfl, rfl, rfl, by decide +kernel, rfl, by decide +kernel, by decide +kernel⟩

def spPot : Sp := fun vs H Q _ => ∃ (c : Int), vs = [.int c] ∧ ∀ p H', H p = none → Same H H' → Pot H' p → Q (.ref p) H'
theorem ok_pot {f : Addr} {fd : FuncData} (F : Fun K "_law_pot" "_law_pot" s_pot f fd) (M : Blt mg) : FnOk P w K mg base CX0 1 f fd ["_law_cell"] spPot := by
  refine F.ok sc_pot (fun vs H Q E h => ?_) (fun cdv A outer s H vs Q E hr h => ?_)
  · obtain ⟨c, rfl, _⟩ := h
    rfl
  · obtain ⟨c, rfl, k⟩ := h
    refine ⟨_, (pss_one (ps_ret (pe_lst (pa_cons (pe_callB (call_max2 rfl) (by rfl) M.max (by decide +kernel) (pa_cons pe_int (pa_cons (pe_op op_sub (pv 0) (pe_op op_pow pe_int pe_int)) pa_nil))) (pa_cons (pe_op op_add (pe_op op_mod (pe_op op_pow (pe_op op_add (pe_op op_mod (pe_callB call_abs (by rfl) M.abs (by decide +kernel) (pa_cons (pv 0) pa_nil)) pe_int) pe_int) pe_int) pe_int) pe_int) pa_nil))))), ?_⟩
    simp only [tSeq, tIfS, tTest, tOp, tUn, tVar, tC, rI, rI0, rU, rEq, rNe, rIxL, rIxT, rIxS, tCB, tCons, tNil, tRet, tRetN, tAsg, gTup, gCons, gNil, gName, gSub, rSetL, tNext, tDrop, tLst, tTup, tCall, tIf, tB, tAnd, tOr, tNot, tSl, tPart, tNoPart, tM1, tM0, tBM, tBM0, tLcE, tForE, iRng1, iRng2, iTup, iList, iStr, tYes, wipe, startDef, cxK, noxK, exists_and_left, exists_eq_left', exists_eq_left, exists_eq_right, Option.some.injEq, V.int.injEq, V.ref.injEq, V.str.injEq, V.bl.injEq, List.cons.injEq, and_true, true_and, List.append_nil, List.map_cons, List.map_nil, List.length_cons, List.length_nil, List.replicate, List.nil_append, List.cons_append, List.set_cons_zero, List.set_cons_succ, List.getElem?_cons_zero, List.getElem?_cons_succ, decide_eq_true_eq, exists_const, Nat.reduceAdd, Nat.reduceSub, List.replicate_succ, List.replicate_zero, exists_prop, and_assoc, List.set_nil, rLenK, rTupK, rLstK, rReprK, rEqD, rNeD, rIn, rAll, rAppend, rCat, ↓reduceIte, Bool.false_eq_true, iEnumT, rSortedPO, rIsi, rRep, rReverse, tLstRg, tTupRg, tRg1, tRg2, rSlL, rSlT, rSortedI, rSlF, rCatF, rMax, tLc2E, rSortedL, rSortedT, gUnl, tPar, rReprX, tChain, tDNewK, tDisp, tPairs, tAndV, tNotV, tFd, sFd, tMeth, tMake, tMakeK, gStar, iZipM, iItems, tLock, tSpread, tDcE, tDGet, sDPut, tPar3, tNever, rIxD, tChain, iEnum, tDIn, tDNotIn, gHd]
    have m0 : 0 ≤ (if c < 0 then -c else c) % 2147483563 := Int.emod_nonneg _ (by decide)
    have m1 : (if c < 0 then -c else c) % 2147483563 < 2147483563 := Int.emod_lt_of_pos _ (by decide)
    refine ⟨⟨by decide, by decide, by decide⟩, by decide, ⟨by decide, by decide, by omega⟩, by decide, by decide, fun p hp => ?_⟩
    exact k _ _ hp (same_new hp) ⟨_, _, upd_same⟩
abbrev s_take : Stmt := topS 57
theorem sc_take : FnScope ["_law_pot_here", "_law_many", "_law_digit"] ["_law_pot_here", "_law_many"] (defScope s_take) := ⟨rfl, rfl, rfl, by decide +kernel, rfl, by decide +kernel, by decide +kernel⟩

def spTake : Sp := fun vs H Q _ => ∃ (p : Addr) (m : Int), vs = [.ref p, .int m] ∧ Pot H p ∧ 0 < m ∧ m.natAbs.log2 < 9000 ∧
  ∀ d H', 0 ≤ d → d < m → Fd.St (some p) H H' → Q (.int d) H'
theorem ok_take {f : Addr} {fd : FuncData} (F : Fun K "_law_take" "_law_take" s_take f fd) (M : Blt mg) : FnOk P w K mg base CX0 1 f fd ["_law_pot_here", "_law_many"] spTake := by
  refine F.ok sc_take (fun vs H Q E h => ?_) (fun cdv A outer s H vs Q E hr h => ?_)
  · obtain ⟨p, m, rfl, _⟩ := h
    rfl
  · obtain ⟨p, m, rfl, ⟨a, b, hp⟩, hm, hl, k⟩ := h
    have pp : Pot H p := ⟨a, b, hp⟩
    refine ⟨_, (pss_cons (ps_if (pt_cmpR op_gt (pe_ix (k_ixL (K := K) rfl) (pv 0) pe_int (fun _ _ => rfl)) pe_int (nomark _)) (pss_cons (ps_asg (pe_callB call_divmodW (by rfl) M.divmod (by decide +kernel) (pa_cons (pe_ix (k_ixL (K := K) rfl) (pv 0) pe_int (fun _ _ => rfl)) (pa_cons (pv 1) pa_nil))) (pg_tup (n := 2) (by rfl) (pgs_cons (pg_sub (pv 0) pe_int set_list) (pgs_cons (pg_name (i := 2) sc_take.nd rfl (by first | exact Or.inl rfl | exact Or.inr rfl)) pgs_nil))))
      (pss_one (ps_ret (pv 2)))) pss_nil)
      (pss_cons (ps_asg (pe_op op_mod (pe_op op_add (pe_op op_mul (pe_ix (k_ixL (K := K) rfl) (pv 0) pe_int (fun _ _ => rfl)) pe_int) pe_int) pe_int) (pg_sub (pv 0) pe_int set_list))
      (pss_one (ps_ret (pe_op op_mod (pe_op op_fdiv (pe_op op_mod (pe_op op_mul (pe_ix (k_ixL (K := K) rfl) (pv 0) pe_int (fun _ _ => rfl)) (pe_ix (k_ixL (K := K) rfl) (pv 0) pe_int (fun _ _ => rfl))) pe_int) pe_int) (pv 1)))))), ?_⟩
    simp only [tSeq, tIfS, tTest, tOp, tUn, tVar, tC, rI, rI0, rU, rEq, rNe, rIxL, rIxT, rIxS, tCB, tCons, tNil, tRet, tRetN, tAsg, gTup, gCons, gNil, gName, gSub, rSetL, tNext, tDrop, tLst, tTup, tCall, tIf, tB, tAnd, tOr, tNot, tSl, tPart, tNoPart, tM1, tM0, tBM, tBM0, tLcE, tForE, iRng1, iRng2, iTup, iList, iStr, tYes, wipe, startDef, cxK, noxK, exists_and_left, exists_eq_left', exists_eq_left, exists_eq_right, Option.some.injEq, V.int.injEq, V.ref.injEq, V.str.injEq, V.bl.injEq, List.cons.injEq, and_true, true_and, List.append_nil, List.map_cons, List.map_nil, List.length_cons, List.length_nil, List.replicate, List.nil_append, List.cons_append, List.set_cons_zero, List.set_cons_succ, List.getElem?_cons_zero, List.getElem?_cons_succ, decide_eq_true_eq, exists_const, Nat.reduceAdd, Nat.reduceSub, List.replicate_succ, List.replicate_zero, exists_prop, and_assoc, List.set_nil, rLenK, rTupK, rLstK, rReprK, rEqD, rNeD, rIn, rAll, rAppend, rCat, ↓reduceIte, Bool.false_eq_true, iEnumT, rSortedPO, rIsi, rRep, rReverse, tLstRg, tTupRg, tRg1, tRg2, rSlL, rSlT, rSortedI, rSlF, rCatF, rMax, tLc2E, rSortedL, rSortedT, gUnl, tPar, rReprX, tChain, tDNewK, tDisp, tPairs, tAndV, tNotV, tFd, sFd, tMeth, tMake, tMakeK, gStar, iZipM, iItems, tLock, tSpread, tDcE, tDGet, sDPut, tPar3, tNever, rIxD, tChain, iEnum, tDIn, tDNotIn, gHd]
    refine ⟨_, SqL.of hp, _, rfl, a, rfl, ?_⟩
    by_cases ha : 0 < a
    · rw [if_pos ha]
      refine ⟨_, SqL.of hp, _, rfl, a, rfl, ⟨hm, PyProof.noPylong_of_log2 hl⟩, fun t ht => ?_⟩
      have ne := pp.ne ht
      refine ⟨_, SqT.of upd_same, rfl, _, _, rfl, _, (upd_ne ne.symm).trans hp, 0, rfl, _, _, rfl, rfl, ?_⟩
      exact k _ _ (Int.emod_nonneg _ (by omega)) (Int.emod_lt_of_pos _ hm) (St.potSet (St.new pp.potO ht))
    · rw [if_neg ha]
      refine ⟨_, SqL.of hp, _, rfl, b, rfl, .inr (by decide), by decide, _, hp, 1, rfl, _, SqL.of upd_same, _, rfl, _, SqL.of upd_same, _, rfl, _, rfl, _, rfl, ?_⟩
      have c0 : 0 ≤ (b * 48271 + 9973) % 2147483647 := Int.emod_nonneg _ (by decide)
      have c1 : (b * 48271 + 9973) % 2147483647 < 2147483647 := Int.emod_lt_of_pos _ (by decide)
      refine ⟨.inl ⟨by omega, by omega⟩, by decide, ⟨by decide, by decide⟩, hm, ?_⟩
      exact k _ _ (Int.emod_nonneg _ (by omega)) (Int.emod_lt_of_pos _ hm) (St.potSet pp.rfl)
structure CTake (P : Program) (w : World) (K : PySem.W.Frag) (mg : Str → Option Value) (base : Heap) : Prop where
  take : Has P w K mg base "_law_take" 1 ["_law_pot_here", "_law_many"] spTake
abbrev s_word : Stmt := topS 58
theorem sc_word : FnScope ["_law_pot_here", "_law_found", "_law_letters", "_law_word_here", "_law_k", "_law_letter"] ["_law_pot_here", "_law_found"] (defScope s_word) := ⟨rfl, rfl, rfl, by decide +kernel, rfl, by decide +kernel, by decide +kernel⟩

def spWord : Sp := fun vs H Q _ => ∃ (p l : Addr) (zs : List Str), vs = [.ref p, .ref l] ∧ Pot H p ∧ H l = some (.lst (zs.map V.str)) ∧ l ≠ p ∧ zs.length ≤ 20 ∧ ∀ z H', NmOk z → z ∉ zs → Fd.St (some p) H H' → Q (.str z) H'
theorem ok_word {f : Addr} {fd : FuncData} (F : Fun K "_law_word" "_law_word" s_word f fd) (M : Blt mg) (C : CTake P w K mg base) : FnOk P w K mg base CX0 2 f fd ["_law_pot_here", "_law_found"] spWord := by
  refine F.ok sc_word (fun vs H Q E h => ?_) (fun cdv A outer s H vs Q E hr h => ?_)
  · obtain ⟨p, l, zs, rfl, _⟩ := h
    rfl
  · obtain ⟨p, l, zs, rfl, pp, hl, nlp, z20, k⟩ := h
    refine ⟨_, (pss_cons (ps_set (i := 2) sc_word.nd rfl (by first | exact Or.inl rfl | exact Or.inr rfl) pe_str)
      (pss_cons (ps_set (i := 3) sc_word.nd rfl (by first | exact Or.inl rfl | exact Or.inr rfl) (pe_join pe_str (pe_lc (own := [("_law_k", 4)]) (g := gName 4) (tt := tYes) rfl sc_word.nd (pi_range1 (by rfl) M.range (pa_cons (pe_op op_add pe_int (callH C.take hr (by rfl) (pa_cons (pv 0) (pa_cons pe_int pa_nil)))) pa_nil)) (blkOk_by (own := [("_law_k", 4)]) (N := ["_law_pot_here", "_law_found", "_law_letters", "_law_word_here", "_law_k", "_law_letter"]) (sc := defScope s_word) (by decide +kernel)) (fun _ _ _ _ _ => (pg_name (i := 4) sc_word.nd rfl (by first | exact Or.inl rfl | exact Or.inr rfl))) (fun _ _ _ _ _ => pts_nil) (fun _ _ _ _ _ => (pe_ix ix_str (pv 2) (callH C.take hr (by rfl) (pa_cons (pv 0) (pa_cons pe_int pa_nil))) (fun _ _ => rfl))))))
      (pss_cons (ps_if (pt_cmpR (k_in (K := K) rfl) (pv 3) (pv 1) (by rfl)) (pss_one (ps_set (i := 3) sc_word.nd rfl (by first | exact Or.inl rfl | exact Or.inr rfl) (pe_ix (k_ixL (K := K) rfl) (pe_lc (own := [("_law_letter", 5)]) (g := gName 5)  rfl sc_word.nd (pi_str (pv 2)) (blkOk_by (own := [("_law_letter", 5)]) (N := ["_law_pot_here", "_law_found", "_law_letters", "_law_word_here", "_law_k", "_law_letter"]) (sc := defScope s_word) (by decide +kernel)) (fun _ _ _ _ _ => (pg_name (i := 5) sc_word.nd rfl (by first | exact Or.inl rfl | exact Or.inr rfl))) (fun _ _ _ _ _ => (pts_one (pt_cmpR (k_notIn (K := K) rfl) (pv 5) (pv 1) (by rfl)))) (fun _ _ _ _ _ => (pv 5))) pe_int (fun _ _ => rfl)))) pss_nil)
      (pss_one (ps_ret (pv 3)))))), ?_⟩
    simp only [tSeq, tIfS, tTest, tOp, tUn, tVar, tC, rI, rI0, rU, rEq, rNe, rIxL, rIxT, rIxS, tCB, tCons, tNil, tRet, tRetN, tAsg, gTup, gCons, gNil, gName, gSub, rSetL, tNext, tDrop, tLst, tTup, tCall, tIf, tB, tAnd, tOr, tNot, tSl, tPart, tNoPart, tM1, tM0, tBM, tBM0, tLcE, tForE, iRng1, iRng2, iTup, iList, iStr, tYes, wipe, startDef, cxK, noxK, exists_and_left, exists_eq_left', exists_eq_left, exists_eq_right, Option.some.injEq, V.int.injEq, V.ref.injEq, V.str.injEq, V.bl.injEq, List.cons.injEq, and_true, true_and, List.append_nil, List.map_cons, List.map_nil, List.length_cons, List.length_nil, List.replicate, List.nil_append, List.cons_append, List.set_cons_zero, List.set_cons_succ, List.getElem?_cons_zero, List.getElem?_cons_succ, decide_eq_true_eq, exists_const, Nat.reduceAdd, Nat.reduceSub, List.replicate_succ, List.replicate_zero, exists_prop, and_assoc, List.set_nil, rLenK, rTupK, rLstK, rReprK, rEqD, rNeD, rIn, rAll, rAppend, rCat, ↓reduceIte, Bool.false_eq_true, iEnumT, rSortedPO, rIsi, rRep, rReverse, tLstRg, tTupRg, tRg1, tRg2, rSlL, rSlT, rSortedI, rSlF, rCatF, rMax, tLc2E, rSortedL, rSortedT, gUnl, tPar, rReprX, tChain, tDNewK, tDisp, tPairs, tAndV, tNotV, tFd, sFd, tMeth, tMake, tMakeK, gStar, iZipM, iItems, tLock, tSpread, tDcE, tDGet, sDPut, tPar3, tNever, rIxD, tChain, iEnum, tDIn, tDNotIn, gHd, spTake]
    refine ⟨⟨_, rfl⟩, ?_⟩
    refine ⟨pp, by decide, by decide, fun d H1 d0 d1 s1 => ⟨by omega, by omega, ?_⟩⟩
    have hl1 := s1.same l _ (fun z => nlp (Option.some.inj z)) hl
    refine lcRng (K := K) (some p) (fun i ds => ∃ cs : List Nat, ds = cs.map (fun c => PyData.str (sgn c)) ∧ cs.length = i ∧ ∀ c ∈ cs, Letter c) s1.pot (by omega) ⟨[], rfl, rfl, fun _ h => nomatch h⟩ (fun _ => rfl) ?_ ?_
    · rintro i Ha ds C hi sa fl ⟨cs, rfl, hl, hc⟩ go
      simp only [tSeq, tIfS, tTest, tOp, tUn, tVar, tC, rI, rI0, rU, rEq, rNe, rIxL, rIxT, rIxS, tCB, tCons, tNil, tRet, tRetN, tAsg, gTup, gCons, gNil, gName, gSub, rSetL, tNext, tDrop, tLst, tTup, tCall, tIf, tB, tAnd, tOr, tNot, tSl, tPart, tNoPart, tM1, tM0, tBM, tBM0, tLcE, tForE, iRng1, iRng2, iTup, iList, iStr, tYes, wipe, startDef, cxK, noxK, exists_and_left, exists_eq_left', exists_eq_left, exists_eq_right, Option.some.injEq, V.int.injEq, V.ref.injEq, V.str.injEq, V.bl.injEq, List.cons.injEq, and_true, true_and, List.append_nil, List.map_cons, List.map_nil, List.length_cons, List.length_nil, List.replicate, List.nil_append, List.cons_append, List.set_cons_zero, List.set_cons_succ, List.getElem?_cons_zero, List.getElem?_cons_succ, decide_eq_true_eq, exists_const, Nat.reduceAdd, Nat.reduceSub, List.replicate_succ, List.replicate_zero, exists_prop, and_assoc, List.set_nil, rLenK, rTupK, rLstK, rReprK, rEqD, rNeD, rIn, rAll, rAppend, rCat, ↓reduceIte, Bool.false_eq_true, iEnumT, rSortedPO, rIsi, rRep, rReverse, tLstRg, tTupRg, tRg1, tRg2, rSlL, rSlT, rSortedI, rSlF, rCatF, rMax, tLc2E, rSortedL, rSortedT, gUnl, tPar, rReprX, tChain, tDNewK, tDisp, tPairs, tAndV, tNotV, tFd, sFd, tMeth, tMake, tMakeK, gStar, iZipM, iItems, tLock, tSpread, tDcE, tDGet, sDPut, tPar3, tNever, rIxD, tChain, iEnum, tDIn, tDNotIn, gHd, spTake]
      refine ⟨sa.pt, by decide, by decide, fun e H2 e0 e1 s2 => ?_⟩
      obtain ⟨n, rfl⟩ : ∃ n : Nat, e = (n : Int) := ⟨e.toNat, by omega⟩
      have hn : n < 26 := by omega
      refine ⟨by decide +kernel, n + 97, atI_nat (abc_at hn), ?_⟩
      exact go _ _ (.str (sgn (n + 97))) s2 (by simp [flatT]) (.str _) ⟨cs ++ [n + 97], by simp, by simp [hl], fun c m => by
        rcases List.mem_append.mp m with m | m
        · exact hc c m
        · rw [List.mem_singleton.mp m]
          exact ⟨by omega, by omega⟩⟩
    · rintro D acc ds H' hD sD hD2 fl al ⟨cs, rfl, hn, hc⟩
      have e : acc = (cs.map sgn).map V.str := dps_strs_inv (by rw [List.map_map]; exact al)
      subst e
      simp only [tSeq, tIfS, tTest, tOp, tUn, tVar, tC, rI, rI0, rU, rEq, rNe, rIxL, rIxT, rIxS, tCB, tCons, tNil, tRet, tRetN, tAsg, gTup, gCons, gNil, gName, gSub, rSetL, tNext, tDrop, tLst, tTup, tCall, tIf, tB, tAnd, tOr, tNot, tSl, tPart, tNoPart, tM1, tM0, tBM, tBM0, tLcE, tForE, iRng1, iRng2, iTup, iList, iStr, tYes, wipe, startDef, cxK, noxK, exists_and_left, exists_eq_left', exists_eq_left, exists_eq_right, Option.some.injEq, V.int.injEq, V.ref.injEq, V.str.injEq, V.bl.injEq, List.cons.injEq, and_true, true_and, List.append_nil, List.map_cons, List.map_nil, List.length_cons, List.length_nil, List.replicate, List.nil_append, List.cons_append, List.set_cons_zero, List.set_cons_succ, List.getElem?_cons_zero, List.getElem?_cons_succ, decide_eq_true_eq, exists_const, Nat.reduceAdd, Nat.reduceSub, List.replicate_succ, List.replicate_zero, exists_prop, and_assoc, List.set_nil, rLenK, rTupK, rLstK, rReprK, rEqD, rNeD, rIn, rAll, rAppend, rCat, ↓reduceIte, Bool.false_eq_true, iEnumT, rSortedPO, rIsi, rRep, rReverse, tLstRg, tTupRg, tRg1, tRg2, rSlL, rSlT, rSortedI, rSlF, rCatF, rMax, tLc2E, rSortedL, rSortedT, gUnl, tPar, rReprX, tChain, tDNewK, tDisp, tPairs, tAndV, tNotV, tFd, sFd, tMeth, tMake, tMakeK, gStar, iZipM, iItems, tLock, tSpread, tDcE, tDGet, sDPut, tPar3, tNever, rIxD, tChain, iEnum, tDIn, tDNotIn, gHd]
      have nn : cs.length ≤ 8 ∧ 1 ≤ cs.length := by omega
      have hlH := sD.same l _ (fun z => nlp (Option.some.inj z)) hl1
      have sH := s1.trans sD
      have nm : NmOk (Txt.join "" (cs.map sgn)) := ⟨tag_join nn.1 hc, by rw [join_len]; exact nn.2⟩
      have fz : (zs.map V.str).all flatV = true := by simp [flatV]
      refine ⟨cs.map sgn, .inl (SqL.of hD2), ?_, zs.map V.str, .inl (SqL.of hlH), by rfl, fz, ?_⟩
      · show ((cs.map sgn).map (·.length)).sum + _ ≤ _
        rw [sgns_sum]
        have : (Str.ofString "").length = 0 := by decide
        rw [this]
        omega
      rw [inV_strs]
      by_cases mz : Txt.join "" (cs.map sgn) ∈ zs
      · rw [if_pos (decide_eq_true mz)]
        refine lcStrT (K := K) (some p) (fun i ds => ds = (((abc.cps.toList.take i).filter fun c => notIn zs (sgn c)).map sgn).map PyData.str) sD.pot (by show abc.length ≤ _; rw [abc_len]; decide) rfl (fun _ => rfl) ?_ ?_
        · rintro i c Ha ds C N hi sa fl rfl go skip
          have la := sa.same l _ (fun z => nlp (Option.some.inj z)) hlH
          have hi' : abc.cps.toList[i]? = some c := cps_get hi
          simp only [tSeq, tIfS, tTest, tOp, tUn, tVar, tC, rI, rI0, rU, rEq, rNe, rIxL, rIxT, rIxS, tCB, tCons, tNil, tRet, tRetN, tAsg, gTup, gCons, gNil, gName, gSub, rSetL, tNext, tDrop, tLst, tTup, tCall, tIf, tB, tAnd, tOr, tNot, tSl, tPart, tNoPart, tM1, tM0, tBM, tBM0, tLcE, tForE, iRng1, iRng2, iTup, iList, iStr, tYes, wipe, startDef, cxK, noxK, exists_and_left, exists_eq_left', exists_eq_left, exists_eq_right, Option.some.injEq, V.int.injEq, V.ref.injEq, V.str.injEq, V.bl.injEq, List.cons.injEq, and_true, true_and, List.append_nil, List.map_cons, List.map_nil, List.length_cons, List.length_nil, List.replicate, List.nil_append, List.cons_append, List.set_cons_zero, List.set_cons_succ, List.getElem?_cons_zero, List.getElem?_cons_succ, decide_eq_true_eq, exists_const, Nat.reduceAdd, Nat.reduceSub, List.replicate_succ, List.replicate_zero, exists_prop, and_assoc, List.set_nil, rLenK, rTupK, rLstK, rReprK, rEqD, rNeD, rIn, rAll, rAppend, rCat, ↓reduceIte, Bool.false_eq_true, iEnumT, rSortedPO, rIsi, rRep, rReverse, tLstRg, tTupRg, tRg1, tRg2, rSlL, rSlT, rSortedI, rSlF, rCatF, rMax, tLc2E, rSortedL, rSortedT, gUnl, tPar, rReprX, tChain, tDNewK, tDisp, tPairs, tAndV, tNotV, tFd, sFd, tMeth, tMake, tMakeK, gStar, iZipM, iItems, tLock, tSpread, tDcE, tDGet, sDPut, tPar3, tNever, rIxD, tChain, iEnum, tDIn, tDNotIn, gHd]
          refine ⟨_, .inl (SqL.of la), by rfl, fz, ?_⟩
          cases e : notIn zs (sgn c) with
          | true =>
            have e' : (!inV (V.str (sgn c)) (zs.map V.str)) = true := e
            rw [e', if_pos rfl]
            refine go _ _ (.str (sgn c)) (St.refl sa.pot) (by simp [flatT]) (.str _) ?_
            rw [take_succ_filter _ _ hi', if_pos e, List.map_append, List.map_append]
            rfl
          | false =>
            have e' : (!inV (V.str (sgn c)) (zs.map V.str)) = false := e
            rw [e', if_neg Bool.false_ne_true]
            refine skip _ (St.refl sa.pot) ?_
            rw [take_succ_filter _ _ hi', if_neg (by rw [e]; decide), List.append_nil]
        · rintro D2 acc2 ds2 H2 hD2' sD2 hl2 fl2 al2 rfl
          rw [List.take_of_length_le (by rw [cps_size]; exact Nat.le_refl _)] at al2
          have e := dps_strs_inv al2
          subst e
          obtain ⟨c, r, ec, lc, nc⟩ := single_left (zs := zs) z20
          rw [ec] at hl2
          simp only [tSeq, tIfS, tTest, tOp, tUn, tVar, tC, rI, rI0, rU, rEq, rNe, rIxL, rIxT, rIxS, tCB, tCons, tNil, tRet, tRetN, tAsg, gTup, gCons, gNil, gName, gSub, rSetL, tNext, tDrop, tLst, tTup, tCall, tIf, tB, tAnd, tOr, tNot, tSl, tPart, tNoPart, tM1, tM0, tBM, tBM0, tLcE, tForE, iRng1, iRng2, iTup, iList, iStr, tYes, wipe, startDef, cxK, noxK, exists_and_left, exists_eq_left', exists_eq_left, exists_eq_right, Option.some.injEq, V.int.injEq, V.ref.injEq, V.str.injEq, V.bl.injEq, List.cons.injEq, and_true, true_and, List.append_nil, List.map_cons, List.map_nil, List.length_cons, List.length_nil, List.replicate, List.nil_append, List.cons_append, List.set_cons_zero, List.set_cons_succ, List.getElem?_cons_zero, List.getElem?_cons_succ, decide_eq_true_eq, exists_const, Nat.reduceAdd, Nat.reduceSub, List.replicate_succ, List.replicate_zero, exists_prop, and_assoc, List.set_nil, rLenK, rTupK, rLstK, rReprK, rEqD, rNeD, rIn, rAll, rAppend, rCat, ↓reduceIte, Bool.false_eq_true, iEnumT, rSortedPO, rIsi, rRep, rReverse, tLstRg, tTupRg, tRg1, tRg2, rSlL, rSlT, rSortedI, rSlF, rCatF, rMax, tLc2E, rSortedL, rSortedT, gUnl, tPar, rReprX, tChain, tDNewK, tDisp, tPairs, tAndV, tNotV, tFd, sFd, tMeth, tMake, tMakeK, gStar, iZipM, iItems, tLock, tSpread, tDcE, tDGet, sDPut, tPar3, tNever, rIxD, tChain, iEnum, tDIn, tDNotIn, gHd]
          refine ⟨_, SqL.of hl2, _, atI_nat (j := 0) rfl, ?_⟩
          exact k _ _ ⟨⟨by show 1 ≤ 8; decide, fun x mx => by rw [show x = c by simpa using mx]; exact lc⟩, by show 1 ≤ 1; decide⟩ nc (sH.trans sD2)
      · rw [if_neg (by rw [decide_eq_false mz]; decide)]
        exact k _ _ nm mz sH
structure CWord (P : Program) (w : World) (K : PySem.W.Frag) (mg : Str → Option Value) (base : Heap) : Prop where
  word : Has P w K mg base "_law_word" 2 ["_law_pot_here", "_law_found"] spWord
abbrev s_words : Stmt := topS 59
theorem sc_words : FnScope ["_law_pot_here", "_law_many", "_law_found", "_law_k"] ["_law_pot_here", "_law_many"] (defScope s_words) := ⟨rfl, rfl, rfl, by decide +kernel, rfl, by decide +kernel, by decide +kernel⟩

def spWords : Sp := fun vs H Q _ => ∃ (p : Addr) (m : Nat), vs = [.ref p, .int m] ∧ Pot H p ∧ m ≤ 8 ∧
  ∀ l (zs : List Str) H', zs.length = m → (∀ z ∈ zs, NmOk z) → zs.Nodup → H l = none → H' l = some (.lst (zs.map V.str)) → Fd.St (some p) H H' → Q (.ref l) H'
theorem ok_words {f : Addr} {fd : FuncData} (F : Fun K "_law_words" "_law_words" s_words f fd) (M : Blt mg) (C : CWord P w K mg base) : FnOk P w K mg base CX0 3 f fd ["_law_pot_here", "_law_many"] spWords := by
  refine F.ok sc_words (fun vs H Q E h => ?_) (fun cdv A outer s H vs Q E hr h => ?_)
  · obtain ⟨p, m, rfl, _⟩ := h
    rfl
  · obtain ⟨p, m, rfl, pp, hm, k⟩ := h
    refine ⟨_, (pss_cons (ps_set (i := 2) sc_words.nd rfl (by first | exact Or.inl rfl | exact Or.inr rfl) (pe_lst pa_nil))
      (pss_cons (ps_for PassesOwn.never rfl (pi_range1 (by rfl) M.range (pa_cons (pv 1) pa_nil)) (pg_name (i := 3) sc_words.nd rfl (by first | exact Or.inl rfl | exact Or.inr rfl)) (pss_one (ps_expr (pe_bm PySem.F.plainAttrs_list PySem.F.slot_list_append PySem.F.type_list_append mt_append (pv 2) (pa_cons (callH C.word hr (by rfl) (pa_cons (pv 0) (pa_cons (pv 2) pa_nil))) pa_nil)))))
      (pss_one (ps_ret (pv 2))))), ?_⟩
    simp only [tSeq, tIfS, tTest, tOp, tUn, tVar, tC, rI, rI0, rU, rEq, rNe, rIxL, rIxT, rIxS, tCB, tCons, tNil, tRet, tRetN, tAsg, gTup, gCons, gNil, gName, gSub, rSetL, tNext, tDrop, tLst, tTup, tCall, tIf, tB, tAnd, tOr, tNot, tSl, tPart, tNoPart, tM1, tM0, tBM, tBM0, tLcE, tForE, iRng1, iRng2, iTup, iList, iStr, tYes, wipe, startDef, cxK, noxK, exists_and_left, exists_eq_left', exists_eq_left, exists_eq_right, Option.some.injEq, V.int.injEq, V.ref.injEq, V.str.injEq, V.bl.injEq, List.cons.injEq, and_true, true_and, List.append_nil, List.map_cons, List.map_nil, List.length_cons, List.length_nil, List.replicate, List.nil_append, List.cons_append, List.set_cons_zero, List.set_cons_succ, List.getElem?_cons_zero, List.getElem?_cons_succ, decide_eq_true_eq, exists_const, Nat.reduceAdd, Nat.reduceSub, List.replicate_succ, List.replicate_zero, exists_prop, and_assoc, List.set_nil, rLenK, rTupK, rLstK, rReprK, rEqD, rNeD, rIn, rAll, rAppend, rCat, ↓reduceIte, Bool.false_eq_true, iEnumT, rSortedPO, rIsi, rRep, rReverse, tLstRg, tTupRg, tRg1, tRg2, rSlL, rSlT, rSortedI, rSlF, rCatF, rMax, tLc2E, rSortedL, rSortedT, gUnl, tPar, rReprX, tChain, tDNewK, tDisp, tPairs, tAndV, tNotV, tFd, sFd, tMeth, tMake, tMakeK, gStar, iZipM, iItems, tLock, tSpread, tDcE, tDGet, sDPut, tPar3, tNever, rIxD, tChain, iEnum, tDIn, tDNotIn, gHd, spWord]
    refine ⟨by decide, fun l hl => ⟨by omega, by omega, ?_⟩⟩
    have nlp : some l ≠ some p := pp.potO.ne hl
    refine forRng (fun i σ H' => ∃ (zs : List Str) (a3 : Option V), σ = [some (.ref p), some (.int m), some (.ref l), a3] ∧ Fd.St (some p) H H' ∧
      H' l = some (.lst (zs.map V.str)) ∧ zs.length = i ∧ zs.Nodup ∧ ∀ z ∈ zs, NmOk z) ⟨[], none, rfl, St.new pp.potO hl, upd_same, rfl, List.nodup_nil, fun _ h => nomatch h⟩ ?_ ?_
    · rintro i σ Ha hi ⟨zs, a3, rfl, sa, la, hn, nd, zt⟩
      simp only [tSeq, tIfS, tTest, tOp, tUn, tVar, tC, rI, rI0, rU, rEq, rNe, rIxL, rIxT, rIxS, tCB, tCons, tNil, tRet, tRetN, tAsg, gTup, gCons, gNil, gName, gSub, rSetL, tNext, tDrop, tLst, tTup, tCall, tIf, tB, tAnd, tOr, tNot, tSl, tPart, tNoPart, tM1, tM0, tBM, tBM0, tLcE, tForE, iRng1, iRng2, iTup, iList, iStr, tYes, wipe, startDef, cxK, noxK, exists_and_left, exists_eq_left', exists_eq_left, exists_eq_right, Option.some.injEq, V.int.injEq, V.ref.injEq, V.str.injEq, V.bl.injEq, List.cons.injEq, and_true, true_and, List.append_nil, List.map_cons, List.map_nil, List.length_cons, List.length_nil, List.replicate, List.nil_append, List.cons_append, List.set_cons_zero, List.set_cons_succ, List.getElem?_cons_zero, List.getElem?_cons_succ, decide_eq_true_eq, exists_const, Nat.reduceAdd, Nat.reduceSub, List.replicate_succ, List.replicate_zero, exists_prop, and_assoc, List.set_nil, rLenK, rTupK, rLstK, rReprK, rEqD, rNeD, rIn, rAll, rAppend, rCat, ↓reduceIte, Bool.false_eq_true, iEnumT, rSortedPO, rIsi, rRep, rReverse, tLstRg, tTupRg, tRg1, tRg2, rSlL, rSlT, rSortedI, rSlF, rCatF, rMax, tLc2E, rSortedL, rSortedT, gUnl, tPar, rReprX, tChain, tDNewK, tDisp, tPairs, tAndV, tNotV, tFd, sFd, tMeth, tMake, tMakeK, gStar, iZipM, iItems, tLock, tSpread, tDcE, tDGet, sDPut, tPar3, tNever, rIxD, tChain, iEnum, tDIn, tDNotIn, gHd, spWord]
      refine ⟨.inl ⟨rfl, _, SqL.of la⟩, sa.pt, zs, la, fun z => nlp (congrArg some z), by omega, fun z H1 nz nin s1 => ?_⟩
      have la1 := s1.same l _ nlp la
      refine ⟨_, la1, by rw [List.length_map]; have : (100 : Nat) < sizeLine := by { decide }; omega, St.put pp.potO (sa.trans s1) hl, zs ++ [z], by rw [upd_same, List.map_append]; rfl, by simp [hn], ?_, fun w m => ?_⟩
      · rw [List.nodup_append]
        exact ⟨nd, by simp, fun a ma b mb => by rw [List.mem_singleton.mp mb]; exact fun q => nin (q ▸ ma)⟩
      · rcases List.mem_append.mp m with m | m
        · exact zt w m
        · rw [List.mem_singleton.mp m]
          exact nz
    · rintro σ H' ⟨zs, a3, rfl, sa, la, hn, nd, zt⟩
      simp only [tSeq, tIfS, tTest, tOp, tUn, tVar, tC, rI, rI0, rU, rEq, rNe, rIxL, rIxT, rIxS, tCB, tCons, tNil, tRet, tRetN, tAsg, gTup, gCons, gNil, gName, gSub, rSetL, tNext, tDrop, tLst, tTup, tCall, tIf, tB, tAnd, tOr, tNot, tSl, tPart, tNoPart, tM1, tM0, tBM, tBM0, tLcE, tForE, iRng1, iRng2, iTup, iList, iStr, tYes, wipe, startDef, cxK, noxK, exists_and_left, exists_eq_left', exists_eq_left, exists_eq_right, Option.some.injEq, V.int.injEq, V.ref.injEq, V.str.injEq, V.bl.injEq, List.cons.injEq, and_true, true_and, List.append_nil, List.map_cons, List.map_nil, List.length_cons, List.length_nil, List.replicate, List.nil_append, List.cons_append, List.set_cons_zero, List.set_cons_succ, List.getElem?_cons_zero, List.getElem?_cons_succ, decide_eq_true_eq, exists_const, Nat.reduceAdd, Nat.reduceSub, List.replicate_succ, List.replicate_zero, exists_prop, and_assoc, List.set_nil, rLenK, rTupK, rLstK, rReprK, rEqD, rNeD, rIn, rAll, rAppend, rCat, ↓reduceIte, Bool.false_eq_true, iEnumT, rSortedPO, rIsi, rRep, rReverse, tLstRg, tTupRg, tRg1, tRg2, rSlL, rSlT, rSortedI, rSlF, rCatF, rMax, tLc2E, rSortedL, rSortedT, gUnl, tPar, rReprX, tChain, tDNewK, tDisp, tPairs, tAndV, tNotV, tFd, sFd, tMeth, tMake, tMakeK, gStar, iZipM, iItems, tLock, tSpread, tDcE, tDGet, sDPut, tPar3, tNever, rIxD, tChain, iEnum, tDIn, tDNotIn, gHd]
      exact k l zs H' (by omega) zt nd hl la sa
abbrev s_amount : Stmt := topS 60
theorem sc_amount : FnScope ["_law_pot_here"] ["_law_pot_here"] (defScope s_amount) := ⟨rfl, rfl, rfl, by decide +kernel, rfl, by decide +kernel, by decide +kernel⟩

def spAmount : Sp := fun vs H Q _ => ∃ p : Addr, vs = [.ref p] ∧ Pot H p ∧ ∀ z H', 1 ≤ z → z ≤ 10 ^ 59 → Fd.St (some p) H H' → Q (.int z) H'
theorem ok_amount {f : Addr} {fd : FuncData} (F : Fun K "_law_amount" "_law_amount" s_amount f fd) (M : Blt mg) (C : CTake P w K mg base) : FnOk P w K mg base CX0 2 f fd ["_law_pot_here"] spAmount := by
  refine F.ok sc_amount (fun vs H Q E h => ?_) (fun cdv A outer s H vs Q E hr h => ?_)
  · obtain ⟨p, rfl, _⟩ := h
    rfl
  · obtain ⟨p, rfl, pp, k⟩ := h
    refine ⟨_, (pss_one (ps_ret (pe_op op_add pe_int (callH C.take hr (by rfl) (pa_cons (pv 0) (pa_cons (pe_ix (k_ixL (K := K) rfl) (pe_lst (pa_cons pe_int (pa_cons pe_int (pa_cons pe_int (pa_cons (pe_op op_pow pe_int pe_int) pa_nil))))) (callH C.take hr (by rfl) (pa_cons (pv 0) (pa_cons pe_int pa_nil))) (fun _ _ => rfl)) pa_nil)))))), ?_⟩
    simp only [tSeq, tIfS, tTest, tOp, tUn, tVar, tC, rI, rI0, rU, rEq, rNe, rIxL, rIxT, rIxS, tCB, tCons, tNil, tRet, tRetN, tAsg, gTup, gCons, gNil, gName, gSub, rSetL, tNext, tDrop, tLst, tTup, tCall, tIf, tB, tAnd, tOr, tNot, tSl, tPart, tNoPart, tM1, tM0, tBM, tBM0, tLcE, tForE, iRng1, iRng2, iTup, iList, iStr, tYes, wipe, startDef, cxK, noxK, exists_and_left, exists_eq_left', exists_eq_left, exists_eq_right, Option.some.injEq, V.int.injEq, V.ref.injEq, V.str.injEq, V.bl.injEq, List.cons.injEq, and_true, true_and, List.append_nil, List.map_cons, List.map_nil, List.length_cons, List.length_nil, List.replicate, List.nil_append, List.cons_append, List.set_cons_zero, List.set_cons_succ, List.getElem?_cons_zero, List.getElem?_cons_succ, decide_eq_true_eq, exists_const, Nat.reduceAdd, Nat.reduceSub, List.replicate_succ, List.replicate_zero, exists_prop, and_assoc, List.set_nil, rLenK, rTupK, rLstK, rReprK, rEqD, rNeD, rIn, rAll, rAppend, rCat, ↓reduceIte, Bool.false_eq_true, iEnumT, rSortedPO, rIsi, rRep, rReverse, tLstRg, tTupRg, tRg1, tRg2, rSlL, rSlT, rSortedI, rSlF, rCatF, rMax, tLc2E, rSortedL, rSortedT, gUnl, tPar, rReprX, tChain, tDNewK, tDisp, tPairs, tAndV, tNotV, tFd, sFd, tMeth, tMake, tMakeK, gStar, iZipM, iItems, tLock, tSpread, tDcE, tDGet, sDPut, tPar3, tNever, rIxD, tChain, iEnum, tDIn, tDNotIn, gHd, spTake]
    have big : (10 : Int) ^ Int.toNat 59 = 10 ^ 59 := by decide
    refine ⟨⟨by decide, by decide, by decide⟩, by decide, fun l hl => ?_⟩
    have nlp : some l ≠ some p := pp.potO.ne hl
    have s0 : Fd.St (some p) H (upd H l (.lst [.int 3, .int 3, .int 9, .int (10 ^ Int.toNat 59)])) := St.new pp.potO hl
    have l0 : (upd H l (.lst [.int 3, .int 3, .int 9, .int (10 ^ Int.toNat 59)])) l = some (.lst [.int 3, .int 3, .int 9, .int (10 ^ Int.toNat 59)]) := upd_same
    generalize upd H l (.lst [.int 3, .int 3, .int 9, .int (10 ^ Int.toNat 59)]) = H1 at s0 l0
    refine ⟨s0.pt, by decide, by decide, fun d H2 d0 d1 s1 => ?_⟩
    have l1 := s1.same l _ nlp l0
    have dd : d = 0 ∨ d = 1 ∨ d = 2 ∨ d = 3 := by omega
    rw [big] at l1
    have fin : ∀ m : Int, 0 < m → m.natAbs.log2 < 9000 → m ≤ 10 ^ 59 → atI [V.int 3, V.int 3, V.int 9, V.int (10 ^ 59)] d = some (.int m) →
        ∃ x, SqL K H2 l x ∧ ∃ x_1, atI x d = some x_1 ∧ ∃ x, x_1 = V.int x ∧ Pot H2 p ∧ 0 < x ∧ x.natAbs.log2 < 9000 ∧ ∀ (d : Int) (H'_1 : Hp), 0 ≤ d → d < x → Fd.St (some p) H2 H'_1 → Q (V.int (1 + d)) H'_1 :=
      fun m m0 ml mm e => ⟨_, SqL.of l1, _, e, m, rfl, s1.pt, m0, ml, fun e H3 e0 e1 s2 => k _ _ (by omega) (by omega) ((s0.trans s1).trans s2)⟩
    rcases dd with rfl | rfl | rfl | rfl
    · exact fin 3 (by decide) (by decide) (by decide) rfl
    · exact fin 3 (by decide) (by decide) (by decide) rfl
    · exact fin 9 (by decide) (by decide) (by decide) rfl
    · exact fin (10 ^ 59) (by decide) (by decide) (by decide) rfl
structure CInks (P : Program) (w : World) (K : PySem.W.Frag) (mg : Str → Option Value) (base : Heap) : Prop extends CTake P w K mg base where
  words : Has P w K mg base "_law_words" 3 ["_law_pot_here", "_law_many"] spWords
abbrev s_inks : Stmt := topS 61
theorem sc_inks : FnScope ["_law_pot_here", "_law_most", "_law_names", "_law_found", "_law_name"] ["_law_pot_here", "_law_most"] (defScope s_inks) := ⟨rfl, rfl, rfl, by decide +kernel, rfl, by decide +kernel, by decide +kernel⟩

def spInks (K : PySem.W.Frag) : Sp := fun vs H Q _ => ∃ (p : Addr) (m : Int), vs = [.ref p, .int m] ∧ Pot H p ∧ 1 ≤ m ∧ m ≤ 8 ∧
  ∀ l us (inks : List Lay) H', InksOk inks → (∀ i ∈ inks, i.2.natAbs < 2 ^ 240) → (inks.length : Int) ≤ m → H l = none → H' l = some (.lst us) → DpAll K H' us (inks.map layD) → Fd.St (some p) H H' → Q (.ref l) H'
theorem ok_inks {f : Addr} {fd : FuncData} (F : Fun K "_law_inks" "_law_inks" s_inks f fd) (M : Blt mg) (C : CInks P w K mg base) : FnOk P w K mg base CX0 4 f fd ["_law_pot_here", "_law_most"] (spInks K) := by
  refine F.ok sc_inks (fun vs H Q E h => ?_) (fun cdv A outer s H vs Q E hr h => ?_)
  · obtain ⟨p, m, rfl, _⟩ := h
    rfl
  · obtain ⟨p, m, rfl, pp, h1, h8, k⟩ := h
    refine ⟨_, (pss_cons (ps_set (i := 2) sc_inks.nd rfl (by first | exact Or.inl rfl | exact Or.inr rfl) (callH C.words hr (by rfl) (pa_cons (pv 0) (pa_cons (pe_op op_add pe_int (callH C.take hr (by rfl) (pa_cons (pv 0) (pa_cons (pv 1) pa_nil)))) pa_nil))))
      (pss_cons (ps_set (i := 3) sc_inks.nd rfl (by first | exact Or.inl rfl | exact Or.inr rfl) (pe_lst pa_nil))
      (pss_cons (ps_for PassesOwn.never rfl (pi_list (pv 2)) (pg_name (i := 4) sc_inks.nd rfl (by first | exact Or.inl rfl | exact Or.inr rfl)) (pss_one (ps_expr (pe_bm PySem.F.plainAttrs_list PySem.F.slot_list_append PySem.F.type_list_append mt_append (pv 3) (pa_cons (pe_tup (pa_cons (pv 4) (pa_cons (pe_ix (k_ixL (K := K) rfl) (pe_lst (pa_cons pe_int (pa_cons pe_int (pa_cons (callH C.take hr (by rfl) (pa_cons (pv 0) (pa_cons pe_int pa_nil))) (pa_cons (callH C.take hr (by rfl) (pa_cons (pv 0) (pa_cons (pe_op op_pow pe_int pe_int) pa_nil))) pa_nil))))) (callH C.take hr (by rfl) (pa_cons (pv 0) (pa_cons pe_int pa_nil))) (fun _ _ => rfl)) pa_nil))) pa_nil)))))
      (pss_one (ps_ret (pv 3)))))), ?_⟩
    simp only [tSeq, tIfS, tTest, tOp, tUn, tVar, tC, rI, rI0, rU, rEq, rNe, rIxL, rIxT, rIxS, tCB, tCons, tNil, tRet, tRetN, tAsg, gTup, gCons, gNil, gName, gSub, rSetL, tNext, tDrop, tLst, tTup, tCall, tIf, tB, tAnd, tOr, tNot, tSl, tPart, tNoPart, tM1, tM0, tBM, tBM0, tLcE, tForE, iRng1, iRng2, iTup, iList, iStr, tYes, wipe, startDef, cxK, noxK, exists_and_left, exists_eq_left', exists_eq_left, exists_eq_right, Option.some.injEq, V.int.injEq, V.ref.injEq, V.str.injEq, V.bl.injEq, List.cons.injEq, and_true, true_and, List.append_nil, List.map_cons, List.map_nil, List.length_cons, List.length_nil, List.replicate, List.nil_append, List.cons_append, List.set_cons_zero, List.set_cons_succ, List.getElem?_cons_zero, List.getElem?_cons_succ, decide_eq_true_eq, exists_const, Nat.reduceAdd, Nat.reduceSub, List.replicate_succ, List.replicate_zero, exists_prop, and_assoc, List.set_nil, rLenK, rTupK, rLstK, rReprK, rEqD, rNeD, rIn, rAll, rAppend, rCat, ↓reduceIte, Bool.false_eq_true, iEnumT, rSortedPO, rIsi, rRep, rReverse, tLstRg, tTupRg, tRg1, tRg2, rSlL, rSlT, rSortedI, rSlF, rCatF, rMax, tLc2E, rSortedL, rSortedT, gUnl, tPar, rReprX, tChain, tDNewK, tDisp, tPairs, tAndV, tNotV, tFd, sFd, tMeth, tMake, tMakeK, gStar, iZipM, iItems, tLock, tSpread, tDcE, tDGet, sDPut, tPar3, tNever, rIxD, tChain, iEnum, tDIn, tDNotIn, gHd, spTake, spWords]
    refine ⟨pp, by omega, Nat.lt_of_le_of_lt (Nat.log2_le_self _) (by omega), fun d H1 d0 d1 s1 => ⟨(1 + d).toNat, by omega, s1.pt, by omega, fun l zs H2 lz zn nd hl0 hl s2 => ⟨by decide, fun q hq => ⟨⟨_, SqL.of ((upd_ne (ne_of_none hl hq)).trans hl)⟩, ?_⟩⟩⟩⟩
    have s12 := s1.trans s2
    have nlp : some l ≠ some p := s1.pot.ne hl0
    have nqp : some q ≠ some p := s2.pot.ne hq
    have lq : l ≠ q := ne_of_none hl hq
    refine forLst (xs := zs.map V.str) (fun i σ H' => ∃ (us : List V) (inks : List Lay) (a4 : Option V), σ = [some (.ref p), some (.int m), some (.ref l), some (.ref q), a4] ∧ Fd.St (some p) H2 H' ∧
      H' q = some (.lst us) ∧ DpAll K H' us (inks.map layD) ∧ inks.map (·.1) = zs.take i ∧ ∀ x ∈ inks, 0 ≤ x.2 ∧ x.2.natAbs < 2 ^ 240) ⟨[], [], none, rfl, St.new s2.pot hq, upd_same, .nil, rfl, fun _ h => nomatch h⟩
      (fun i σ H' _ ⟨_, _, _, _, s, _⟩ => SqL.of (s.same l _ nlp hl)) ?_ ?_
    · rintro i x σ Ha hx ⟨us, inks, a4, rfl, sa, qa, al, en, ih⟩
      obtain ⟨z, ez, rfl⟩ : ∃ z, zs[i]? = some z ∧ x = V.str z := by
        rw [List.getElem?_map] at hx
        cases e : zs[i]? with
        | none => rw [e] at hx; cases hx
        | some z => rw [e] at hx; exact ⟨z, rfl, (Option.some.inj hx).symm⟩
      simp only [tSeq, tIfS, tTest, tOp, tUn, tVar, tC, rI, rI0, rU, rEq, rNe, rIxL, rIxT, rIxS, tCB, tCons, tNil, tRet, tRetN, tAsg, gTup, gCons, gNil, gName, gSub, rSetL, tNext, tDrop, tLst, tTup, tCall, tIf, tB, tAnd, tOr, tNot, tSl, tPart, tNoPart, tM1, tM0, tBM, tBM0, tLcE, tForE, iRng1, iRng2, iTup, iList, iStr, tYes, wipe, startDef, cxK, noxK, exists_and_left, exists_eq_left', exists_eq_left, exists_eq_right, Option.some.injEq, V.int.injEq, V.ref.injEq, V.str.injEq, V.bl.injEq, List.cons.injEq, and_true, true_and, List.append_nil, List.map_cons, List.map_nil, List.length_cons, List.length_nil, List.replicate, List.nil_append, List.cons_append, List.set_cons_zero, List.set_cons_succ, List.getElem?_cons_zero, List.getElem?_cons_succ, decide_eq_true_eq, exists_const, Nat.reduceAdd, Nat.reduceSub, List.replicate_succ, List.replicate_zero, exists_prop, and_assoc, List.set_nil, rLenK, rTupK, rLstK, rReprK, rEqD, rNeD, rIn, rAll, rAppend, rCat, ↓reduceIte, Bool.false_eq_true, iEnumT, rSortedPO, rIsi, rRep, rReverse, tLstRg, tTupRg, tRg1, tRg2, rSlL, rSlT, rSortedI, rSlF, rCatF, rMax, tLc2E, rSortedL, rSortedT, gUnl, tPar, rReprX, tChain, tDNewK, tDisp, tPairs, tAndV, tNotV, tFd, sFd, tMeth, tMake, tMakeK, gStar, iZipM, iItems, tLock, tSpread, tDcE, tDGet, sDPut, tPar3, tNever, rIxD, tChain, iEnum, tDIn, tDNotIn, gHd, spTake]
      have big : (10 : Int) ^ Int.toNat 30 = 10 ^ 30 := by decide
      refine ⟨.inl ⟨rfl, _, SqL.of qa⟩, sa.pt, by decide, by decide, fun d1 H3 d10 d11 s3 => ⟨⟨by decide, by decide, by decide⟩, s3.pt, by decide, by decide, fun d2 H4 d20 d21 s4 => ⟨by decide, fun b hb => ?_⟩⟩⟩
      rw [big] at d21
      have s34 := s3.trans s4
      have s5 : Fd.St (some p) H4 (upd H4 b (.lst [.int 0, .int 1, .int d1, .int d2])) := St.new s4.pot hb
      have nbp : some b ≠ some p := s4.pot.ne hb
      have b5 : (upd H4 b (.lst [.int 0, .int 1, .int d1, .int d2])) b = some (.lst [.int 0, .int 1, .int d1, .int d2]) := upd_same
      generalize upd H4 b (.lst [.int 0, .int 1, .int d1, .int d2]) = H5 at s5 b5
      refine ⟨s5.pt, by decide, by decide, fun d3 H6 d30 d31 s6 => ?_⟩
      have b6 := s6.same b _ nbp b5
      have s36 := s34.trans (s5.trans s6)
      have q6 := s36.same q _ nqp qa
      have al6 := dpsSt sa.pot s36 (flat_lays inks) al
      have line : (100 : Nat) < sizeLine := by decide
      have lenI : us.length ≤ 8 := by
        have e1 := lays_len al
        have e2 := congrArg List.length en
        simp at e2
        omega
      obtain ⟨v, v0, v1, ev⟩ : ∃ v : Int, 0 ≤ v ∧ v.natAbs < 2 ^ 240 ∧ atI [V.int 0, V.int 1, V.int d1, V.int d2] d3 = some (.int v) := by
        have dd : d3 = 0 ∨ d3 = 1 ∨ d3 = 2 ∨ d3 = 3 := by omega
        rcases dd with rfl | rfl | rfl | rfl
        · exact ⟨0, by decide, by decide, rfl⟩
        · exact ⟨1, by decide, by decide, rfl⟩
        · exact ⟨d1, d10, by omega, rfl⟩
        · exact ⟨d2, d20, by omega, rfl⟩
      refine ⟨_, SqL.of b6, _, ev, by decide, fun t ht => ?_⟩
      have nqt : q ≠ t := ne_of_none q6 ht
      have s7 : Fd.St (some p) H6 (upd H6 t (.tup [.str z, .int v])) := St.new s6.pot ht
      have t7 : (upd H6 t (.tup [.str z, .int v])) t = some (.tup [.str z, .int v]) := upd_same
      have q7 : (upd H6 t (.tup [.str z, .int v])) q = some (.lst us) := by rw [upd_ne nqt]; exact q6
      generalize upd H6 t (.tup [.str z, .int v]) = H7 at s7 t7 q7
      have s37 := s36.trans s7
      refine ⟨us, q7, by omega, St.put s2.pot (sa.trans s37) hq, _, upd_same, inks ++ [(z, v)], ?_, ?_, fun x mx => ?_⟩
      · rw [List.map_append]
        exact DpAll.app (DpAll.move (fun _ _ => tup_put q7) (flat_lays _) (dpsSt sa.pot s37 (flat_lays inks) al)) (.cons (Dp.move (fun _ _ => tup_put q7) (flat_lay _) (lay_mk (l := (z, v)) (SqT.of t7))) .nil)
      · rw [List.map_append, en, List.take_add_one, ez]
        rfl
      · rcases List.mem_append.mp mx with mx | mx
        · exact ih x mx
        · rw [List.mem_singleton.mp mx]
          exact ⟨v0, v1⟩
    · rintro σ H' ⟨us, inks, a4, rfl, sa, qa, al, en, ih⟩
      simp only [tSeq, tIfS, tTest, tOp, tUn, tVar, tC, rI, rI0, rU, rEq, rNe, rIxL, rIxT, rIxS, tCB, tCons, tNil, tRet, tRetN, tAsg, gTup, gCons, gNil, gName, gSub, rSetL, tNext, tDrop, tLst, tTup, tCall, tIf, tB, tAnd, tOr, tNot, tSl, tPart, tNoPart, tM1, tM0, tBM, tBM0, tLcE, tForE, iRng1, iRng2, iTup, iList, iStr, tYes, wipe, startDef, cxK, noxK, exists_and_left, exists_eq_left', exists_eq_left, exists_eq_right, Option.some.injEq, V.int.injEq, V.ref.injEq, V.str.injEq, V.bl.injEq, List.cons.injEq, and_true, true_and, List.append_nil, List.map_cons, List.map_nil, List.length_cons, List.length_nil, List.replicate, List.nil_append, List.cons_append, List.set_cons_zero, List.set_cons_succ, List.getElem?_cons_zero, List.getElem?_cons_succ, decide_eq_true_eq, exists_const, Nat.reduceAdd, Nat.reduceSub, List.replicate_succ, List.replicate_zero, exists_prop, and_assoc, List.set_nil, rLenK, rTupK, rLstK, rReprK, rEqD, rNeD, rIn, rAll, rAppend, rCat, ↓reduceIte, Bool.false_eq_true, iEnumT, rSortedPO, rIsi, rRep, rReverse, tLstRg, tTupRg, tRg1, tRg2, rSlL, rSlT, rSortedI, rSlF, rCatF, rMax, tLc2E, rSortedL, rSortedT, gUnl, tPar, rReprX, tChain, tDNewK, tDisp, tPairs, tAndV, tNotV, tFd, sFd, tMeth, tMake, tMakeK, gStar, iZipM, iItems, tLock, tSpread, tDcE, tDGet, sDPut, tPar3, tNever, rIxD, tChain, iEnum, tDIn, tDNotIn, gHd]
      rw [List.take_of_length_le (by simp)] at en
      have el : inks.length = zs.length := by
        have := congrArg List.length en
        simpa using this
      refine k q us inks H' ⟨fun x mx => ⟨zn _ (by rw [← en]; exact List.mem_map.mpr ⟨x, mx, rfl⟩), (ih x mx).1, Nat.lt_trans (ih x mx).2 (Nat.pow_lt_pow_right (by omega) (by omega))⟩, by rw [en]; exact nd, by omega, by omega⟩ (fun x mx => (ih x mx).2) (by omega) (St.free pp.potO s12 hq) qa al (s12.trans sa)
end

/-! ### the law's own model of a place -/
section
variable {P : Program} {w : World} {K : PySem.W.Frag} {mg : Str → Option Value} {base : Heap} {cP cQ : Addr}
abbrev s_model : Stmt := topS 62
theorem sc_model : FnScope ["_law_inks_here", "_law_lives", "_law_ink", "_law_fade"] ["_law_inks_here", "_law_lives"] (defScope s_model) := ⟨rfl, rfl, rfl, by decide +kernel, rfl, by decide +kernel, by decide +kernel⟩

def spModel (K : PySem.W.Frag) : Sp := fun vs H Q _ => ∃ (li : Addr) (inks : List Lay) (wr : Int), vs = [.ref li, .int wr] ∧ InksL K H li inks ∧ InksOk inks ∧
  ∀ mo rw H', H mo = none → H rw = none → mo ≠ rw → Same H H' → ModAt K H' mo rw li inks wr (inks.map fun i => (i.1, [])) 0 → Q (.ref mo) H'
theorem ok_model {f : Addr} {fd : FuncData} (F : Fun K "_law_model" "_law_model" s_model f fd) (M : Blt mg) : FnOk P w K mg base CX0 1 f fd ["_law_inks_here", "_law_lives"] (spModel K) := by
  refine F.ok sc_model (fun vs H Q E h => ?_) (fun cdv A outer s H vs Q E hr h => ?_)
  · obtain ⟨li, inks, wr, rfl, _⟩ := h
    rfl
  · obtain ⟨li, inks, wr, rfl, ⟨us, hl, al⟩, ok, k⟩ := h
    refine ⟨_, (pss_one (ps_ret (pe_disp (pps_cons pe_str (pv 0) (pps_cons pe_str (pv 1) (pps_cons pe_str pe_int (pps_cons pe_str (pe_callTy (call_dictP rfl) (by rfl) M.dict (by decide +kernel) (pa_cons (pe_lc (own := [("_law_ink", 2), ("_law_fade", 3)]) (g := gTup K 2 (gCons (gName 2) (gCons (gName 3) gNil))) (tt := tYes) rfl sc_model.nd (pi_list (pv 0)) (blkOk_by (own := [("_law_ink", 2), ("_law_fade", 3)]) (N := ["_law_inks_here", "_law_lives", "_law_ink", "_law_fade"]) (sc := defScope s_model) (by decide +kernel)) (fun _ _ _ _ _ => (pg_tup (n := 2) (by rfl) (pgs_cons (pg_name (i := 2) sc_model.nd rfl (by first | exact Or.inl rfl | exact Or.inr rfl)) (pgs_cons (pg_name (i := 3) sc_model.nd rfl (by first | exact Or.inl rfl | exact Or.inr rfl)) pgs_nil)))) (fun _ _ _ _ _ => pts_nil) (fun _ _ _ _ _ => (pe_tup (pa_cons (pv 2) (pa_cons (pe_lst pa_nil) pa_nil))))) pa_nil)) pps_nil)))) rfl rfl (by decide) (by decide)))), ?_⟩
    simp only [tSeq, tIfS, tTest, tOp, tUn, tVar, tC, rI, rI0, rU, rEq, rNe, rIxL, rIxT, rIxS, tCB, tCons, tNil, tRet, tRetN, tAsg, gTup, gCons, gNil, gName, gSub, rSetL, tNext, tDrop, tLst, tTup, tCall, tIf, tB, tAnd, tOr, tNot, tSl, tPart, tNoPart, tM1, tM0, tBM, tBM0, tLcE, tForE, iRng1, iRng2, iTup, iList, iStr, tYes, wipe, startDef, cxK, noxK, exists_and_left, exists_eq_left', exists_eq_left, exists_eq_right, Option.some.injEq, V.int.injEq, V.ref.injEq, V.str.injEq, V.bl.injEq, List.cons.injEq, and_true, true_and, List.append_nil, List.map_cons, List.map_nil, List.length_cons, List.length_nil, List.replicate, List.nil_append, List.cons_append, List.set_cons_zero, List.set_cons_succ, List.getElem?_cons_zero, List.getElem?_cons_succ, decide_eq_true_eq, exists_const, Nat.reduceAdd, Nat.reduceSub, List.replicate_succ, List.replicate_zero, exists_prop, and_assoc, List.set_nil, rLenK, rTupK, rLstK, rReprK, rEqD, rNeD, rIn, rAll, rAppend, rCat, ↓reduceIte, Bool.false_eq_true, iEnumT, rSortedPO, rIsi, rRep, rReverse, tLstRg, tTupRg, tRg1, tRg2, rSlL, rSlT, rSortedI, rSlF, rCatF, rMax, tLc2E, rSortedL, rSortedT, gUnl, tPar, rReprX, tChain, tDNewK, tDisp, tPairs, tAndV, tNotV, tFd, sFd, tMeth, tMake, tMakeK, gStar, iZipM, iItems, tLock, tSpread, tDcE, tDGet, sDPut, tPar3, tNever, rIxD, tChain, iEnum, tDIn, tDNotIn, gHd]
    have len := lays_len al
    have i8 := ok.most
    have line : (1000 : Nat) < sizeLine := by decide
    refine fun p hp => ⟨⟨us, SqL.of (by rw [upd_ne (ne_of_none hl hp)]; exact hl)⟩, ?_⟩
    have s0 : Same H (upd H p (.dK [])) := same_new hp
    have p0 : (upd H p (.dK [])) p = some (.dK []) := upd_same
    generalize upd H p (.dK []) = H0 at s0 p0
    intro D hD
    have hl0 := s0 _ _ hl
    have lD' : li ≠ D := ne_of_none hl0 hD
    refine lc_it (walk_list (xs := us)) (fun i H' => ∃ ps : List (Addr × Addr), H' D = some (.lst (ps.map fun q => V.ref q.1)) ∧ (∀ a o, a ≠ D → H0 a = some o → H' a = some o) ∧ H' p = some (.dK []) ∧
      Paired (fun (q : Addr × Addr) (r : Lay) => H' q.1 = some (.tup [.str r.1, .ref q.2]) ∧ H' q.2 = some (.lst []) ∧ q.2 ≠ D) ps (inks.take i)) ?_ ?_ ?_ ?_
    · exact ⟨[], upd_same, fun a o n e => by rw [upd_ne n]; exact e, by rw [upd_ne (ne_of_none p0 hD)]; exact p0, .nil⟩
    · rintro i H' _ ⟨ps, _, fr, _⟩
      exact SqL.of (fr _ _ lD' hl0)
    · rintro i x Ha H' hi ⟨ps, hd, fr, hpp, pr⟩ ⟨rfl, e⟩
      obtain ⟨lay, b, e3, rfl, sq, _⟩ := lays_get al e
      have sqa : SqT K H' b [.str lay.1, .int lay.2] := by
        have q := St.tup potN (St.ofSame potN s0) sq
        rcases q with (h | ⟨ob, h⟩) | h
        · exact Or.inl (Or.inl (fr _ _ (ne_of_none h hD) h))
        · exact Or.inl (Or.inr ⟨ob, fr _ _ (ne_of_none h hD) h⟩)
        · exact Or.inr h
      simp only [tSeq, tIfS, tTest, tOp, tUn, tVar, tC, rI, rI0, rU, rEq, rNe, rIxL, rIxT, rIxS, tCB, tCons, tNil, tRet, tRetN, tAsg, gTup, gCons, gNil, gName, gSub, rSetL, tNext, tDrop, tLst, tTup, tCall, tIf, tB, tAnd, tOr, tNot, tSl, tPart, tNoPart, tM1, tM0, tBM, tBM0, tLcE, tForE, iRng1, iRng2, iTup, iList, iStr, tYes, wipe, startDef, cxK, noxK, exists_and_left, exists_eq_left', exists_eq_left, exists_eq_right, Option.some.injEq, V.int.injEq, V.ref.injEq, V.str.injEq, V.bl.injEq, List.cons.injEq, and_true, true_and, List.append_nil, List.map_cons, List.map_nil, List.length_cons, List.length_nil, List.replicate, List.nil_append, List.cons_append, List.set_cons_zero, List.set_cons_succ, List.getElem?_cons_zero, List.getElem?_cons_succ, decide_eq_true_eq, exists_const, Nat.reduceAdd, Nat.reduceSub, List.replicate_succ, List.replicate_zero, exists_prop, and_assoc, List.set_nil, rLenK, rTupK, rLstK, rReprK, rEqD, rNeD, rIn, rAll, rAppend, rCat, ↓reduceIte, Bool.false_eq_true, iEnumT, rSortedPO, rIsi, rRep, rReverse, tLstRg, tTupRg, tRg1, tRg2, rSlL, rSlT, rSortedI, rSlF, rCatF, rMax, tLc2E, rSortedL, rSortedT, gUnl, tPar, rReprX, tChain, tDNewK, tDisp, tPairs, tAndV, tNotV, tFd, sFd, tMeth, tMake, tMakeK, gStar, iZipM, iItems, tLock, tSpread, tDcE, tDGet, sDPut, tPar3, tNever, rIxD, tChain, iEnum, tDIn, tDNotIn, gHd]
      refine ⟨_, sqa, rfl, _, _, rfl, _, _, rfl, rfl, by decide, fun l hl' => ⟨by decide, fun t ht => ?_⟩⟩
      have s1 : Same H' (upd H' l (.lst [])) := same_new hl'
      have l1 : (upd H' l (.lst [])) l = some (.lst []) := upd_same
      have nlD : l ≠ D := by
        rintro rfl
        rw [hd] at hl'
        cases hl'
      generalize upd H' l (.lst []) = H1 at s1 l1 ht
      have s2 : Same H1 (upd H1 t (.tup [.str lay.1, .ref l])) := same_new ht
      have t2 : (upd H1 t (.tup [.str lay.1, .ref l])) t = some (.tup [.str lay.1, .ref l]) := upd_same
      generalize upd H1 t (.tup [.str lay.1, .ref l]) = H2 at s2 t2
      have s12 := smT s1 s2
      have hd2 := s12 _ _ hd
      have ntD : t ≠ D := ne_of t2 hd2 (by intro z; cases z)
      have pl : ps.length = i := by
        have := paired_len pr
        rw [List.length_take] at this
        omega
      refine ⟨_, hd2, by rw [List.length_map]; omega, ps ++ [(t, l)], by rw [upd_same, List.map_append]; rfl, fun a o n e => by rw [upd_ne n]; exact s12 _ _ (fr a o n e), by rw [upd_ne (ne_of hpp hd (by intro z; cases z))]; exact s12 _ _ hpp, ?_⟩
      rw [List.take_add_one, e3]
      refine paired_snoc ⟨by rw [upd_ne ntD]; exact t2, by rw [upd_ne nlD]; exact s2 _ _ l1, nlD⟩ (pairedMem pr fun q r m h => ⟨?_, ?_, h.2.2⟩)
      · rw [upd_ne (ne_of h.1 hd (by intro z; cases z))]
        exact s12 _ _ h.1
      · rw [upd_ne h.2.2]
        exact s12 _ _ h.2.1
    · rintro H' ⟨ps, hd, fr, hpp, pr⟩
      have e : inks.take us.length = inks := List.take_of_length_le (by omega)
      rw [e] at pr
      obtain ⟨kvs, m1, m2, m3⟩ := made_rows (K := K) (pairedMem pr fun q r m h => ⟨h.1, h.2.1⟩)
      simp only [tSeq, tIfS, tTest, tOp, tUn, tVar, tC, rI, rI0, rU, rEq, rNe, rIxL, rIxT, rIxS, tCB, tCons, tNil, tRet, tRetN, tAsg, gTup, gCons, gNil, gName, gSub, rSetL, tNext, tDrop, tLst, tTup, tCall, tIf, tB, tAnd, tOr, tNot, tSl, tPart, tNoPart, tM1, tM0, tBM, tBM0, tLcE, tForE, iRng1, iRng2, iTup, iList, iStr, tYes, wipe, startDef, cxK, noxK, exists_and_left, exists_eq_left', exists_eq_left, exists_eq_right, Option.some.injEq, V.int.injEq, V.ref.injEq, V.str.injEq, V.bl.injEq, List.cons.injEq, and_true, true_and, List.append_nil, List.map_cons, List.map_nil, List.length_cons, List.length_nil, List.replicate, List.nil_append, List.cons_append, List.set_cons_zero, List.set_cons_succ, List.getElem?_cons_zero, List.getElem?_cons_succ, decide_eq_true_eq, exists_const, Nat.reduceAdd, Nat.reduceSub, List.replicate_succ, List.replicate_zero, exists_prop, and_assoc, List.set_nil, rLenK, rTupK, rLstK, rReprK, rEqD, rNeD, rIn, rAll, rAppend, rCat, ↓reduceIte, Bool.false_eq_true, iEnumT, rSortedPO, rIsi, rRep, rReverse, tLstRg, tTupRg, tRg1, tRg2, rSlL, rSlT, rSortedI, rSlF, rCatF, rMax, tLc2E, rSortedL, rSortedT, gUnl, tPar, rReprX, tChain, tDNewK, tDisp, tPairs, tAndV, tNotV, tFd, sFd, tMeth, tMake, tMakeK, gStar, iZipM, iItems, tLock, tSpread, tDcE, tDGet, sDPut, tPar3, tNever, rIxD, tChain, iEnum, tDIn, tDNotIn, gHd]
      refine ⟨ps.map (fun q => q.1), SqL.of (xs := (ps.map (fun q => q.1)).map V.ref) (by rw [List.map_map]; exact hd), kvs, m1, fun rw hrw => ?_⟩
      have ndk : (kvs.map (·.1)).Nodup := by
        rw [m3]
        have := ok.nd
        rw [List.Nodup, List.pairwise_map] at this ⊢
        exact this.imp fun n e => n (Sum.inr.inj e)
      rw [merge_nil ndk]
      have s1 : Same H' (upd H' rw (.dK kvs)) := same_new hrw
      have r1 : (upd H' rw (.dK kvs)) rw = some (.dK kvs) := upd_same
      generalize upd H' rw (.dK kvs) = H1 at s1 r1
      refine ⟨s1 _ _ hpp, modelK li wr 0 rw, rfl, by show 4 ≤ 15; decide, ?_⟩
      rw [mk_new]
      have nrp : rw ≠ p := by
        rintro rfl
        rw [hpp] at hrw
        cases hrw
      have hD0 : H D = none := smFr s0 hD
      have frA : ∀ a o, H a = some o → a ≠ p → (upd H1 p (.dK (modelK li wr 0 rw))) a = some o := fun a o e n => by
        rw [upd_ne n]
        exact s1 _ _ (fr _ _ (ne_of_none e hD0) (s0 _ _ e))
      have sF : Same H (upd H1 p (.dK (modelK li wr 0 rw))) := fun a o e => frA a o e (ne_of_none e hp)
      have hrw0 : H rw = none := by
        cases e : H rw with
        | none => rfl
        | some o =>
          have q := fr _ _ (ne_of_none e hD0) (s0 _ _ e)
          rw [hrw] at q
          cases q
      have c1 : Chg [p] H1 (upd H1 p (.dK (modelK li wr 0 rw))) := ⟨fun q m => by rw [List.mem_singleton.mp m]; exact ⟨_, s1 _ _ hpp, True.intro⟩, fun a o n e => by rw [upd_ne (fun z => n (by rw [z]; exact List.mem_singleton_self _))]; exact e⟩
      refine k p rw _ hp hrw0 (Ne.symm nrp) sF ⟨upd_same, ⟨us, sF _ _ hl, smDps sF (flat_lays _) al⟩, kvs, by rw [upd_ne nrp]; exact r1, pairedMem m2 fun _ _ _ q => LRel.chg c1 (LRel.same s1 q)⟩
abbrev s_put : Stmt := topS 63
theorem sc_put : FnScope ["_law_model_here", "_law_ink", "_law_tag", "_law_strength"] ["_law_model_here", "_law_ink", "_law_tag", "_law_strength"] (defScope s_put) := ⟨rfl, rfl, rfl, by decide +kernel, rfl, by decide +kernel, by decide +kernel⟩

def spPut (K : PySem.W.Frag) : Sp := fun vs H Q _ => ∃ (mo rw li : Addr) (inks : List Lay) (wr : Int) (gr : Grd) (n : Nat) (r : Str × List Lyr) (t : Str) (s : Int), vs = [.ref mo, .str r.1, .str t, .int s] ∧ ModAt K H mo rw li inks wr gr n ∧ r ∈ gr ∧ (gr.map (·.1)).Nodup ∧ gr.length ≤ 8 ∧ r.2.length ≤ 500 ∧ mo ≠ rw ∧
  ∀ H', ModAt K H' mo rw li inks wr (layP gr r.1 (n, t, s)) (n + 1) → (∀ a o, a ≠ mo → a ≠ rw → H a = some o → H' a = some o) → Q .non H'
theorem ok_put {f : Addr} {fd : FuncData} (F : Fun K "_law_put" "_law_put" s_put f fd) (M : Blt mg) : FnOk P w K mg base CX0 1 f fd ["_law_model_here", "_law_ink", "_law_tag", "_law_strength"] (spPut K) := by
  refine F.ok sc_put (fun vs H Q E h => ?_) (fun cdv A outer s H vs Q E hr h => ?_)
  · obtain ⟨mo, rw, li, inks, wr, gr, n, r, t, s, rfl, _⟩ := h
    rfl
  · obtain ⟨mo, rw, li, inks, wr, gr, n, r, t, s, rfl, hm, mr, nd, g8, l5, nmr, k⟩ := h
    have hu := hu_of hr
    refine ⟨_, (pss_cons (ps_dput hu (pe_dget hu (pv 0) pe_str (fun _ _ => rfl)) (pv 1) (pe_op op_cat (pe_dget hu (pe_dget hu (pv 0) pe_str (fun _ _ => rfl)) (pv 1) (fun _ _ => rfl)) (pe_lst (pa_cons (pe_tup (pa_cons (pe_dget hu (pv 0) pe_str (fun _ _ => rfl)) (pa_cons (pv 2) (pa_cons (pv 3) pa_nil)))) pa_nil))) (by rfl))
      (pss_one (ps_dput hu (pv 0) pe_str (pe_op op_add (pe_dget hu (pv 0) pe_str (fun _ _ => rfl)) pe_int) (by rfl)))), ?_⟩
    simp only [tSeq, tIfS, tTest, tOp, tUn, tVar, tC, rI, rI0, rU, rEq, rNe, rIxL, rIxT, rIxS, tCB, tCons, tNil, tRet, tRetN, tAsg, gTup, gCons, gNil, gName, gSub, rSetL, tNext, tDrop, tLst, tTup, tCall, tIf, tB, tAnd, tOr, tNot, tSl, tPart, tNoPart, tM1, tM0, tBM, tBM0, tLcE, tForE, iRng1, iRng2, iTup, iList, iStr, tYes, wipe, startDef, cxK, noxK, exists_and_left, exists_eq_left', exists_eq_left, exists_eq_right, Option.some.injEq, V.int.injEq, V.ref.injEq, V.str.injEq, V.bl.injEq, List.cons.injEq, and_true, true_and, List.append_nil, List.map_cons, List.map_nil, List.length_cons, List.length_nil, List.replicate, List.nil_append, List.cons_append, List.set_cons_zero, List.set_cons_succ, List.getElem?_cons_zero, List.getElem?_cons_succ, decide_eq_true_eq, exists_const, Nat.reduceAdd, Nat.reduceSub, List.replicate_succ, List.replicate_zero, exists_prop, and_assoc, List.set_nil, rLenK, rTupK, rLstK, rReprK, rEqD, rNeD, rIn, rAll, rAppend, rCat, ↓reduceIte, Bool.false_eq_true, iEnumT, rSortedPO, rIsi, rRep, rReverse, tLstRg, tTupRg, tRg1, tRg2, rSlL, rSlT, rSortedI, rSlF, rCatF, rMax, tLc2E, rSortedL, rSortedT, gUnl, tPar, rReprX, tChain, tDNewK, tDisp, tPairs, tAndV, tNotV, tFd, sFd, tMeth, tMake, tMakeK, gStar, iZipM, iItems, tLock, tSpread, tDcE, tDGet, sDPut, tPar3, tNever, rIxD, tChain, iEnum, tDIn, tDNotIn, gHd]
    obtain ⟨kvs, hrw, pr⟩ := hm.rows
    have ho := hm.ob
    obtain ⟨kv, ev, _, l, us, el, hl, al⟩ := prel_some (fun r : Str × List Lyr => r.1) (R := LRel K H) (fun _ _ h => h.1) pr nd mr
    have lenU := ls_len al
    have line : (2000 : Nat) < sizeLine := by decide
    have g1 := DGet.k (k := (Sum.inr "rows" : L2.Key)) ho
    rw [mk_rows] at g1
    have g2 := DGet.k (k := (Sum.inr r.1 : L2.Key)) hrw
    rw [ev, el] at g2
    have g3 := DGet.k (k := (Sum.inr "next" : L2.Key)) ho
    rw [mk_next] at g3
    refine ⟨_, g1, rw, rfl, _, g2, _, g3, by decide, fun q1 hq1 => ⟨by decide, fun q2 hq2 => ?_⟩⟩
    have s1 : Same H (upd H q1 (.tup [.int (n : Int), .str t, .int s])) := same_new hq1
    have t1 : (upd H q1 (.tup [.int (n : Int), .str t, .int s])) q1 = some (.tup [.int (n : Int), .str t, .int s]) := upd_same
    generalize upd H q1 (.tup [.int (n : Int), .str t, .int s]) = H1 at s1 t1 hq2
    have s2 : Same H1 (upd H1 q2 (.lst [.ref q1])) := same_new hq2
    have l2 : (upd H1 q2 (.lst [.ref q1])) q2 = some (.lst [.ref q1]) := upd_same
    generalize upd H1 q2 (.lst [.ref q1]) = H2 at s2 l2
    have s12 := smT s1 s2
    refine ⟨l, rfl, us, s12 _ _ hl, _, l2, by simp; omega, fun q3 hq3 => ?_⟩
    have s3 : Same H2 (upd H2 q3 (.lst (us ++ [.ref q1]))) := same_new hq3
    have l3 : (upd H2 q3 (.lst (us ++ [.ref q1]))) q3 = some (.lst (us ++ [.ref q1])) := upd_same
    generalize upd H2 q3 (.lst (us ++ [.ref q1])) = H3 at s3 l3
    have s13 := smT s12 s3
    have g4 := DGet.k (k := (Sum.inr "rows" : L2.Key)) (s13 _ _ ho)
    rw [mk_rows] at g4
    have lk : kvs.length ≤ 8 := by rw [paired_len pr]; exact g8
    refine ⟨_, g4, rw, rfl, _, DPut.k (k := (Sum.inr r.1 : L2.Key)) (s13 _ _ hrw) (by omega), ?_⟩
    have o4 : (upd H3 rw (.dK (putK kvs (Sum.inr r.1) (.ref q3)))) mo = some (.dK (modelK li wr n rw)) := by rw [upd_ne nmr]; exact s13 _ _ ho
    have r4 : (upd H3 rw (.dK (putK kvs (Sum.inr r.1) (.ref q3)))) rw = some (.dK (putK kvs (Sum.inr r.1) (.ref q3))) := upd_same
    have f4 : ∀ a o, a ≠ rw → H3 a = some o → (upd H3 rw (.dK (putK kvs (Sum.inr r.1) (.ref q3)))) a = some o := fun a o n e => by rw [upd_ne n]; exact e
    generalize upd H3 rw (.dK (putK kvs (Sum.inr r.1) (.ref q3))) = H4 at o4 r4 f4
    have g5 := DGet.k (k := (Sum.inr "next" : L2.Key)) o4
    rw [mk_next] at g5
    refine ⟨_, g5, n, rfl, _, DPut.k (k := (Sum.inr "next" : L2.Key)) o4 (by show 4 < sizeLine; decide), ?_⟩
    rw [mk_put]
    have c4 : Chg [mo, rw] H3 (upd H4 mo (.dK (modelK li wr (n + 1) rw))) := by
      refine ⟨fun q m => ?_, fun a o n e => ?_⟩
      · have m' : q = mo ∨ q = rw := by simpa using m
        rcases m' with rfl | rfl
        · exact ⟨_, s13 _ _ ho, True.intro⟩
        · exact ⟨_, s13 _ _ hrw, True.intro⟩
      · have n' : a ≠ mo ∧ a ≠ rw := by simpa using n
        rw [upd_ne n'.1]
        exact f4 a o n'.2 e
    refine k _ ⟨upd_same, (hm.inks.same s13).chg c4, _, by rw [upd_ne (Ne.symm nmr)]; exact r4, ?_⟩ (fun a o n1 n2 e => ?_)
    · have ea : (kvs.any fun kv => decide (kv.1 = (Sum.inr r.1 : L2.Key))) = true := by rw [valV_any, ev]; rfl
      unfold putK layP
      rw [if_pos ea]
      refine prel_map (fun r : Str × List Lyr => r.1) (R := LRel K H) (fun _ _ h => h.1) (f := fun s' : Str × List Lyr => (s'.1, s'.2 ++ [(n, t, s)])) pr (fun kv r' _ h _ => LRel.chg c4 (LRel.same s13 h)) (fun kv r' m' h e => ?_)
      obtain rfl := nd_inj nd m' mr e
      refine ⟨h.1, q3, _, rfl, c4.lst l3, ?_⟩
      rw [List.map_append]
      refine DpAll.app (c4.dps (flat_lDs _) (smDps s13 (flat_lDs _) al)) (.cons (c4.dp (flat_lD (n, t, s)) ?_) .nil)
      exact .tup (SqT.of (s3 _ _ (s2 _ _ t1))) (.cons (.int _) (.cons (.str _) (.cons (.int _) .nil)))
    · rw [upd_ne n1]
      exact f4 a o n2 (s13 _ _ e)
abbrev s_lfirst : Stmt := topS 64
theorem sc_lfirst : FnScope ["_law_row", "_law_found", "_law_number"] ["_law_row"] (defScope s_lfirst) := ⟨rfl, rfl, rfl, by decide +kernel, rfl, by decide +kernel, by decide +kernel⟩

def spLFirst (K : PySem.W.Frag) : Sp := fun vs H Q _ => ∃ (a : Addr) (us : List V) (ls : List Lyr), vs = [.ref a] ∧ H a = some (.lst us) ∧ DpAll K H us (ls.map lD) ∧ ls ≠ [] ∧ ls.length ≤ 1000 ∧ ∀ t : Nat, IsTop (gL (ls.map mG)) t → Q (.int t) H
theorem ok_first' {f : Addr} {fd : FuncData} (F : Fun K "_law_first" "_law_first" s_lfirst f fd) (M : Blt mg) : FnOk P w K mg base CX0 1 f fd ["_law_row"] (spLFirst K) := by
  refine F.ok sc_lfirst (fun vs H Q E h => ?_) (fun cdv A outer s H vs Q E hr h => ?_)
  · obtain ⟨a, us, ls, rfl, _⟩ := h
    rfl
  · obtain ⟨a, us, ls, rfl, hl, al, ne, hn, k⟩ := h
    refine ⟨_, (pss_cons (ps_set (i := 1) sc_lfirst.nd rfl (by first | exact Or.inl rfl | exact Or.inr rfl) pe_int)
      (pss_cons (ps_for PassesOwn.never rfl (pi_range1 (by rfl) M.range (pa_cons (pe_callB (k_len (K := K) rfl) (by rfl) M.len (by decide +kernel) (pa_cons (pv 0) pa_nil)) pa_nil)) (pg_name (i := 2) sc_lfirst.nd rfl (by first | exact Or.inl rfl | exact Or.inr rfl)) (pss_one (ps_if (pt_cmpR op_ge (pe_ix (k_ixT (K := K) rfl) (pe_ix (k_ixL (K := K) rfl) (pv 0) (pv 2) (fun _ _ => rfl)) pe_int (fun _ _ => rfl)) (pe_ix (k_ixT (K := K) rfl) (pe_ix (k_ixL (K := K) rfl) (pv 0) (pv 1) (fun _ _ => rfl)) pe_int (fun _ _ => rfl)) (nomark _)) (pss_one (ps_set (i := 1) sc_lfirst.nd rfl (by first | exact Or.inl rfl | exact Or.inr rfl) (pv 2))) pss_nil)))
      (pss_one (ps_ret (pv 1))))), ?_⟩
    simp only [tSeq, tIfS, tTest, tOp, tUn, tVar, tC, rI, rI0, rU, rEq, rNe, rIxL, rIxT, rIxS, tCB, tCons, tNil, tRet, tRetN, tAsg, gTup, gCons, gNil, gName, gSub, rSetL, tNext, tDrop, tLst, tTup, tCall, tIf, tB, tAnd, tOr, tNot, tSl, tPart, tNoPart, tM1, tM0, tBM, tBM0, tLcE, tForE, iRng1, iRng2, iTup, iList, iStr, tYes, wipe, startDef, cxK, noxK, exists_and_left, exists_eq_left', exists_eq_left, exists_eq_right, Option.some.injEq, V.int.injEq, V.ref.injEq, V.str.injEq, V.bl.injEq, List.cons.injEq, and_true, true_and, List.append_nil, List.map_cons, List.map_nil, List.length_cons, List.length_nil, List.replicate, List.nil_append, List.cons_append, List.set_cons_zero, List.set_cons_succ, List.getElem?_cons_zero, List.getElem?_cons_succ, decide_eq_true_eq, exists_const, Nat.reduceAdd, Nat.reduceSub, List.replicate_succ, List.replicate_zero, exists_prop, and_assoc, List.set_nil, rLenK, rTupK, rLstK, rReprK, rEqD, rNeD, rIn, rAll, rAppend, rCat, ↓reduceIte, Bool.false_eq_true, iEnumT, rSortedPO, rIsi, rRep, rReverse, tLstRg, tTupRg, tRg1, tRg2, rSlL, rSlT, rSortedI, rSlF, rCatF, rMax, tLc2E, rSortedL, rSortedT, gUnl, tPar, rReprX, tChain, tDNewK, tDisp, tPairs, tAndV, tNotV, tFd, sFd, tMeth, tMake, tMakeK, gStar, iZipM, iItems, tLock, tSpread, tDcE, tDGet, sDPut, tPar3, tNever, rIxD, tChain, iEnum, tDIn, tDNotIn, gHd]
    have len := ls_len al
    have pos1 : 0 < ls.length := List.length_pos_iff.mpr ne
    refine ⟨us, .inl (SqL.of hl), by omega, by omega, ?_⟩
    have nx : (us.length : Int).toNat = ls.length := by omega
    rw [nx]
    have gl : (gL (ls.map mG)).length = ls.length := by rw [gL_len, List.length_map]
    refine forRng (fun i σ H' => ∃ (f : Nat) (a2 : Option V), σ = [some (.ref a), some (.int (f : Int)), a2] ∧ H' = H ∧ f < ls.length ∧ f ≤ i ∧ ∀ j, j < i → j ≠ f → Ahead (gL (ls.map mG)) f j) ⟨0, none, rfl, rfl, pos1, Nat.le_refl _, fun j hj => by omega⟩ ?_ ?_
    · rintro i σ Ha hi ⟨f, a2, rfl, rfl, hf, fi, al2⟩
      obtain ⟨l1, b1, q1, e1, s1⟩ := ls_at al hi
      obtain ⟨l2, b2, q2, e2, s2⟩ := ls_at al hf
      have t1 := str_mG ls q1
      have t2 := str_mG ls q2
      rw [show (0 : Int) + (i : Int) = (i : Int) by omega]
      simp only [tSeq, tIfS, tTest, tOp, tUn, tVar, tC, rI, rI0, rU, rEq, rNe, rIxL, rIxT, rIxS, tCB, tCons, tNil, tRet, tRetN, tAsg, gTup, gCons, gNil, gName, gSub, rSetL, tNext, tDrop, tLst, tTup, tCall, tIf, tB, tAnd, tOr, tNot, tSl, tPart, tNoPart, tM1, tM0, tBM, tBM0, tLcE, tForE, iRng1, iRng2, iTup, iList, iStr, tYes, wipe, startDef, cxK, noxK, exists_and_left, exists_eq_left', exists_eq_left, exists_eq_right, Option.some.injEq, V.int.injEq, V.ref.injEq, V.str.injEq, V.bl.injEq, List.cons.injEq, and_true, true_and, List.append_nil, List.map_cons, List.map_nil, List.length_cons, List.length_nil, List.replicate, List.nil_append, List.cons_append, List.set_cons_zero, List.set_cons_succ, List.getElem?_cons_zero, List.getElem?_cons_succ, decide_eq_true_eq, exists_const, Nat.reduceAdd, Nat.reduceSub, List.replicate_succ, List.replicate_zero, exists_prop, and_assoc, List.set_nil, rLenK, rTupK, rLstK, rReprK, rEqD, rNeD, rIn, rAll, rAppend, rCat, ↓reduceIte, Bool.false_eq_true, iEnumT, rSortedPO, rIsi, rRep, rReverse, tLstRg, tTupRg, tRg1, tRg2, rSlL, rSlT, rSortedI, rSlF, rCatF, rMax, tLc2E, rSortedL, rSortedT, gUnl, tPar, rReprX, tChain, tDNewK, tDisp, tPairs, tAndV, tNotV, tFd, sFd, tMeth, tMake, tMakeK, gStar, iZipM, iItems, tLock, tSpread, tDcE, tDGet, sDPut, tPar3, tNever, rIxD, tChain, iEnum, tDIn, tDNotIn, gHd]
      refine ⟨_, SqL.of hl, _, atI_nat e1, b1, rfl, _, s1, _, rfl, _, SqL.of hl, _, atI_nat e2, b2, rfl, _, s2, _, rfl, l1.2.2, rfl, l2.2.2, rfl, ?_⟩
      by_cases h : l2.2.2 ≤ l1.2.2
      · rw [if_pos (by omega)]
        refine ⟨i, rfl, hi, by omega, fun j hj nj => ?_⟩
        unfold Ahead
        rw [t1]
        by_cases jf : j = f
        · subst jf
          rw [t2]
          omega
        · have := al2 j (by omega) jf
          unfold Ahead at this
          rw [t2] at this
          omega
      · rw [if_neg (by omega)]
        refine ⟨f, rfl, hf, by omega, fun j hj nj => ?_⟩
        by_cases ji : j = i
        · subst ji
          unfold Ahead
          rw [t1, t2]
          omega
        · exact al2 j (by omega) nj
    · rintro σ Ha ⟨f, a2, rfl, rfl, hf, fi, al2⟩
      simp only [tSeq, tIfS, tTest, tOp, tUn, tVar, tC, rI, rI0, rU, rEq, rNe, rIxL, rIxT, rIxS, tCB, tCons, tNil, tRet, tRetN, tAsg, gTup, gCons, gNil, gName, gSub, rSetL, tNext, tDrop, tLst, tTup, tCall, tIf, tB, tAnd, tOr, tNot, tSl, tPart, tNoPart, tM1, tM0, tBM, tBM0, tLcE, tForE, iRng1, iRng2, iTup, iList, iStr, tYes, wipe, startDef, cxK, noxK, exists_and_left, exists_eq_left', exists_eq_left, exists_eq_right, Option.some.injEq, V.int.injEq, V.ref.injEq, V.str.injEq, V.bl.injEq, List.cons.injEq, and_true, true_and, List.append_nil, List.map_cons, List.map_nil, List.length_cons, List.length_nil, List.replicate, List.nil_append, List.cons_append, List.set_cons_zero, List.set_cons_succ, List.getElem?_cons_zero, List.getElem?_cons_succ, decide_eq_true_eq, exists_const, Nat.reduceAdd, Nat.reduceSub, List.replicate_succ, List.replicate_zero, exists_prop, and_assoc, List.set_nil, rLenK, rTupK, rLstK, rReprK, rEqD, rNeD, rIn, rAll, rAppend, rCat, ↓reduceIte, Bool.false_eq_true, iEnumT, rSortedPO, rIsi, rRep, rReverse, tLstRg, tTupRg, tRg1, tRg2, rSlL, rSlT, rSortedI, rSlF, rCatF, rMax, tLc2E, rSortedL, rSortedT, gUnl, tPar, rReprX, tChain, tDNewK, tDisp, tPairs, tAndV, tNotV, tFd, sFd, tMeth, tMake, tMakeK, gStar, iZipM, iItems, tLock, tSpread, tDcE, tDGet, sDPut, tPar3, tNever, rIxD, tChain, iEnum, tDIn, tDNotIn, gHd]
      exact k f ⟨by rw [gl]; exact hf, fun j hj => al2 j (by rw [gl] at hj; exact hj)⟩
end

/-! ### what may be shown: longer rows -/
theorem niceW_tup {n k : Nat} {ds : List PyData} (h : ∀ d ∈ ds, NiceW 250 d ∧ d.depth ≤ k) (hk : k < 10) (hw : PyData.weightAll ds ≤ n) : NiceW n (.tuple ds) := by
  have q := (niceWs h).tup hk
  exact ⟨q.sh, q.nd, q.lf, by simp only [PyData.weight]; exact hw, q.lay, q.dp⟩
theorem tagW {z : Str} (h : TagOk z) : NiceW 250 (.str z) := by
  have q := niceW_tag h
  exact ⟨q.sh, q.nd, q.lf, by have := q.wt; omega, q.lay, q.dp⟩
theorem markW {m : Nat} (h : m < 100000) : NiceW 250 (.int m) ∧ PyData.weight (.int m) ≤ 20 := by
  have e : ((m : Int)).natAbs = m := Int.natAbs_natCast _
  refine ⟨niceW_int (by rw [e]; exact Nat.lt_trans h (by decide)), ?_⟩
  have l := log_of (i := (m : Int)) (k := 17) (by decide) (by rw [e]; exact Nat.lt_trans h (by decide))
  simp only [PyData.weight]
  split <;> omega
theorem niceW_rD2 {l : Lyr} (h : LayOk (l.2.1, l.2.2)) : NiceW 260 (rD l) := by
  refine niceW_tup (k := 0) (fun d m => ?_) (by decide) ?_
  · rcases List.mem_cons.mp m with e | m
    · rw [e]; exact ⟨tagW h.1, by simp [PyData.depth]⟩
    · rw [List.mem_singleton.mp m]; exact ⟨niceW_int h.2, by simp [PyData.depth]⟩
  · have a : PyData.weight (.str l.2.1) ≤ 8 := (niceW_tag h.1).wt
    have b : PyData.weight (.int l.2.2) ≤ 250 := (niceW_int h.2).wt
    simp only [PyData.weightAll]
    omega
theorem niceW_lD2 {l : Lyr} (h : LayOk (l.2.1, l.2.2)) (h2 : l.1 < 100000) : NiceW 281 (lD l) := by
  refine niceW_tup (k := 0) (fun d m => ?_) (by decide) ?_
  · rcases List.mem_cons.mp m with e | m
    · rw [e]; exact ⟨(markW h2).1, by simp [PyData.depth]⟩
    rcases List.mem_cons.mp m with e | m
    · rw [e]; exact ⟨tagW h.1, by simp [PyData.depth]⟩
    · rw [List.mem_singleton.mp m]; exact ⟨niceW_int h.2, by simp [PyData.depth]⟩
  · have a : PyData.weight (.str l.2.1) ≤ 8 := (niceW_tag h.1).wt
    have b : PyData.weight (.int l.2.2) ≤ 250 := (niceW_int h.2).wt
    have c := (markW h2).2
    simp only [PyData.weightAll]
    omega
theorem nice_lds2 {ls : List Lyr} (n : ls.length ≤ 150) (h : ∀ l ∈ ls, LayOk (l.2.1, l.2.2) ∧ l.1 < 100000) : Nice (.list (ls.map lD)) := by
  have q := niceWs (n := 281) (k := 1) (ds := ls.map lD) fun d m => by
    obtain ⟨l, ml, rfl⟩ := List.mem_map.mp m
    exact ⟨niceW_lD2 (h l ml).1 (h l ml).2, by simp [lD, PyData.depth, PyData.depthAll]⟩
  refine (q.lst (by decide)).nice ?_
  rw [List.length_map]
  omega
theorem nice_rDs2 {ls : List Lyr} (n : ls.length ≤ 150) (h : ∀ l ∈ ls, LayOk (l.2.1, l.2.2)) : Nice (.tuple (ls.map rD)) := by
  have q := niceWs (n := 260) (k := 1) (ds := ls.map rD) fun d m => by
    obtain ⟨l, ml, rfl⟩ := List.mem_map.mp m
    exact ⟨niceW_rD2 (h l ml), by simp [rD, PyData.depth, PyData.depthAll]⟩
  refine (q.tup (by decide)).nice ?_
  rw [List.length_map]
  omega
theorem nice_marks {ls : List Lyr} (n : ls.length ≤ 150) (h : ∀ l ∈ ls, l.1 < 100000) : Nice (.list ((ls.map fun l : Lyr => (l.1 : Int)).map PyData.int)) := by
  have q := niceWs (n := 250) (k := 0) (ds := (ls.map fun l : Lyr => (l.1 : Int)).map PyData.int) fun d m => by
    obtain ⟨i, mi, rfl⟩ := List.mem_map.mp m
    obtain ⟨l, ml, rfl⟩ := List.mem_map.mp mi
    exact ⟨(markW (h l ml)).1, by simp [PyData.depth]⟩
  refine (q.lst (by decide)).nice ?_
  rw [List.length_map, List.length_map]
  omega

/-! ### what the model sees; whether a place stands as it does -/
theorem units70 {A : Around} {k : Nat} (hr : Room k A) (h : 1 ≤ k) : A.units + 70 < cLine := by
  have := hr.un
  omega
theorem dget_same {H H' : Hp} (s : Same H H') {d : Addr} {y : V} {o : Option V} (g : DGet H d y o) : DGet H' d y o := by
  rcases g with ⟨kvs, k, (h | ⟨ob, h⟩), e, f⟩ | ⟨kvs, k, b, (h | ⟨ob, h⟩), e, eb, f⟩
  · exact .inl ⟨kvs, k, .inl (s _ _ h), e, f⟩
  · exact .inl ⟨kvs, k, .inr ⟨ob, s _ _ h⟩, e, f⟩
  · exact .inr ⟨kvs, k, b, .inl (s _ _ h), e, s _ _ eb, f⟩
  · exact .inr ⟨kvs, k, b, .inr ⟨ob, s _ _ h⟩, e, s _ _ eb, f⟩
theorem flat_rDs (ls : List Lyr) : flatT (.tuple (ls.map rD)) = true := by
  unfold flatT
  exact flatTs_of fun d m => by
    obtain ⟨l, _, rfl⟩ := List.mem_map.mp m
    exact flat_rD l
section
variable {P : Program} {w : World} {K : PySem.W.Frag} {mg : Str → Option Value} {base : Heap} {cP cQ : Addr}
structure CLF (P : Program) (w : World) (K : PySem.W.Frag) (mg : Str → Option Value) (base : Heap) : Prop where
  lfirst : Has P w K mg base "_law_first" 1 ["_law_row"] (spLFirst K)
structure GdOk (inks : List Lay) (gr : Grd) : Prop extends PlOk inks gr where
  lay : ∀ r ∈ gr, ∀ l ∈ r.2, LayOk (l.2.1, l.2.2) ∧ 1 ≤ l.2.2 ∧ l.1 < 100000
  small : ∀ r ∈ gr, r.2.length ≤ 150
def TopV (H : Hp) (v : V) (gr : Grd) : Prop := (topG (gG gr) = none ∧ v = .non) ∨ ∃ (r : Str × List Lyr) (i : Nat) (l : Lyr) (t : Addr), r ∈ gr ∧ (r.2[i]? = some l ∧ IsTop (gL (r.2.map mG)) i) ∧ topG (gG gr) = some (r.1, mG l) ∧ v = .ref t ∧ H t = some (.tup [.str r.1, .int (i : Int)])
theorem gG_take (gr : Grd) (i : Nat) : (gG gr).take i = gG (gr.take i) := by
  unfold gG
  rw [List.map_take]
theorem TopV.same {H H' : Hp} {v : V} {gr : Grd} (s : Same H H') (h : TopV H v gr) : TopV H' v gr := by
  rcases h with h | ⟨r, i, l, t, a, b, c, d, e⟩
  · exact .inl h
  · exact .inr ⟨r, i, l, t, a, b, c, d, s _ _ e⟩
/-- behind i inks: what was found, and how strong it is -/
def TopI (H : Hp) (v : V) (m : Int) (gr : Grd) (i : Nat) : Prop := (topG ((gG gr).take i) = none ∧ v = .non ∧ m = 0) ∨ ∃ (r : Str × List Lyr) (j : Nat) (l : Lyr) (t : Addr), r ∈ gr ∧ (r.2[j]? = some l ∧ IsTop (gL (r.2.map mG)) j) ∧ topG ((gG gr).take i) = some (r.1, mG l) ∧ v = .ref t ∧ H t = some (.tup [.str r.1, .int (j : Int)]) ∧ m = l.2.2
theorem TopI.same {H H' : Hp} {v : V} {m : Int} {gr : Grd} {i : Nat} (s : Same H H') (h : TopI H v m gr i) : TopI H' v m gr i := by
  rcases h with h | ⟨r, j, l, t, a, b, c, d, e, f⟩
  · exact .inl h
  · exact .inr ⟨r, j, l, t, a, b, c, d, s _ _ e, f⟩
abbrev s_top : Stmt := topS 65
theorem sc_top : FnScope ["_law_model_here", "_law_found", "_law_most", "_law_ink", "_law_fade", "_law_row"] ["_law_model_here"] (defScope s_top) := ⟨rfl, rfl, rfl, by decide +kernel, rfl, by decide +kernel, by decide +kernel⟩

def spLTop (K : PySem.W.Frag) : Sp := fun vs H Q _ => ∃ (mo rw li : Addr) (inks : List Lay) (wr : Int) (gr : Grd) (n : Nat), vs = [.ref mo] ∧ ModAt K H mo rw li inks wr gr n ∧ GdOk inks gr ∧ ∀ v H', Same H H' → TopV H' v gr → Q v H'
theorem ok_ltop {f : Addr} {fd : FuncData} (F : Fun K "_law_top" "_law_top" s_top f fd) (M : Blt mg) (C : CLF P w K mg base) : FnOk P w K mg base CX0 2 f fd ["_law_model_here"] (spLTop K) := by
  refine F.ok sc_top (fun vs H Q E h => ?_) (fun cdv A outer s H vs Q E hr h => ?_)
  · obtain ⟨mo, rw, li, inks, wr, gr, n, rfl, _⟩ := h
    rfl
  · obtain ⟨mo, rw, li, inks, wr, gr, n, rfl, hm, ok, k⟩ := h
    have hu := hu_of hr
    refine ⟨_, (pss_cons (ps_set (i := 1) sc_top.nd rfl (by first | exact Or.inl rfl | exact Or.inr rfl) pe_non)
      (pss_cons (ps_set (i := 2) sc_top.nd rfl (by first | exact Or.inl rfl | exact Or.inr rfl) pe_int)
      (pss_cons (ps_for PassesOwn.never rfl (pi_list (pe_dget hu (pv 0) pe_str (fun _ _ => rfl))) (pg_tup (n := 2) (by rfl) (pgs_cons (pg_name (i := 3) sc_top.nd rfl (by first | exact Or.inl rfl | exact Or.inr rfl)) (pgs_cons (pg_name (i := 4) sc_top.nd rfl (by first | exact Or.inl rfl | exact Or.inr rfl)) pgs_nil))) (pss_cons (ps_set (i := 5) sc_top.nd rfl (by first | exact Or.inl rfl | exact Or.inr rfl) (pe_dget hu (pe_dget hu (pv 0) pe_str (fun _ _ => rfl)) (pv 3) (fun _ _ => rfl)))
      (pss_one (ps_if (PW.pt (pw_and (pt_cmpR (k_neD (K := K) rfl hr.units) (pv 5) (pe_lst pa_nil) (nomark _)) (pw_and1 (pt_cmpR op_gt (pe_ix (k_ixT (K := K) rfl) (pe_ix (k_ixL (K := K) rfl) (pv 5) (callH C.lfirst hr (by rfl) (pa_cons (pv 5) pa_nil)) (fun _ _ => rfl)) pe_int (fun _ _ => rfl)) (pv 2) (nomark _))))) (pss_cons (ps_set (i := 1) sc_top.nd rfl (by first | exact Or.inl rfl | exact Or.inr rfl) (pe_tup (pa_cons (pv 3) (pa_cons (callH C.lfirst hr (by rfl) (pa_cons (pv 5) pa_nil)) pa_nil))))
      (pss_one (ps_set (i := 2) sc_top.nd rfl (by first | exact Or.inl rfl | exact Or.inr rfl) (pe_ix (k_ixT (K := K) rfl) (pe_ix (k_ixL (K := K) rfl) (pv 5) (pe_ix (k_ixT (K := K) rfl) (pv 1) pe_int (fun _ _ => rfl)) (fun _ _ => rfl)) pe_int (fun _ _ => rfl))))) pss_nil))))
      (pss_one (ps_ret (pv 1)))))), ?_⟩
    simp only [tSeq, tIfS, tTest, tOp, tUn, tVar, tC, rI, rI0, rU, rEq, rNe, rIxL, rIxT, rIxS, tCB, tCons, tNil, tRet, tRetN, tAsg, gTup, gCons, gNil, gName, gSub, rSetL, tNext, tDrop, tLst, tTup, tCall, tIf, tB, tAnd, tOr, tNot, tSl, tPart, tNoPart, tM1, tM0, tBM, tBM0, tLcE, tForE, iRng1, iRng2, iTup, iList, iStr, tYes, wipe, startDef, cxK, noxK, exists_and_left, exists_eq_left', exists_eq_left, exists_eq_right, Option.some.injEq, V.int.injEq, V.ref.injEq, V.str.injEq, V.bl.injEq, List.cons.injEq, and_true, true_and, List.append_nil, List.map_cons, List.map_nil, List.length_cons, List.length_nil, List.replicate, List.nil_append, List.cons_append, List.set_cons_zero, List.set_cons_succ, List.getElem?_cons_zero, List.getElem?_cons_succ, decide_eq_true_eq, exists_const, Nat.reduceAdd, Nat.reduceSub, List.replicate_succ, List.replicate_zero, exists_prop, and_assoc, List.set_nil, rLenK, rTupK, rLstK, rReprK, rEqD, rNeD, rIn, rAll, rAppend, rCat, ↓reduceIte, Bool.false_eq_true, iEnumT, rSortedPO, rIsi, rRep, rReverse, tLstRg, tTupRg, tRg1, tRg2, rSlL, rSlT, rSortedI, rSlF, rCatF, rMax, tLc2E, rSortedL, rSortedT, gUnl, tPar, rReprX, tChain, tDNewK, tDisp, tPairs, tAndV, tNotV, tFd, sFd, tMeth, tMake, tMakeK, gStar, iZipM, iItems, tLock, tSpread, tDcE, tDGet, sDPut, tPar3, tNever, rIxD, tChain, iEnum, tDIn, tDNotIn, gHd, spLFirst]
    obtain ⟨us, hli, ali⟩ := hm.inks
    obtain ⟨kvs, hrw, pr⟩ := hm.rows
    have ho := hm.ob
    have nd : (gr.map (·.1)).Nodup := by rw [ok.nms]; exact ok.iok.nd
    have g1 := DGet.k (k := (Sum.inr "inks" : L2.Key)) ho
    rw [mk_inks] at g1
    have g2 := DGet.k (k := (Sum.inr "rows" : L2.Key)) ho
    rw [mk_rows] at g2
    have len := lays_len ali
    have lenG : gr.length = inks.length := by
      have := congrArg List.length ok.nms
      simpa using this
    refine ⟨_, g1, li, rfl, ⟨us, SqL.of hli⟩, ?_⟩
    refine for_it (walk_list (xs := us)) (fun i σ H' => ∃ (v : V) (m : Int) (a3 a4 a5 : Option V), σ = [some (.ref mo), some v, some (.int m), a3, a4, a5] ∧ Same H H' ∧ TopI H' v m gr i) ⟨.non, 0, none, none, none, rfl, Same.refl _, .inl ⟨rfl, rfl, rfl⟩⟩
      (fun i σ H' _ ⟨_, _, _, _, _, _, s, _⟩ => SqL.of (s _ _ hli)) ?_ ?_
    · rintro i x σ Ha H' hi ⟨v, m, a3, a4, a5, rfl, sa, ti⟩ ⟨rfl, e⟩
      obtain ⟨lay, b, e3, rfl, sq, _⟩ := lays_get ali e
      have er : gr[i]? = some gr[i] := List.getElem?_eq_getElem (by omega)
      generalize gr[i] = r at er
      have en : r.1 = lay.1 := by
        have q : (gr.map (·.1))[i]? = (inks.map (·.1))[i]? := by rw [ok.nms]
        rw [List.getElem?_map, List.getElem?_map, er, e3] at q
        exact Option.some.inj q
      have mr : r ∈ gr := List.mem_of_getElem? er
      obtain ⟨kv, ev, _, l, ls, el, hl, al⟩ := prel_some (fun r : Str × List Lyr => r.1) (R := LRel K H) (fun _ _ h => h.1) pr nd mr
      have g3 := DGet.k (k := (Sum.inr r.1 : L2.Key)) hrw
      rw [ev, el] at g3
      have gk : ∀ {d : Addr} {y o : V}, DGet H d y (some o) → DGet H' d y (some o) := fun g => dget_same sa g
      have okr := ok.lay r mr
      have sm := ok.small r mr
      have nice := nice_lds2 sm (fun x m => ⟨(okr x m).1, (okr x m).2.2⟩)
      have erG : (gG gr)[i]? = some (r.1, r.2.map mG) := by
        unfold gG
        rw [List.getElem?_map, er]
        rfl
      simp only [tSeq, tIfS, tTest, tOp, tUn, tVar, tC, rI, rI0, rU, rEq, rNe, rIxL, rIxT, rIxS, tCB, tCons, tNil, tRet, tRetN, tAsg, gTup, gCons, gNil, gName, gSub, rSetL, tNext, tDrop, tLst, tTup, tCall, tIf, tB, tAnd, tOr, tNot, tSl, tPart, tNoPart, tM1, tM0, tBM, tBM0, tLcE, tForE, iRng1, iRng2, iTup, iList, iStr, tYes, wipe, startDef, cxK, noxK, exists_and_left, exists_eq_left', exists_eq_left, exists_eq_right, Option.some.injEq, V.int.injEq, V.ref.injEq, V.str.injEq, V.bl.injEq, List.cons.injEq, and_true, true_and, List.append_nil, List.map_cons, List.map_nil, List.length_cons, List.length_nil, List.replicate, List.nil_append, List.cons_append, List.set_cons_zero, List.set_cons_succ, List.getElem?_cons_zero, List.getElem?_cons_succ, decide_eq_true_eq, exists_const, Nat.reduceAdd, Nat.reduceSub, List.replicate_succ, List.replicate_zero, exists_prop, and_assoc, List.set_nil, rLenK, rTupK, rLstK, rReprK, rEqD, rNeD, rIn, rAll, rAppend, rCat, ↓reduceIte, Bool.false_eq_true, iEnumT, rSortedPO, rIsi, rRep, rReverse, tLstRg, tTupRg, tRg1, tRg2, rSlL, rSlT, rSortedI, rSlF, rCatF, rMax, tLc2E, rSortedL, rSortedT, gUnl, tPar, rReprX, tChain, tDNewK, tDisp, tPairs, tAndV, tNotV, tFd, sFd, tMeth, tMake, tMakeK, gStar, iZipM, iItems, tLock, tSpread, tDcE, tDGet, sDPut, tPar3, tNever, rIxD, tChain, iEnum, tDIn, tDNotIn, gHd, spLFirst]
      refine ⟨_, St.tup potN (St.ofSame potN sa) sq, rfl, _, _, rfl, _, _, rfl, rfl, _, gk g2, rw, rfl, _, by rw [← en]; exact gk g3, by decide, fun q hq => ?_⟩
      have s1 : Same H' (upd H' q (.lst [])) := same_new hq
      have q1 : (upd H' q (.lst [])) q = some (.lst []) := upd_same
      have ti1 : TopI (upd H' q (.lst [])) v m gr i := ti.same s1
      generalize upd H' q (.lst []) = H1 at s1 q1 ti1
      have s01 := smT sa s1
      have al1 := smDps s01 (flat_lDs r.2) al
      have hl1 := s01 _ _ hl
      refine ⟨_, .lst (SqL.of hl1) al1, .list [], .lst (SqL.of q1) .nil, nice.shaped, nice_nil.shaped, ?_⟩
      rw [eqv_lnil]
      cases er2 : r.2 with
      | nil =>
        rw [if_neg (by simp)]
        refine ⟨s01, ?_⟩
        unfold TopI at ti1 ⊢
        have et : topG ((gG gr).take (i + 1)) = topG ((gG gr).take i) := by
          rw [topG_succ _ erG, er2]
          show topStep _ (r.1, []) = _
          unfold topStep
          rw [firstOf_nil]
        rw [et]
        exact ti1
      | cons l0 lr =>
        have ne : r.2 ≠ [] := by rw [er2]; intro z; cases z
        rw [if_pos (by simp)]
        refine ⟨l, rfl, ls, hl1, r.2, al1, ne, by omega, fun t1 tp1 => ?_⟩
        have jl : t1 < r.2.length := by
          have := tp1.lt
          rw [gL_len, List.length_map] at this
          exact this
        obtain ⟨y, by_, ey, ex, sy⟩ := ls_at al1 jl
        have yok := okr y (List.mem_of_getElem? ey)
        have fo : firstOf (r.2.map mG) = some (mG y) := by
          rw [firstOf_top tp1, List.getElem?_map, ey]
          rfl
        have et : topG ((gG gr).take (i + 1)) = topStep (topG ((gG gr).take i)) (r.1, r.2.map mG) := topG_succ _ erG
        refine ⟨l, rfl, ls, SqL.of hl1, _, atI_nat ex, by_, rfl, _, sy, _, rfl, y.2.2, rfl, ?_⟩
        have step : topG ((gG gr).take (i + 1)) = if m < y.2.2 then some (r.1, mG y) else topG ((gG gr).take i) := by
          rw [et]
          unfold topStep
          show (match firstOf (r.2.map mG) with | none => _ | some l => _) = _
          rw [fo]
          rcases ti1 with ⟨a, _, c⟩ | ⟨r', j', l', t', _, _, c, _, _, f⟩
          · rw [a, if_pos (by omega)]
          · rw [c]
            show (if l'.2.2 < y.2.2 then some (r.1, mG y) else some (r'.1, mG l')) = _
            rw [f]
        by_cases c : m < y.2.2
        · rw [if_pos c]
          refine ⟨l, rfl, ls, hl1, r.2, al1, ne, by omega, fun t2 tp2 => ⟨by decide, fun t ht => ?_⟩⟩
          obtain rfl := IsTop.uniq tp1 tp2
          have s2 : Same H1 (upd H1 t (.tup [.str lay.1, .int (t1 : Int)])) := same_new ht
          have h2 : (upd H1 t (.tup [.str lay.1, .int (t1 : Int)])) t = some (.tup [.str lay.1, .int (t1 : Int)]) := upd_same
          generalize upd H1 t (.tup [.str lay.1, .int (t1 : Int)]) = H2 at s2 h2
          refine ⟨_, SqT.of h2, _, rfl, l, rfl, ls, _, rfl, SqL.of (s2 _ _ hl1), _, atI_nat ex, by_, rfl, _, St.tup potN (St.ofSame potN s2) sy, _, rfl, _, rfl, smT s01 s2, ?_⟩
          refine .inr ⟨r, t1, y, t, mr, ⟨ey, tp1⟩, by rw [step, if_pos c], rfl, by rw [en]; exact h2, rfl⟩
        · rw [if_neg c]
          refine ⟨s01, ?_⟩
          unfold TopI at ti1 ⊢
          rw [step, if_neg c]
          exact ti1
    · rintro σ H' ⟨v, m, a3, a4, a5, rfl, sa, ti⟩
      simp only [tSeq, tIfS, tTest, tOp, tUn, tVar, tC, rI, rI0, rU, rEq, rNe, rIxL, rIxT, rIxS, tCB, tCons, tNil, tRet, tRetN, tAsg, gTup, gCons, gNil, gName, gSub, rSetL, tNext, tDrop, tLst, tTup, tCall, tIf, tB, tAnd, tOr, tNot, tSl, tPart, tNoPart, tM1, tM0, tBM, tBM0, tLcE, tForE, iRng1, iRng2, iTup, iList, iStr, tYes, wipe, startDef, cxK, noxK, exists_and_left, exists_eq_left', exists_eq_left, exists_eq_right, Option.some.injEq, V.int.injEq, V.ref.injEq, V.str.injEq, V.bl.injEq, List.cons.injEq, and_true, true_and, List.append_nil, List.map_cons, List.map_nil, List.length_cons, List.length_nil, List.replicate, List.nil_append, List.cons_append, List.set_cons_zero, List.set_cons_succ, List.getElem?_cons_zero, List.getElem?_cons_succ, decide_eq_true_eq, exists_const, Nat.reduceAdd, Nat.reduceSub, List.replicate_succ, List.replicate_zero, exists_prop, and_assoc, List.set_nil, rLenK, rTupK, rLstK, rReprK, rEqD, rNeD, rIn, rAll, rAppend, rCat, ↓reduceIte, Bool.false_eq_true, iEnumT, rSortedPO, rIsi, rRep, rReverse, tLstRg, tTupRg, tRg1, tRg2, rSlL, rSlT, rSortedI, rSlF, rCatF, rMax, tLc2E, rSortedL, rSortedT, gUnl, tPar, rReprX, tChain, tDNewK, tDisp, tPairs, tAndV, tNotV, tFd, sFd, tMeth, tMake, tMakeK, gStar, iZipM, iItems, tLock, tSpread, tDcE, tDGet, sDPut, tPar3, tNever, rIxD, tChain, iEnum, tDIn, tDNotIn, gHd]
      have e : (gG gr).take us.length = gG gr := List.take_of_length_le (by unfold gG; rw [List.length_map]; omega)
      refine k v H' sa ?_
      rcases ti with ⟨a, b, _⟩ | ⟨r, j, l, t, a, b, c, d, f, _⟩
      · exact .inl ⟨by rw [← e]; exact a, b⟩
      · exact .inr ⟨r, j, l, t, a, b, by rw [← e]; exact c, d, f⟩
structure CLT (P : Program) (w : World) (K : PySem.W.Frag) (mg : Str → Option Value) (base : Heap) : Prop where
  top : Has P w K mg base "_law_top" 2 ["_law_model_here"] (spLTop K)
abbrev s_seen : Stmt := topS 67
theorem sc_seen : FnScope ["_law_model_here", "_law_top_here", "_law_mark", "_law_tag", "_law_strength"] ["_law_model_here"] (defScope s_seen) := ⟨rfl, rfl, rfl, by decide +kernel, rfl, by decide +kernel, by decide +kernel⟩

def spLSeen (K : PySem.W.Frag) : Sp := fun vs H Q _ => ∃ (mo rw li : Addr) (inks : List Lay) (wr : Int) (gr : Grd) (n : Nat), vs = [.ref mo] ∧ ModAt K H mo rw li inks wr gr n ∧ GdOk inks gr ∧
  ∀ t a b H', Same H H' → H' t = some (.tup [a, b]) → SeenP K H' a gr → SeenM b gr → Q (.ref t) H'
theorem ok_seen {f : Addr} {fd : FuncData} (F : Fun K "_law_seen" "_law_seen" s_seen f fd) (M : Blt mg) (C : CLT P w K mg base) : FnOk P w K mg base CX0 3 f fd ["_law_model_here"] (spLSeen K) := by
  refine F.ok sc_seen (fun vs H Q E h => ?_) (fun cdv A outer s H vs Q E hr h => ?_)
  · obtain ⟨mo, rw, li, inks, wr, gr, n, rfl, _⟩ := h
    rfl
  · obtain ⟨mo, rw, li, inks, wr, gr, n, rfl, hm, ok, k⟩ := h
    have hu := hu_of hr
    refine ⟨_, (pss_cons (ps_set (i := 1) sc_seen.nd rfl (by first | exact Or.inl rfl | exact Or.inr rfl) (callH C.top hr (by rfl) (pa_cons (pv 0) pa_nil)))
      (pss_cons (ps_if (pt_cmpR op_isN (pv 1) pe_non (nomark _)) (pss_one (ps_ret (pe_tup (pa_cons pe_non (pa_cons pe_non pa_nil))))) pss_nil)
      (pss_cons (ps_asg (pe_ix (k_ixL (K := K) rfl) (pe_dget hu (pe_dget hu (pv 0) pe_str (fun _ _ => rfl)) (pe_ix (k_ixT (K := K) rfl) (pv 1) pe_int (fun _ _ => rfl)) (fun _ _ => rfl)) (pe_ix (k_ixT (K := K) rfl) (pv 1) pe_int (fun _ _ => rfl)) (fun _ _ => rfl)) (pg_tup (n := 3) (by rfl) (pgs_cons (pg_name (i := 2) sc_seen.nd rfl (by first | exact Or.inl rfl | exact Or.inr rfl)) (pgs_cons (pg_name (i := 3) sc_seen.nd rfl (by first | exact Or.inl rfl | exact Or.inr rfl)) (pgs_cons (pg_name (i := 4) sc_seen.nd rfl (by first | exact Or.inl rfl | exact Or.inr rfl)) pgs_nil)))))
      (pss_one (ps_ret (pe_tup (pa_cons (pe_tup (pa_cons (pe_ix (k_ixT (K := K) rfl) (pv 1) pe_int (fun _ _ => rfl)) (pa_cons (pv 3) (pa_cons (pv 4) pa_nil)))) (pa_cons (pv 2) pa_nil)))))))), ?_⟩
    simp only [tSeq, tIfS, tTest, tOp, tUn, tVar, tC, rI, rI0, rU, rEq, rNe, rIxL, rIxT, rIxS, tCB, tCons, tNil, tRet, tRetN, tAsg, gTup, gCons, gNil, gName, gSub, rSetL, tNext, tDrop, tLst, tTup, tCall, tIf, tB, tAnd, tOr, tNot, tSl, tPart, tNoPart, tM1, tM0, tBM, tBM0, tLcE, tForE, iRng1, iRng2, iTup, iList, iStr, tYes, wipe, startDef, cxK, noxK, exists_and_left, exists_eq_left', exists_eq_left, exists_eq_right, Option.some.injEq, V.int.injEq, V.ref.injEq, V.str.injEq, V.bl.injEq, List.cons.injEq, and_true, true_and, List.append_nil, List.map_cons, List.map_nil, List.length_cons, List.length_nil, List.replicate, List.nil_append, List.cons_append, List.set_cons_zero, List.set_cons_succ, List.getElem?_cons_zero, List.getElem?_cons_succ, decide_eq_true_eq, exists_const, Nat.reduceAdd, Nat.reduceSub, List.replicate_succ, List.replicate_zero, exists_prop, and_assoc, List.set_nil, rLenK, rTupK, rLstK, rReprK, rEqD, rNeD, rIn, rAll, rAppend, rCat, ↓reduceIte, Bool.false_eq_true, iEnumT, rSortedPO, rIsi, rRep, rReverse, tLstRg, tTupRg, tRg1, tRg2, rSlL, rSlT, rSortedI, rSlF, rCatF, rMax, tLc2E, rSortedL, rSortedT, gUnl, tPar, rReprX, tChain, tDNewK, tDisp, tPairs, tAndV, tNotV, tFd, sFd, tMeth, tMake, tMakeK, gStar, iZipM, iItems, tLock, tSpread, tDcE, tDGet, sDPut, tPar3, tNever, rIxD, tChain, iEnum, tDIn, tDNotIn, gHd, spLTop]
    obtain ⟨kvs, hrw, pr⟩ := hm.rows
    have ho := hm.ob
    have nd : (gr.map (·.1)).Nodup := by rw [ok.nms]; exact ok.iok.nd
    have g2 := DGet.k (k := (Sum.inr "rows" : L2.Key)) ho
    rw [mk_rows] at g2
    refine ⟨rw, li, inks, wr, gr, n, hm, ok, fun v H1 s1 tv => ?_⟩
    rcases tv with ⟨a, rfl⟩ | ⟨r, i, l, t, mr, ⟨el, _⟩, et, rfl, ht⟩
    · rw [if_pos rfl]
      exact ⟨by decide, fun q hq => k q _ _ _ (smT s1 (same_new hq)) upd_same (.inl ⟨a, rfl⟩) (.inl ⟨a, rfl⟩)⟩
    · rw [if_neg (by intro z; cases z)]
      obtain ⟨kv, ev, _, la, ls, ela, hl, al⟩ := prel_some (fun r : Str × List Lyr => r.1) (R := LRel K H) (fun _ _ h => h.1) pr nd mr
      have g3 := DGet.k (k := (Sum.inr r.1 : L2.Key)) hrw
      rw [ev, ela] at g3
      have jl : i < r.2.length := (List.getElem?_eq_some_iff.mp el).1
      obtain ⟨y, b, ey, ex, sy⟩ := ls_at (smDps s1 (flat_lDs r.2) al) jl
      obtain rfl : y = l := Option.some.inj (ey.symm.trans el)
      refine ⟨_, dget_same s1 g2, t, rfl, _, SqT.of ht, _, rfl, rw, rfl, _, dget_same s1 g3, t, rfl, _, SqT.of ht, _, rfl, la, rfl, ?_⟩
      have s2 : ∀ q, H1 q = none → Same H1 (upd H1 q (.tup [.str r.1, .str y.2.1, .int y.2.2])) := fun q hq => same_new hq
      refine ⟨ls, (i : Int), rfl, SqL.of (s1 _ _ hl), _, atI_nat ex, b, rfl, _, sy, rfl, _, _, rfl, _, _, rfl, _, _, rfl, rfl, t, rfl, _, SqT.of ht, _, rfl, by decide, fun q1 hq1 => ⟨by decide, fun q2 hq2 => ?_⟩⟩
      have sA := s2 q1 hq1
      have sB : Same (upd H1 q1 (.tup [.str r.1, .str y.2.1, .int y.2.2])) (upd (upd H1 q1 (.tup [.str r.1, .str y.2.1, .int y.2.2])) q2 (.tup [.ref q1, .int y.1])) := same_new hq2
      exact k q2 _ _ _ (smT s1 (smT sA sB)) upd_same (.inr ⟨r.1, y, et, .tup (SqT.of (sB _ _ upd_same)) (.cons (.str _) (.cons (.str _) (.cons (.int _) .nil)))⟩) (.inr ⟨r.1, y, et, rfl⟩)
structure CSt (P : Program) (w : World) (K : PySem.W.Frag) (mg : Str → Option Value) (base : Heap) (cP cQ : Addr) : Prop where
  seen : Has P w K mg base "_law_seen" 3 ["_law_model_here"] (spLSeen K)
  Place_row : HasM P w K mg base cQ "row" 4 ["self", "ink"] (spPRow K cP cQ)
  Place_marks : HasM P w K mg base cQ "marks" 4 ["self", "ink"] (spPMarks K cP cQ)
  Place_wear : HasM P w K mg base cQ "wear" 1 ["self"] (spPlW K cP cQ)
  Place_seen : HasM P w K mg base cQ "seen" 4 ["self"] (spPSeen K cP cQ)
  Place_seen_mark : HasM P w K mg base cQ "seen_mark" 4 ["self"] (spPSeenM K cP cQ)
theorem mG_inj {l l' : Lyr} (h : mG l = mG l') : l = l' := by
  obtain ⟨m, t, s⟩ := l
  obtain ⟨m', t', s'⟩ := l'
  have h1 : PyData.tuple [.str t, .int m] = PyData.tuple [.str t', .int m'] := congrArg Prod.fst h
  have h2 : s = s' := congrArg Prod.snd h
  simp at h1
  obtain ⟨a, b⟩ := h1
  have b' : m = m' := by omega
  rw [a, b', h2]
theorem seen_dat {inks : List Lay} {gr : Grd} (ok : GdOk inks gr) : ∃ d e : PyData, (∀ K H v, SeenP K H v gr → Dp K H v d) ∧ (∀ K H v, SeenM v gr → Dp K H v e) ∧ (∀ wr : Int, wr.natAbs < 1000 → Nice (.list [.int wr, d, e])) ∧ flatT d = true := by
  have wrN : ∀ wr : Int, wr.natAbs < 100000 → NiceW 510 (.int wr) ∧ (PyData.int wr).depth ≤ 1 := fun wr h => by
    have q := niceW_int (i := wr) (Nat.lt_trans h (by decide))
    exact ⟨⟨q.sh, q.nd, q.lf, by have := q.wt; omega, q.lay, q.dp⟩, by simp [PyData.depth]⟩
  cases et : topG (gG gr) with
  | none =>
    refine ⟨.none, .none, fun K H v h => ?_, fun K H v h => ?_, fun wr h => ?_, by simp [flatT]⟩
    · rcases h with ⟨_, rfl⟩ | ⟨ink, l, h, _⟩
      · exact .non
      · rw [et] at h; cases h
    · rcases h with ⟨_, rfl⟩ | ⟨ink, l, h, _⟩
      · exact .non
      · rw [et] at h; cases h
    · have q := niceWs (n := 510) (k := 1) (ds := [.int wr, .none, .none]) fun d m => by
        have nn : NiceW 510 .none ∧ PyData.none.depth ≤ 1 := ⟨⟨niceW_none.sh, niceW_none.nd, niceW_none.lf, by have := niceW_none.wt; omega, niceW_none.lay, niceW_none.dp⟩, by simp [PyData.depth]⟩
        rcases List.mem_cons.mp m with e | m
        · rw [e]; exact wrN wr (Nat.lt_trans h (by decide))
        rcases List.mem_cons.mp m with e | m
        · rw [e]; exact nn
        · rw [List.mem_singleton.mp m]; exact nn
      exact (q.lst (by decide)).nice (by show 511 * 3 ≤ 50000; decide)
  | some a =>
    obtain ⟨r, mr, er, ma⟩ := topG_mem et
    obtain ⟨r', mr', rfl⟩ := List.mem_map.mp mr
    obtain ⟨l, ml, el⟩ := List.mem_map.mp ma
    have okl := ok.lay r' mr' l ml
    have a1 : a = (r'.1, mG l) := by rw [el]; exact Prod.ext er.symm rfl
    have mrn : r'.1 ∈ inks.map (·.1) := by rw [← ok.nms]; exact List.mem_map.mpr ⟨r', mr', rfl⟩
    obtain ⟨lay, mlay, elay⟩ := List.mem_map.mp mrn
    have nm : NmOk r'.1 := elay ▸ (ok.iok.ok lay mlay).1
    refine ⟨.tuple [.str r'.1, .str l.2.1, .int l.2.2], .int l.1, fun K H v h => ?_, fun K H v h => ?_, fun wr h => ?_, by simp [flatT, flatTs]⟩
    · rcases h with ⟨h, _⟩ | ⟨ink, l', h, dv⟩
      · rw [et] at h; cases h
      · rw [et, a1] at h
        have h' := Option.some.inj h
        have e1 : r'.1 = ink := congrArg Prod.fst h'
        have e2 : l = l' := mG_inj (congrArg Prod.snd h')
        rw [e1, e2]
        exact dv
    · rcases h with ⟨h, _⟩ | ⟨ink, l', h, rfl⟩
      · rw [et] at h; cases h
      · rw [et, a1] at h
        have e2 : l = l' := mG_inj (congrArg Prod.snd (Option.some.inj h))
        rw [e2]
        exact .int _
    · have n1 : NiceW 510 (.int l.1) ∧ (PyData.int l.1).depth ≤ 1 := wrN l.1 (by have e : ((l.1 : Int)).natAbs = l.1 := Int.natAbs_natCast _; rw [e]; exact okl.2.2)
      have n2 : NiceW 753 (.tuple [.str r'.1, .str l.2.1, .int l.2.2]) := by
        have q := niceWs (n := 250) (k := 0) (ds := [.str r'.1, .str l.2.1, .int l.2.2]) fun d m => by
          have st : ∀ {z : Str}, TagOk z → NiceW 250 (.str z) ∧ (PyData.str z).depth ≤ 0 := fun h => by
            have := niceW_tag h
            exact ⟨⟨this.sh, this.nd, this.lf, by have := this.wt; omega, this.lay, this.dp⟩, by simp [PyData.depth]⟩
          rcases List.mem_cons.mp m with e | m
          · rw [e]; exact st nm.1
          rcases List.mem_cons.mp m with e | m
          · rw [e]; exact st okl.1.1
          · rw [List.mem_singleton.mp m]
            exact ⟨niceW_int okl.1.2, by simp [PyData.depth]⟩
        exact q.tup (by decide)
      have q := niceWs (n := 753) (k := 1) (ds := [.int wr, .tuple [.str r'.1, .str l.2.1, .int l.2.2], .int l.1]) fun d m => by
        rcases List.mem_cons.mp m with e | m
        · rw [e]
          have := wrN wr (Nat.lt_trans h (by decide))
          exact ⟨⟨this.1.sh, this.1.nd, this.1.lf, by have := this.1.wt; omega, this.1.lay, this.1.dp⟩, this.2⟩
        rcases List.mem_cons.mp m with e | m
        · rw [e]
          exact ⟨n2, by simp [PyData.depth, PyData.depthAll]⟩
        · rw [List.mem_singleton.mp m]
          exact ⟨⟨n1.1.sh, n1.1.nd, n1.1.lf, by have := n1.1.wt; omega, n1.1.lay, n1.1.dp⟩, n1.2⟩
      exact (q.lst (by decide)).nice (by show 754 * 3 ≤ 50000; decide)
abbrev s_stands : Stmt := topS 68
theorem sc_stands : FnScope ["_law_place", "_law_model_here", "_law_ink", "_law_fade", "_law_row", "_law_marks", "_law_due", "_law_mark", "_law_tag", "_law_strength", "_law_seen_here"] ["_law_place", "_law_model_here"] (defScope s_stands) := ⟨rfl, rfl, rfl, by decide +kernel, rfl, by decide +kernel, by decide +kernel⟩

def spStands (K : PySem.W.Frag) (cP cQ : Addr) : Sp := fun vs H Q _ => ∃ (x p m f g mo rw li : Addr) (inks : List Lay) (wr : Int) (gr : Grd) (n : Nat), vs = [.ref x, .ref mo] ∧ PlaceAt K cP cQ H x p m f g inks wr gr n ∧ ModAt K H mo rw li inks wr gr n ∧ GdOk inks gr ∧ wr.natAbs < 1000 ∧
  ∀ H', Same H H' → Q (.bl true) H'
theorem ok_stands {f : Addr} {fd : FuncData} (F : Fun K "_law_stands" "_law_stands" s_stands f fd) (M : Blt mg) (TPlace : TPlc K mg cQ) (C : CSt P w K mg base cP cQ) : GOk P w K mg base CX0 5 f fd ["_law_place", "_law_model_here"] (spStands K cP cQ) := by
  refine okG F sc_stands (fun vs H Q E h => ?_) (fun cdv A outer s H vs Q E hr gd h => ?_)
  · obtain ⟨x, p, m, f, g, mo, rw, li, inks, wr, gr, n, rfl, _⟩ := h
    rfl
  · obtain ⟨x, p, m, f, g, mo, rw, li, inks, wr, gr, n, rfl, hQ, hm, ok, hw, k⟩ := h
    have hu := hu_of hr
    have hu70 := units70 hr (by decide)
    refine ⟨_, (pss_cons (ps_for PassesOwn.never rfl (pi_list (pe_dget hu (pv 1) pe_str (fun _ _ => rfl))) (pg_tup (n := 2) (by rfl) (pgs_cons (pg_name (i := 2) sc_stands.nd rfl (by first | exact Or.inl rfl | exact Or.inr rfl)) (pgs_cons (pg_name (i := 3) sc_stands.nd rfl (by first | exact Or.inl rfl | exact Or.inr rfl)) pgs_nil))) (pss_cons (ps_par (i := 4) (j := 5) (by rfl) sc_stands.nd rfl rfl (by decide) rfl rfl (pa_cons (methC C.Place_row TPlace.cl hr (pv 0) (pa_cons (pv 2) pa_nil)) (pa_cons (methC C.Place_marks TPlace.cl hr (pv 0) (pa_cons (pv 2) pa_nil)) pa_nil)) (by rfl))
      (pss_cons (ps_set (i := 6) sc_stands.nd rfl (by first | exact Or.inl rfl | exact Or.inr rfl) (pe_dget hu (pe_dget hu (pv 1) pe_str (fun _ _ => rfl)) (pv 2) (fun _ _ => rfl)))
      (pss_cons (ps_if (pt_cmpR op_ne (pe_callB (k_repr (K := K) rfl gd hu70) (by rfl) M.repr (by decide +kernel) (pa_cons (pv 4) pa_nil)) (pe_callB (k_repr (K := K) rfl gd hu70) (by rfl) M.repr (by decide +kernel) (pa_cons (pe_callTy (k_tup (K := K) rfl) (by rfl) M.tuple (by decide +kernel) (pa_cons (pe_lc (own := [("_law_mark", 7), ("_law_tag", 8), ("_law_strength", 9)]) (g := gTup K 3 (gCons (gName 7) (gCons (gName 8) (gCons (gName 9) gNil)))) (tt := tYes) rfl sc_stands.nd (pi_list (pv 6)) (blkOk_by (own := [("_law_mark", 7), ("_law_tag", 8), ("_law_strength", 9)]) (N := ["_law_place", "_law_model_here", "_law_ink", "_law_fade", "_law_row", "_law_marks", "_law_due", "_law_mark", "_law_tag", "_law_strength", "_law_seen_here"]) (sc := defScope s_stands) (by decide +kernel)) (fun _ _ _ _ _ => (pg_tup (n := 3) (by rfl) (pgs_cons (pg_name (i := 7) sc_stands.nd rfl (by first | exact Or.inl rfl | exact Or.inr rfl)) (pgs_cons (pg_name (i := 8) sc_stands.nd rfl (by first | exact Or.inl rfl | exact Or.inr rfl)) (pgs_cons (pg_name (i := 9) sc_stands.nd rfl (by first | exact Or.inl rfl | exact Or.inr rfl)) pgs_nil))))) (fun _ _ _ _ _ => pts_nil) (fun _ _ _ _ _ => (pe_tup (pa_cons (pv 8) (pa_cons (pv 9) pa_nil))))) pa_nil)) pa_nil)) (nomark _)) (pss_one (ps_ret pe_bl)) pss_nil)
      (pss_cons (ps_if (pt_cmpR op_ne (pe_callB (k_repr (K := K) rfl gd hu70) (by rfl) M.repr (by decide +kernel) (pa_cons (pv 5) pa_nil)) (pe_callB (k_repr (K := K) rfl gd hu70) (by rfl) M.repr (by decide +kernel) (pa_cons (pe_lc (own := [("_law_mark", 7), ("_law_tag", 8), ("_law_strength", 9)]) (g := gTup K 3 (gCons (gName 7) (gCons (gName 8) (gCons (gName 9) gNil)))) (tt := tYes) rfl sc_stands.nd (pi_list (pv 6)) (blkOk_by (own := [("_law_mark", 7), ("_law_tag", 8), ("_law_strength", 9)]) (N := ["_law_place", "_law_model_here", "_law_ink", "_law_fade", "_law_row", "_law_marks", "_law_due", "_law_mark", "_law_tag", "_law_strength", "_law_seen_here"]) (sc := defScope s_stands) (by decide +kernel)) (fun _ _ _ _ _ => (pg_tup (n := 3) (by rfl) (pgs_cons (pg_name (i := 7) sc_stands.nd rfl (by first | exact Or.inl rfl | exact Or.inr rfl)) (pgs_cons (pg_name (i := 8) sc_stands.nd rfl (by first | exact Or.inl rfl | exact Or.inr rfl)) (pgs_cons (pg_name (i := 9) sc_stands.nd rfl (by first | exact Or.inl rfl | exact Or.inr rfl)) pgs_nil))))) (fun _ _ _ _ _ => pts_nil) (fun _ _ _ _ _ => (pv 7))) pa_nil)) (nomark _)) (pss_one (ps_ret pe_bl)) pss_nil)
      (pss_one (ps_expr (pe_bm PySem.F.plainAttrs_list PySem.F.slot_list_append PySem.F.type_list_append mt_append (pv 5) (pa_cons (pv 5) pa_nil)))))))))
      (pss_cons (ps_asg (callH C.seen hr (by rfl) (pa_cons (pv 1) pa_nil)) (pg_tup (n := 2) (by rfl) (pgs_cons (pg_name (i := 10) sc_stands.nd rfl (by first | exact Or.inl rfl | exact Or.inr rfl)) (pgs_cons (pg_name (i := 7) sc_stands.nd rfl (by first | exact Or.inl rfl | exact Or.inr rfl)) pgs_nil))))
      (pss_one (ps_ret (pe_cmpR op_eq (pe_callB (k_repr (K := K) rfl gd hu70) (by rfl) M.repr (by decide +kernel) (pa_cons (pe_lst (pa_cons (methC0 C.Place_wear TPlace.cl hr (pv 0)) (pa_cons (methC0 C.Place_seen TPlace.cl hr (pv 0)) (pa_cons (methC0 C.Place_seen_mark TPlace.cl hr (pv 0)) pa_nil)))) pa_nil)) (pe_callB (k_repr (K := K) rfl gd hu70) (by rfl) M.repr (by decide +kernel) (pa_cons (pe_lst (pa_cons (pe_dget hu (pv 1) pe_str (fun _ _ => rfl)) (pa_cons (pv 10) (pa_cons (pv 7) pa_nil)))) pa_nil)) (nomark _)))))), ?_⟩
    obtain ⟨dx, hx⟩ := hQ.ob
    simp only [tSeq, tIfS, tTest, tOp, tUn, tVar, tC, rI, rI0, rU, rEq, rNe, rIxL, rIxT, rIxS, tCB, tCons, tNil, tRet, tRetN, tAsg, gTup, gCons, gNil, gName, gSub, rSetL, tNext, tDrop, tLst, tTup, tCall, tIf, tB, tAnd, tOr, tNot, tSl, tPart, tNoPart, tM1, tM0, tBM, tBM0, tLcE, tForE, iRng1, iRng2, iTup, iList, iStr, tYes, wipe, startDef, cxK, noxK, exists_and_left, exists_eq_left', exists_eq_left, exists_eq_right, Option.some.injEq, V.int.injEq, V.ref.injEq, V.str.injEq, V.bl.injEq, List.cons.injEq, and_true, true_and, List.append_nil, List.map_cons, List.map_nil, List.length_cons, List.length_nil, List.replicate, List.nil_append, List.cons_append, List.set_cons_zero, List.set_cons_succ, List.getElem?_cons_zero, List.getElem?_cons_succ, decide_eq_true_eq, exists_const, Nat.reduceAdd, Nat.reduceSub, List.replicate_succ, List.replicate_zero, exists_prop, and_assoc, List.set_nil, rLenK, rTupK, rLstK, rReprK, rEqD, rNeD, rIn, rAll, rAppend, rCat, ↓reduceIte, Bool.false_eq_true, iEnumT, rSortedPO, rIsi, rRep, rReverse, tLstRg, tTupRg, tRg1, tRg2, rSlL, rSlT, rSortedI, rSlF, rCatF, rMax, tLc2E, rSortedL, rSortedT, gUnl, tPar, rReprX, tChain, tDNewK, tDisp, tPairs, tAndV, tNotV, tFd, sFd, tMeth, tMake, tMakeK, gStar, iZipM, iItems, tLock, tSpread, tDcE, tDGet, sDPut, tPar3, tNever, rIxD, tChain, iEnum, tDIn, tDNotIn, gHd, spPRow, spPMarks, spPlW, spPSeen, spPSeenM, spLSeen]
    obtain ⟨us, hli, ali⟩ := hm.inks
    obtain ⟨kvs, hrw, pr⟩ := hm.rows
    have ho := hm.ob
    have nd : (gr.map (·.1)).Nodup := by rw [ok.nms]; exact ok.iok.nd
    have g1 := DGet.k (k := (Sum.inr "inks" : L2.Key)) ho
    rw [mk_inks] at g1
    have g2 := DGet.k (k := (Sum.inr "rows" : L2.Key)) ho
    rw [mk_rows] at g2
    have g4 := DGet.k (k := (Sum.inr "wear" : L2.Key)) ho
    rw [mk_wear] at g4
    have len := lays_len ali
    have lenG : gr.length = inks.length := by
      have := congrArg List.length ok.nms
      simpa using this
    refine ⟨_, g1, li, rfl, ⟨us, SqL.of hli⟩, ?_⟩
    refine for_it (walk_list (xs := us)) (fun i σ H' => ∃ (a2 a3 a4 a5 a6 a7 a8 a9 a10 : Option V), σ = [some (.ref x), some (.ref mo), a2, a3, a4, a5, a6, a7, a8, a9, a10] ∧ Same H H') ⟨none, none, none, none, none, none, none, none, none, rfl, Same.refl _⟩
      (fun i σ H' _ ⟨_, _, _, _, _, _, _, _, _, _, s⟩ => SqL.of (s _ _ hli)) ?_ ?_
    · rintro i z σ Ha H' hi ⟨a2, a3, a4, a5, a6, a7, a8, a9, a10, rfl, sa⟩ ⟨rfl, e⟩
      obtain ⟨lay, b, e3, rfl, sq, _⟩ := lays_get ali e
      have er : gr[i]? = some gr[i] := List.getElem?_eq_getElem (by omega)
      generalize gr[i] = r at er
      have en : r.1 = lay.1 := by
        have q : (gr.map (·.1))[i]? = (inks.map (·.1))[i]? := by rw [ok.nms]
        rw [List.getElem?_map, List.getElem?_map, er, e3] at q
        exact Option.some.inj q
      have mr : r ∈ gr := List.mem_of_getElem? er
      obtain ⟨kv, ev, _, la, ls, el, hl, al⟩ := prel_some (fun r : Str × List Lyr => r.1) (R := LRel K H) (fun _ _ h => h.1) pr nd mr
      have g3 := DGet.k (k := (Sum.inr r.1 : L2.Key)) hrw
      rw [ev, el] at g3
      have okr := ok.lay r mr
      have sm := ok.small r mr
      simp only [tSeq, tIfS, tTest, tOp, tUn, tVar, tC, rI, rI0, rU, rEq, rNe, rIxL, rIxT, rIxS, tCB, tCons, tNil, tRet, tRetN, tAsg, gTup, gCons, gNil, gName, gSub, rSetL, tNext, tDrop, tLst, tTup, tCall, tIf, tB, tAnd, tOr, tNot, tSl, tPart, tNoPart, tM1, tM0, tBM, tBM0, tLcE, tForE, iRng1, iRng2, iTup, iList, iStr, tYes, wipe, startDef, cxK, noxK, exists_and_left, exists_eq_left', exists_eq_left, exists_eq_right, Option.some.injEq, V.int.injEq, V.ref.injEq, V.str.injEq, V.bl.injEq, List.cons.injEq, and_true, true_and, List.append_nil, List.map_cons, List.map_nil, List.length_cons, List.length_nil, List.replicate, List.nil_append, List.cons_append, List.set_cons_zero, List.set_cons_succ, List.getElem?_cons_zero, List.getElem?_cons_succ, decide_eq_true_eq, exists_const, Nat.reduceAdd, Nat.reduceSub, List.replicate_succ, List.replicate_zero, exists_prop, and_assoc, List.set_nil, rLenK, rTupK, rLstK, rReprK, rEqD, rNeD, rIn, rAll, rAppend, rCat, ↓reduceIte, Bool.false_eq_true, iEnumT, rSortedPO, rIsi, rRep, rReverse, tLstRg, tTupRg, tRg1, tRg2, rSlL, rSlT, rSortedI, rSlF, rCatF, rMax, tLc2E, rSortedL, rSortedT, gUnl, tPar, rReprX, tChain, tDNewK, tDisp, tPairs, tAndV, tNotV, tFd, sFd, tMeth, tMake, tMakeK, gStar, iZipM, iItems, tLock, tSpread, tDcE, tDGet, sDPut, tPar3, tNever, rIxD, tChain, iEnum, tDIn, tDNotIn, gHd, spPRow, spPMarks]
      have xa := sa _ _ hx
      refine ⟨_, St.tup potN (St.ofSame potN sa) sq, rfl, _, _, rfl, _, _, rfl, rfl, dx, _, xa, rfl, p, m, f, g, inks, wr, gr, n, r, by rw [en], hQ.same sa, ok.toPlOk, mr, fun rv H1 s1 dr => ?_⟩
      have sa1 := smT sa s1
      refine ⟨dx, _, sa1 _ _ hx, rfl, p, m, f, g, inks, wr, gr, n, r, by rw [en], hQ.same sa1, ok.toPlOk, mr, fun q H2 nq s2 hq => ?_⟩
      have s02 := smT sa1 s2
      have nq0 : H q = none := smFr sa1 nq
      have niceR := nice_rDs2 sm (fun x m => (okr x m).1)
      have fl := flat_rDs r.2
      have alL := ls_len al
      have hlA := s02 _ _ hl
      have alA := smDps s02 (flat_lDs r.2) al
      refine ⟨_, dget_same s02 g2, rw, rfl, _, by rw [← en]; exact dget_same s02 g3, _, smDp s2 fl dr, niceR, la, rfl, ⟨ls, SqL.of hlA⟩, ?_⟩
      refine lcK (K := K) (walk_list (xs := ls)) none (fun i ds => ds = (r.2.take i).map rD) potN (fun H s => SqL.of (s.toSame _ _ hlA)) (by omega) rfl ?_ ?_
      · rintro j z Hb Hb' ds C N hj sb _ rfl ⟨rfl, ez⟩ go _
        obtain ⟨y, by_, ey, ex, sy⟩ := ls_at alA (i := j) (by omega)
        obtain rfl : V.ref by_ = z := Option.some.inj (ex.symm.trans ez)
        simp only [tSeq, tIfS, tTest, tOp, tUn, tVar, tC, rI, rI0, rU, rEq, rNe, rIxL, rIxT, rIxS, tCB, tCons, tNil, tRet, tRetN, tAsg, gTup, gCons, gNil, gName, gSub, rSetL, tNext, tDrop, tLst, tTup, tCall, tIf, tB, tAnd, tOr, tNot, tSl, tPart, tNoPart, tM1, tM0, tBM, tBM0, tLcE, tForE, iRng1, iRng2, iTup, iList, iStr, tYes, wipe, startDef, cxK, noxK, exists_and_left, exists_eq_left', exists_eq_left, exists_eq_right, Option.some.injEq, V.int.injEq, V.ref.injEq, V.str.injEq, V.bl.injEq, List.cons.injEq, and_true, true_and, List.append_nil, List.map_cons, List.map_nil, List.length_cons, List.length_nil, List.replicate, List.nil_append, List.cons_append, List.set_cons_zero, List.set_cons_succ, List.getElem?_cons_zero, List.getElem?_cons_succ, decide_eq_true_eq, exists_const, Nat.reduceAdd, Nat.reduceSub, List.replicate_succ, List.replicate_zero, exists_prop, and_assoc, List.set_nil, rLenK, rTupK, rLstK, rReprK, rEqD, rNeD, rIn, rAll, rAppend, rCat, ↓reduceIte, Bool.false_eq_true, iEnumT, rSortedPO, rIsi, rRep, rReverse, tLstRg, tTupRg, tRg1, tRg2, rSlL, rSlT, rSortedI, rSlF, rCatF, rMax, tLc2E, rSortedL, rSortedT, gUnl, tPar, rReprX, tChain, tDNewK, tDisp, tPairs, tAndV, tNotV, tFd, sFd, tMeth, tMake, tMakeK, gStar, iZipM, iItems, tLock, tSpread, tDcE, tDGet, sDPut, tPar3, tNever, rIxD, tChain, iEnum, tDIn, tDNotIn, gHd]
        refine ⟨_, St.tup potN sb sy, rfl, _, _, rfl, _, _, rfl, _, _, rfl, rfl, by decide, fun t ht => ?_⟩
        refine go _ _ (rD y) (St.new potN ht) (flat_rD y) (.tup (SqT.of upd_same) (.cons (.str _) (.cons (.int _) .nil))) ?_
        rw [take_succ_map _ _ ey]
      · rintro D acc ds H3 hD sD hD3 fl3 al3 rfl
        rw [alL, List.take_length] at al3 fl3
        have s3 := sD.toSame
        refine ⟨D, rfl, acc, .inl ⟨SqL.of hD3, fun t ht => ?_⟩⟩
        have s4 : Same H3 (upd H3 t (.tup acc)) := same_new ht
        have t4 : (upd H3 t (.tup acc)) t = some (.tup acc) := upd_same
        generalize upd H3 t (.tup acc) = H4 at s4 t4
        refine ⟨_, .tup (SqT.of t4) (smDps s4 fl3 al3), niceR, rfl, ?_⟩
        rw [if_neg (by simp)]
        have s24 := smT s3 s4
        have hq4 := s24 _ _ hq
        have hlB := s24 _ _ hlA
        have niceM : Nice (.list ((r.2.map fun l : Lyr => (l.1 : Int)).map PyData.int)) := nice_marks sm (fun l ml => (okr l ml).2.2)
        have dm : Dp K H4 (.ref q) (.list ((r.2.map fun l : Lyr => (l.1 : Int)).map PyData.int)) := .lst (SqL.of (by rw [hq4, show (r.2.map fun l : Lyr => V.int l.1) = (r.2.map fun l : Lyr => (l.1 : Int)).map V.int by rw [List.map_map]; rfl])) (dps_ints _)
        refine ⟨_, dm, niceM, la, rfl, ⟨ls, SqL.of hlB⟩, ?_⟩
        refine lcK (K := K) (walk_list (xs := ls)) none (fun i ds => ds = ((r.2.take i).map fun l : Lyr => (l.1 : Int)).map PyData.int) potN (fun H s => SqL.of (s.toSame _ _ hlB)) (by omega) rfl ?_ ?_
        · rintro j z Hb Hb' ds C N hj sb _ rfl ⟨rfl, ez⟩ go _
          obtain ⟨y, by_, ey, ex, sy⟩ := ls_at (smDps s24 (flat_lDs r.2) alA) (i := j) (by omega)
          obtain rfl : V.ref by_ = z := Option.some.inj (ex.symm.trans ez)
          simp only [tSeq, tIfS, tTest, tOp, tUn, tVar, tC, rI, rI0, rU, rEq, rNe, rIxL, rIxT, rIxS, tCB, tCons, tNil, tRet, tRetN, tAsg, gTup, gCons, gNil, gName, gSub, rSetL, tNext, tDrop, tLst, tTup, tCall, tIf, tB, tAnd, tOr, tNot, tSl, tPart, tNoPart, tM1, tM0, tBM, tBM0, tLcE, tForE, iRng1, iRng2, iTup, iList, iStr, tYes, wipe, startDef, cxK, noxK, exists_and_left, exists_eq_left', exists_eq_left, exists_eq_right, Option.some.injEq, V.int.injEq, V.ref.injEq, V.str.injEq, V.bl.injEq, List.cons.injEq, and_true, true_and, List.append_nil, List.map_cons, List.map_nil, List.length_cons, List.length_nil, List.replicate, List.nil_append, List.cons_append, List.set_cons_zero, List.set_cons_succ, List.getElem?_cons_zero, List.getElem?_cons_succ, decide_eq_true_eq, exists_const, Nat.reduceAdd, Nat.reduceSub, List.replicate_succ, List.replicate_zero, exists_prop, and_assoc, List.set_nil, rLenK, rTupK, rLstK, rReprK, rEqD, rNeD, rIn, rAll, rAppend, rCat, ↓reduceIte, Bool.false_eq_true, iEnumT, rSortedPO, rIsi, rRep, rReverse, tLstRg, tTupRg, tRg1, tRg2, rSlL, rSlT, rSortedI, rSlF, rCatF, rMax, tLc2E, rSortedL, rSortedT, gUnl, tPar, rReprX, tChain, tDNewK, tDisp, tPairs, tAndV, tNotV, tFd, sFd, tMeth, tMake, tMakeK, gStar, iZipM, iItems, tLock, tSpread, tDcE, tDGet, sDPut, tPar3, tNever, rIxD, tChain, iEnum, tDIn, tDNotIn, gHd]
          refine ⟨_, St.tup potN sb sy, rfl, _, _, rfl, _, _, rfl, _, _, rfl, rfl, ?_⟩
          refine go _ _ (.int y.1) (St.refl potN) (by simp [flatT]) (.int _) ?_
          rw [take_succ_map _ _ ey, List.map_append]
          rfl
        · rintro D2 acc2 ds2 H5 hD2 sD2 hD5 fl5 al5 rfl
          rw [alL, List.take_length] at al5
          have s5 := sD2.toSame
          have hq5 := s5 _ _ hq4
          refine ⟨_, .lst (SqL.of hD5) al5, niceM, rfl, ?_⟩
          rw [if_neg (by simp)]
          have line : (1000 : Nat) < sizeLine := by decide
          refine ⟨.inl ⟨rfl, _, SqL.of hq5⟩, _, hq5, by rw [List.length_map]; omega, fun a o e => ?_⟩
          rw [upd_ne (ne_of_none e nq0)]
          exact s5 _ _ (s24 _ _ (s02 _ _ e))
    · rintro σ H' ⟨a2, a3, a4, a5, a6, a7, a8, a9, a10, rfl, sa⟩
      simp only [tSeq, tIfS, tTest, tOp, tUn, tVar, tC, rI, rI0, rU, rEq, rNe, rIxL, rIxT, rIxS, tCB, tCons, tNil, tRet, tRetN, tAsg, gTup, gCons, gNil, gName, gSub, rSetL, tNext, tDrop, tLst, tTup, tCall, tIf, tB, tAnd, tOr, tNot, tSl, tPart, tNoPart, tM1, tM0, tBM, tBM0, tLcE, tForE, iRng1, iRng2, iTup, iList, iStr, tYes, wipe, startDef, cxK, noxK, exists_and_left, exists_eq_left', exists_eq_left, exists_eq_right, Option.some.injEq, V.int.injEq, V.ref.injEq, V.str.injEq, V.bl.injEq, List.cons.injEq, and_true, true_and, List.append_nil, List.map_cons, List.map_nil, List.length_cons, List.length_nil, List.replicate, List.nil_append, List.cons_append, List.set_cons_zero, List.set_cons_succ, List.getElem?_cons_zero, List.getElem?_cons_succ, decide_eq_true_eq, exists_const, Nat.reduceAdd, Nat.reduceSub, List.replicate_succ, List.replicate_zero, exists_prop, and_assoc, List.set_nil, rLenK, rTupK, rLstK, rReprK, rEqD, rNeD, rIn, rAll, rAppend, rCat, ↓reduceIte, Bool.false_eq_true, iEnumT, rSortedPO, rIsi, rRep, rReverse, tLstRg, tTupRg, tRg1, tRg2, rSlL, rSlT, rSortedI, rSlF, rCatF, rMax, tLc2E, rSortedL, rSortedT, gUnl, tPar, rReprX, tChain, tDNewK, tDisp, tPairs, tAndV, tNotV, tFd, sFd, tMeth, tMake, tMakeK, gStar, iZipM, iItems, tLock, tSpread, tDcE, tDGet, sDPut, tPar3, tNever, rIxD, tChain, iEnum, tDIn, tDNotIn, gHd, spPlW, spPSeen, spPSeenM, spLSeen]
      refine ⟨rw, li, inks, wr, gr, n, hm.same sa, ok, fun t a b H1 s1 ht sp sm => ⟨_, SqT.of ht, rfl, _, _, rfl, _, _, rfl, rfl, dx, _, s1 _ _ (sa _ _ hx), rfl, p, m, f, g, inks, wr, gr, n, hQ.same (smT sa s1), dx, _, s1 _ _ (sa _ _ hx), rfl, p, m, f, g, inks, wr, gr, n, hQ.same (smT sa s1), ok.toPlOk, fun v2 H2 s2 sp2 => ?_⟩⟩
      obtain ⟨d, e, hd, he, hn, fl⟩ := seen_dat ok
      have s02 := smT sa (smT s1 s2)
      have nice := hn wr hw
      refine ⟨dx, _, s02 _ _ hx, rfl, p, m, f, g, inks, wr, gr, n, hQ.same s02, ok.toPlOk, fun v3 H3 s3 sm3 => ⟨by decide, fun q1 hq1 => ?_⟩⟩
      have s4 : Same H3 (upd H3 q1 (.lst [.int wr, v2, v3])) := same_new hq1
      have q4 : (upd H3 q1 (.lst [.int wr, v2, v3])) q1 = some (.lst [.int wr, v2, v3]) := upd_same
      generalize upd H3 q1 (.lst [.int wr, v2, v3]) = H4 at s4 q4
      have s24 := smT s3 s4
      refine ⟨_, .lst (SqL.of q4) (.cons (.int _) (.cons (smDp s24 fl (hd K H2 v2 sp2)) (.cons (he K H4 v3 sm3) .nil))), nice, _, dget_same (smT s02 s24) g4, by decide, fun q2 hq2 => ?_⟩
      have s5 : Same H4 (upd H4 q2 (.lst [.int wr, a, b])) := same_new hq2
      have q5 : (upd H4 q2 (.lst [.int wr, a, b])) q2 = some (.lst [.int wr, a, b]) := upd_same
      generalize upd H4 q2 (.lst [.int wr, a, b]) = H5 at s5 q5
      refine ⟨_, .lst (SqL.of q5) (.cons (.int _) (.cons (smDp (smT s2 (smT s24 s5)) fl (hd K H1 a sp)) (.cons (he K H5 b sm) .nil))), nice, rfl, ?_⟩
      rw [decide_eq_true rfl]
      exact k _ (smT s02 (smT s24 s5))
end

/-! ### the model's deeds; a place and its model side by side -/
structure PMx (K : PySem.W.Frag) (cP cQ : Addr) (H : Hp) (x p m f mo rw li : Addr) (inks : List Lay) (wr wm : Int) (gr : Grd) (n : Nat) (gm : Grd) (nm : Nat) : Prop where
  pl : ∃ g, PlaceAt K cP cQ H x p m f g inks wr gr n ∧ g ≠ mo ∧ g ≠ rw
  md : ModAt K H mo rw li inks wm gm nm
  nmr : mo ≠ rw
  f1 : f ≠ mo
  f2 : f ≠ rw
def Fr4 (pt x mo rw : Addr) (H H' : Hp) : Prop := ∀ a o, a ≠ pt → a ≠ x → a ≠ mo → a ≠ rw → H a = some o → H' a = some o
theorem Fr4.trans {pt x mo rw : Addr} {H H1 H2 : Hp} (a : Fr4 pt x mo rw H H1) (b : Fr4 pt x mo rw H1 H2) : Fr4 pt x mo rw H H2 := fun c o n1 n2 n3 n4 e => b c o n1 n2 n3 n4 (a c o n1 n2 n3 n4 e)
theorem Fr4.same {pt x mo rw : Addr} {H H1 : Hp} (s : Same H H1) : Fr4 pt x mo rw H H1 := fun c o _ _ _ _ e => s c o e
theorem Fr4.st {pt x mo rw : Addr} {H H1 : Hp} (s : Fd.St (some pt) H H1) : Fr4 pt x mo rw H H1 := fun c o n _ _ _ e => s.same c o (fun z => n (Option.some.inj z)) e
theorem Fr4.pl {pt x mo rw : Addr} {H H1 : Hp} (s : ∀ a o, a ≠ x → H a = some o → H1 a = some o) : Fr4 pt x mo rw H H1 := fun c o _ n _ _ e => s c o n e
theorem Fr4.md {pt x mo rw : Addr} {H H1 : Hp} (s : ∀ a o, a ≠ mo → a ≠ rw → H a = some o → H1 a = some o) : Fr4 pt x mo rw H H1 := fun c o _ _ n1 n2 e => s c o n1 n2 e
section
variable {K : PySem.W.Frag} {cP cQ : Addr} {H H' : Hp} {x p m f mo rw li g' pt : Addr} {inks : List Lay} {wr wm wr' : Int} {gr gm gr' gm' : Grd} {n nm n' nm' : Nat}
theorem PMx.same (h : PMx K cP cQ H x p m f mo rw li inks wr wm gr n gm nm) (s : Same H H') : PMx K cP cQ H' x p m f mo rw li inks wr wm gr n gm nm := by
  obtain ⟨⟨g, a, b⟩, c, d, e1, e2⟩ := h
  exact ⟨⟨g, a.same s, b⟩, c.same s, d, e1, e2⟩
theorem PMx.kinds (h : PMx K cP cQ H x p m f mo rw li inks wr wm gr n gm nm) : (∃ dx fs, H x = some (.ins cQ dx fs)) ∧ (∃ ks, H mo = some (.dK ks)) ∧ ∃ ks, H rw = some (.dK ks) := by
  obtain ⟨⟨g, a, b⟩, c, d, e1, e2⟩ := h
  obtain ⟨dx, hx⟩ := a.ob
  obtain ⟨ks, hr, _⟩ := c.rows
  exact ⟨⟨dx, _, hx⟩, ⟨_, c.ob⟩, ks, hr⟩
/-- a pot's heap is another -/
theorem PMx.st (h : PMx K cP cQ H x p m f mo rw li inks wr wm gr n gm nm) (pp : Pot H pt) (s : Fd.St (some pt) H H') : PMx K cP cQ H' x p m f mo rw li inks wr wm gr n gm nm := by
  obtain ⟨⟨g, a, b1, b2⟩, c, d, e1, e2⟩ := h
  obtain ⟨u, v, hp⟩ := pp
  have sm : ∀ a o, a ≠ pt → H a = some o → H' a = some o := fun a o n e => s.same a o (fun z => n (Option.some.inj z)) e
  have dps : ∀ {xs ds}, flatTs ds = true → DpAll K H xs ds → DpAll K H' xs ds := fun fl al => dpsSt (Pot.potO ⟨u, v, hp⟩) s fl al
  have lst : ∀ {a xs ys}, H a = some (.lst xs) → DpAll K H xs (List.map lD ys) → H' a = some (.lst xs) := fun {a xs ys} e al => by
    by_cases z : a = pt
    · subst z
      rw [hp] at e
      cases e
      cases ys with
      | nil => cases al
      | cons y ys =>
        cases al with
        | cons h1 _ => obtain ⟨_, _, ez, _⟩ := Dp.tupInv h1; cases ez
    · exact sm _ _ z e
  have lst2 : ∀ {a xs} {ys : List Lay}, H a = some (.lst xs) → DpAll K H xs (List.map layD ys) → H' a = some (.lst xs) := fun {a xs ys} e al => by
    by_cases z : a = pt
    · subst z
      rw [hp] at e
      cases e
      cases ys with
      | nil => cases al
      | cons y ys =>
        cases al with
        | cons h1 _ => obtain ⟨_, _, ez, _⟩ := Dp.tupInv h1; cases ez
    · exact sm _ _ z e
  obtain ⟨⟨dx, hx⟩, ⟨⟨dp, h1⟩, ⟨us, h2, h3⟩, h4⟩, ⟨kvs, h5, h6⟩, h7⟩ := a
  obtain ⟨c1, ⟨us2, c2, c3⟩, kv2, c4, c5⟩ := c
  refine ⟨⟨g, ⟨⟨dx, sm _ _ (ne_of hx hp (by intro z; cases z)) hx⟩, ⟨⟨dp, sm _ _ (ne_of h1 hp (by intro z; cases z)) h1⟩, ⟨us, lst2 h2 h3, dps (flat_lays _) h3⟩, sm _ _ (ne_of h4 hp (by intro z; cases z)) h4⟩, ⟨kvs, sm _ _ (ne_of h5 hp (by intro z; cases z)) h5, ?_⟩, h7⟩, b1, b2⟩,
    ⟨sm _ _ (ne_of c1 hp (by intro z; cases z)) c1, ⟨us2, lst2 c2 c3, dps (flat_lays _) c3⟩, kv2, sm _ _ (ne_of c4 hp (by intro z; cases z)) c4, ?_⟩, d, e1, e2⟩
  · exact grels (flat_gG _) (fun a xs t => St.tup (Pot.potO ⟨u, v, hp⟩) s t) h6
  · refine pairedMem c5 fun kv r _ q => ?_
    obtain ⟨q1, l, us, q2, q3, q4⟩ := q
    exact ⟨q1, l, us, q2, lst q3 q4, dps (flat_lDs _) q4⟩
theorem PMx.place (h : PMx K cP cQ H x p m f mo rw li inks wr wm gr n gm nm) (hQ : PlaceAt K cP cQ H' x p m f g' inks wr' gr' n') (hg : H g' = none) (s : ∀ a o, a ≠ x → H a = some o → H' a = some o) : PMx K cP cQ H' x p m f mo rw li inks wr' wm gr' n' gm nm := by
  obtain ⟨⟨g, a, b1, b2⟩, c, d, e1, e2⟩ := h
  obtain ⟨dx, hx⟩ := a.ob
  obtain ⟨kvs, hrw, _⟩ := c.rows
  have ch := chgIns hx s
  have nS : ∀ {q}, q ≠ x → q ∉ [x] := fun h m => h (List.mem_singleton.mp m)
  exact ⟨⟨g', hQ, Ne.symm (ne_of_none c.ob hg), Ne.symm (ne_of_none hrw hg)⟩, c.chg ch (nS (ne_of c.ob hx (by intro z; cases z))) (nS (ne_of hrw hx (by intro z; cases z))), d, e1, e2⟩
theorem PMx.model (h : PMx K cP cQ H x p m f mo rw li inks wr wm gr n gm nm) {wm' : Int} (hM : ModAt K H' mo rw li inks wm' gm' nm') (s : ∀ a o, a ≠ mo → a ≠ rw → H a = some o → H' a = some o) : PMx K cP cQ H' x p m f mo rw li inks wr wm' gr n gm' nm' := by
  obtain ⟨⟨g, a, b1, b2⟩, c, d, e1, e2⟩ := h
  obtain ⟨dx, hx⟩ := a.ob
  obtain ⟨kvs, hrw, _⟩ := c.rows
  obtain ⟨dp, hp⟩ := a.pal.ob
  have ch : Chg [mo, rw] H H' := by
    refine ⟨fun q m => ?_, fun a o n e => ?_⟩
    · have m' : q = mo ∨ q = rw := by simpa using m
      rcases m' with rfl | rfl
      · exact ⟨_, c.ob, True.intro⟩
      · exact ⟨_, hrw, True.intro⟩
    · have n' : a ≠ mo ∧ a ≠ rw := by simpa using n
      exact s a o n'.1 n'.2 e
  have nT : ∀ {q}, q ≠ mo → q ≠ rw → q ∉ [mo, rw] := fun h1 h2 m => by
    rcases List.mem_cons.mp m with e | e
    · exact h1 e
    · exact h2 (List.mem_singleton.mp e)
  exact ⟨⟨g, a.chg ch (nT (ne_of hx c.ob (by intro z; cases z)) (ne_of hx hrw (by intro z; cases z))) (nT (ne_of hp c.ob (by intro z; cases z)) (ne_of hp hrw (by intro z; cases z))) (nT e1 e2) (nT b1 b2), b1, b2⟩, hM, d, e1, e2⟩
end
theorem weakY_succ (ls : List Lyr) (t : Int) {i : Nat} {y : Lyr} (e : ls[i]? = some y) : weakY (ls.take (i + 1)) t = weakY (ls.take i) t ++ (if 0 < y.2.2 + -t then [(y.1, y.2.1, y.2.2 + -t)] else []) := by
  unfold weakY addY
  rw [take_succ_map _ ls e, List.filter_append]
  congr 1
  rw [List.filter_cons, List.filter_nil]
  by_cases c : 0 < y.2.2 + -t
  · rw [if_pos c, if_pos (show posY (y.1, y.2.1, y.2.2 + -t) = true from decide_eq_true c)]
  · rw [if_neg c, if_neg (by simp [posY, c])]
section
variable {P : Program} {w : World} {K : PySem.W.Frag} {mg : Str → Option Value} {base : Heap} {cP cQ : Addr}
abbrev s_less : Stmt := topS 66
theorem sc_less : FnScope ["_law_model_here", "_law_ink", "_law_n", "_law_left", "_law_mark", "_law_tag", "_law_strength"] ["_law_model_here", "_law_ink", "_law_n"] (defScope s_less) := ⟨rfl, rfl, rfl, by decide +kernel, rfl, by decide +kernel, by decide +kernel⟩

def spLess (K : PySem.W.Frag) : Sp := fun vs H Q _ => ∃ (mo rw li : Addr) (inks : List Lay) (wr : Int) (gr : Grd) (n : Nat) (r : Str × List Lyr) (k : Int), vs = [.ref mo, .str r.1, .int k] ∧ ModAt K H mo rw li inks wr gr n ∧ r ∈ gr ∧ (gr.map (·.1)).Nodup ∧ gr.length ≤ 8 ∧ r.2.length ≤ 500 ∧ mo ≠ rw ∧
  ∀ H', ModAt K H' mo rw li inks wr (lessP gr r.1 k) n → (∀ a o, a ≠ mo → a ≠ rw → H a = some o → H' a = some o) → Q .non H'
theorem ok_less {f : Addr} {fd : FuncData} (F : Fun K "_law_less" "_law_less" s_less f fd) (M : Blt mg) : FnOk P w K mg base CX0 1 f fd ["_law_model_here", "_law_ink", "_law_n"] (spLess K) := by
  refine F.ok sc_less (fun vs H Q E h => ?_) (fun cdv A outer s H vs Q E hr h => ?_)
  · obtain ⟨mo, rw, li, inks, wr, gr, n, r, k, rfl, _⟩ := h
    rfl
  · obtain ⟨mo, rw, li, inks, wr, gr, n, r, t, rfl, hm, mr, nd, g8, l5, nmr, k⟩ := h
    have hu := hu_of hr
    refine ⟨_, (pss_cons (ps_set (i := 3) sc_less.nd rfl (by first | exact Or.inl rfl | exact Or.inr rfl) (pe_lst pa_nil))
      (pss_cons (ps_for PassesOwn.never rfl (pi_list (pe_dget hu (pe_dget hu (pv 0) pe_str (fun _ _ => rfl)) (pv 1) (fun _ _ => rfl))) (pg_tup (n := 3) (by rfl) (pgs_cons (pg_name (i := 4) sc_less.nd rfl (by first | exact Or.inl rfl | exact Or.inr rfl)) (pgs_cons (pg_name (i := 5) sc_less.nd rfl (by first | exact Or.inl rfl | exact Or.inr rfl)) (pgs_cons (pg_name (i := 6) sc_less.nd rfl (by first | exact Or.inl rfl | exact Or.inr rfl)) pgs_nil)))) (pss_one (ps_if (pt_cmpR op_gt (pe_op op_sub (pv 6) (pv 2)) pe_int (nomark _)) (pss_one (ps_expr (pe_bm PySem.F.plainAttrs_list PySem.F.slot_list_append PySem.F.type_list_append mt_append (pv 3) (pa_cons (pe_tup (pa_cons (pv 4) (pa_cons (pv 5) (pa_cons (pe_op op_sub (pv 6) (pv 2)) pa_nil)))) pa_nil)))) pss_nil)))
      (pss_one (ps_dput hu (pe_dget hu (pv 0) pe_str (fun _ _ => rfl)) (pv 1) (pv 3) (by rfl))))), ?_⟩
    simp only [tSeq, tIfS, tTest, tOp, tUn, tVar, tC, rI, rI0, rU, rEq, rNe, rIxL, rIxT, rIxS, tCB, tCons, tNil, tRet, tRetN, tAsg, gTup, gCons, gNil, gName, gSub, rSetL, tNext, tDrop, tLst, tTup, tCall, tIf, tB, tAnd, tOr, tNot, tSl, tPart, tNoPart, tM1, tM0, tBM, tBM0, tLcE, tForE, iRng1, iRng2, iTup, iList, iStr, tYes, wipe, startDef, cxK, noxK, exists_and_left, exists_eq_left', exists_eq_left, exists_eq_right, Option.some.injEq, V.int.injEq, V.ref.injEq, V.str.injEq, V.bl.injEq, List.cons.injEq, and_true, true_and, List.append_nil, List.map_cons, List.map_nil, List.length_cons, List.length_nil, List.replicate, List.nil_append, List.cons_append, List.set_cons_zero, List.set_cons_succ, List.getElem?_cons_zero, List.getElem?_cons_succ, decide_eq_true_eq, exists_const, Nat.reduceAdd, Nat.reduceSub, List.replicate_succ, List.replicate_zero, exists_prop, and_assoc, List.set_nil, rLenK, rTupK, rLstK, rReprK, rEqD, rNeD, rIn, rAll, rAppend, rCat, ↓reduceIte, Bool.false_eq_true, iEnumT, rSortedPO, rIsi, rRep, rReverse, tLstRg, tTupRg, tRg1, tRg2, rSlL, rSlT, rSortedI, rSlF, rCatF, rMax, tLc2E, rSortedL, rSortedT, gUnl, tPar, rReprX, tChain, tDNewK, tDisp, tPairs, tAndV, tNotV, tFd, sFd, tMeth, tMake, tMakeK, gStar, iZipM, iItems, tLock, tSpread, tDcE, tDGet, sDPut, tPar3, tNever, rIxD, tChain, iEnum, tDIn, tDNotIn, gHd]
    obtain ⟨kvs, hrw, pr⟩ := hm.rows
    have ho := hm.ob
    obtain ⟨kv, ev, _, l, us, el, hl, al⟩ := prel_some (fun r : Str × List Lyr => r.1) (R := LRel K H) (fun _ _ h => h.1) pr nd mr
    have lenU := ls_len al
    have line : (2000 : Nat) < sizeLine := by decide
    have g1 := DGet.k (k := (Sum.inr "rows" : L2.Key)) ho
    rw [mk_rows] at g1
    have g2 := DGet.k (k := (Sum.inr r.1 : L2.Key)) hrw
    rw [ev, el] at g2
    refine ⟨by decide, fun lp hlp => ?_⟩
    have s1 : Same H (upd H lp (.lst [])) := same_new hlp
    have p1 : (upd H lp (.lst [])) lp = some (.lst []) := upd_same
    generalize upd H lp (.lst []) = H1 at s1 p1
    have hl1 := s1 _ _ hl
    have nlp : l ≠ lp := ne_of_none hl hlp
    refine ⟨_, dget_same s1 g1, rw, rfl, _, dget_same s1 g2, l, rfl, ⟨us, SqL.of hl1⟩, ?_⟩
    have al1 := smDps s1 (flat_lDs _) al
    refine for_it (walk_list (xs := us)) (fun i σ H' => ∃ (acc : List V) (a4 a5 a6 : Option V), σ = [some (.ref mo), some (.str r.1), some (.int t), some (.ref lp), a4, a5, a6] ∧ (∀ a o, a ≠ lp → H1 a = some o → H' a = some o) ∧ H' lp = some (.lst acc) ∧
      DpAll K H' acc ((weakY (r.2.take i) t).map lD) ∧ acc.length ≤ i) ⟨[], _, _, _, rfl, fun _ _ _ e => e, p1, .nil, Nat.le_refl _⟩ ?_ ?_ ?_
    · rintro i σ H' _ ⟨acc, _, _, _, _, fr, _⟩
      exact SqL.of (fr _ _ nlp hl1)
    · rintro i z σ Ha H' hi ⟨acc, a4, a5, a6, rfl, fr, hacc, dacc, le⟩ ⟨rfl, ez⟩
      obtain ⟨y, b, ey, ex, sy⟩ := ls_at al1 (i := i) (by omega)
      obtain rfl : V.ref b = z := Option.some.inj (ex.symm.trans ez)
      have sya : SqT K H' b [.int y.1, .str y.2.1, .int y.2.2] := by
        rcases sy with (h | ⟨ob, h⟩) | h
        · exact Or.inl (Or.inl (fr _ _ (ne_of h p1 (by intro z; cases z)) h))
        · exact Or.inl (Or.inr ⟨ob, fr _ _ (ne_of h p1 (by intro z; cases z)) h⟩)
        · exact Or.inr h
      simp only [tSeq, tIfS, tTest, tOp, tUn, tVar, tC, rI, rI0, rU, rEq, rNe, rIxL, rIxT, rIxS, tCB, tCons, tNil, tRet, tRetN, tAsg, gTup, gCons, gNil, gName, gSub, rSetL, tNext, tDrop, tLst, tTup, tCall, tIf, tB, tAnd, tOr, tNot, tSl, tPart, tNoPart, tM1, tM0, tBM, tBM0, tLcE, tForE, iRng1, iRng2, iTup, iList, iStr, tYes, wipe, startDef, cxK, noxK, exists_and_left, exists_eq_left', exists_eq_left, exists_eq_right, Option.some.injEq, V.int.injEq, V.ref.injEq, V.str.injEq, V.bl.injEq, List.cons.injEq, and_true, true_and, List.append_nil, List.map_cons, List.map_nil, List.length_cons, List.length_nil, List.replicate, List.nil_append, List.cons_append, List.set_cons_zero, List.set_cons_succ, List.getElem?_cons_zero, List.getElem?_cons_succ, decide_eq_true_eq, exists_const, Nat.reduceAdd, Nat.reduceSub, List.replicate_succ, List.replicate_zero, exists_prop, and_assoc, List.set_nil, rLenK, rTupK, rLstK, rReprK, rEqD, rNeD, rIn, rAll, rAppend, rCat, ↓reduceIte, Bool.false_eq_true, iEnumT, rSortedPO, rIsi, rRep, rReverse, tLstRg, tTupRg, tRg1, tRg2, rSlL, rSlT, rSortedI, rSlF, rCatF, rMax, tLc2E, rSortedL, rSortedT, gUnl, tPar, rReprX, tChain, tDNewK, tDisp, tPairs, tAndV, tNotV, tFd, sFd, tMeth, tMake, tMakeK, gStar, iZipM, iItems, tLock, tSpread, tDcE, tDGet, sDPut, tPar3, tNever, rIxD, tChain, iEnum, tDIn, tDNotIn, gHd]
      refine ⟨_, sya, rfl, _, _, rfl, _, _, rfl, _, _, rfl, rfl, ?_⟩
      refine ⟨y.2.2, rfl, ?_⟩
      by_cases c : 0 < y.2.2 - t
      · rw [if_pos c]
        refine ⟨.inl ⟨rfl, _, SqL.of hacc⟩, y.2.2, rfl, by decide, fun q hq => ?_⟩
        have nql : lp ≠ q := ne_of_none hacc hq
        refine ⟨acc, by rw [upd_ne nql]; exact hacc, by omega, fun a o n e => ?_, _, upd_same, ?_, by simp; omega⟩
        · rw [upd_ne n, upd_ne (ne_of_none (fr a o n e) hq)]
          exact fr a o n e
        · rw [weakY_succ _ _ ey, if_pos (by omega), List.map_append]
          have mv : ∀ a xs, SqT K H' a xs → SqT K (upd (upd H' q (.tup [.int y.1, .str y.2.1, .int (y.2.2 - t)])) lp (.lst (acc ++ [.ref q]))) a xs := fun a xs h => by
            rcases h with (h | ⟨ob, h⟩) | h
            · exact Or.inl (Or.inl (by rw [upd_ne (ne_of h hacc (by intro z; cases z)), upd_ne (ne_of_none h hq)]; exact h))
            · exact Or.inl (Or.inr ⟨ob, by rw [upd_ne (ne_of h hacc (by intro z; cases z)), upd_ne (ne_of_none h hq)]; exact h⟩)
            · exact Or.inr h
          exact DpAll.app (DpAll.move mv (flat_lDs _) dacc) (.cons (.tup (SqT.of (by rw [upd_ne (Ne.symm nql)]; exact upd_same)) (.cons (.int _) (.cons (.str _) (.cons (.int _) .nil)))) .nil)
      · rw [if_neg c]
        refine ⟨fr, acc, hacc, ?_, by omega⟩
        rw [weakY_succ _ _ ey, if_neg (by omega), List.append_nil]
        exact dacc
    · rintro σ H' ⟨acc, a4, a5, a6, rfl, fr, hacc, dacc, le⟩
      simp only [tSeq, tIfS, tTest, tOp, tUn, tVar, tC, rI, rI0, rU, rEq, rNe, rIxL, rIxT, rIxS, tCB, tCons, tNil, tRet, tRetN, tAsg, gTup, gCons, gNil, gName, gSub, rSetL, tNext, tDrop, tLst, tTup, tCall, tIf, tB, tAnd, tOr, tNot, tSl, tPart, tNoPart, tM1, tM0, tBM, tBM0, tLcE, tForE, iRng1, iRng2, iTup, iList, iStr, tYes, wipe, startDef, cxK, noxK, exists_and_left, exists_eq_left', exists_eq_left, exists_eq_right, Option.some.injEq, V.int.injEq, V.ref.injEq, V.str.injEq, V.bl.injEq, List.cons.injEq, and_true, true_and, List.append_nil, List.map_cons, List.map_nil, List.length_cons, List.length_nil, List.replicate, List.nil_append, List.cons_append, List.set_cons_zero, List.set_cons_succ, List.getElem?_cons_zero, List.getElem?_cons_succ, decide_eq_true_eq, exists_const, Nat.reduceAdd, Nat.reduceSub, List.replicate_succ, List.replicate_zero, exists_prop, and_assoc, List.set_nil, rLenK, rTupK, rLstK, rReprK, rEqD, rNeD, rIn, rAll, rAppend, rCat, ↓reduceIte, Bool.false_eq_true, iEnumT, rSortedPO, rIsi, rRep, rReverse, tLstRg, tTupRg, tRg1, tRg2, rSlL, rSlT, rSortedI, rSlF, rCatF, rMax, tLc2E, rSortedL, rSortedT, gUnl, tPar, rReprX, tChain, tDNewK, tDisp, tPairs, tAndV, tNotV, tFd, sFd, tMeth, tMake, tMakeK, gStar, iZipM, iItems, tLock, tSpread, tDcE, tDGet, sDPut, tPar3, tNever, rIxD, tChain, iEnum, tDIn, tDNotIn, gHd]
      have lk : kvs.length ≤ 8 := by rw [paired_len pr]; exact g8
      have frH : ∀ a o, H a = some o → H' a = some o := fun a o e => fr a o (ne_of_none e hlp) (s1 a o e)
      have g1' := DGet.k (k := (Sum.inr "rows" : L2.Key)) (frH _ _ ho)
      rw [mk_rows] at g1'
      refine ⟨_, g1', rw, rfl, _, DPut.k (k := (Sum.inr r.1 : L2.Key)) (frH _ _ hrw) (by omega), ?_⟩
      have tk : r.2.take us.length = r.2 := List.take_of_length_le (by omega)
      rw [tk] at dacc
      have c4 : Chg [rw] H (upd H' rw (.dK (putK kvs (Sum.inr r.1) (.ref lp)))) := ⟨fun q m => by rw [List.mem_singleton.mp m]; exact ⟨_, hrw, True.intro⟩, fun a o n e => by
        rw [upd_ne (fun z => n (by rw [z]; exact List.mem_singleton_self _))]
        exact frH a o e⟩
      have nlr : lp ≠ rw := Ne.symm (ne_of_none hrw hlp)
      have r4 : (upd H' rw (.dK (putK kvs (Sum.inr r.1) (.ref lp)))) rw = some (.dK (putK kvs (Sum.inr r.1) (.ref lp))) := upd_same
      have f4 : (upd H' rw (.dK (putK kvs (Sum.inr r.1) (.ref lp)))) lp = some (.lst acc) := by rw [upd_ne nlr]; exact hacc
      have mv : ∀ a xs, SqT K H' a xs → SqT K (upd H' rw (.dK (putK kvs (Sum.inr r.1) (.ref lp)))) a xs := fun a xs h => by
        rcases h with (h | ⟨ob, h⟩) | h
        · exact Or.inl (Or.inl (by rw [upd_ne (ne_of h (frH _ _ hrw) (by intro z; cases z))]; exact h))
        · exact Or.inl (Or.inr ⟨ob, by rw [upd_ne (ne_of h (frH _ _ hrw) (by intro z; cases z))]; exact h⟩)
        · exact Or.inr h
      generalize upd H' rw (.dK (putK kvs (Sum.inr r.1) (.ref lp))) = HF at c4 r4 f4 mv
      refine k _ ⟨c4.same _ _ (fun m => nmr (List.mem_singleton.mp m)) ho, hm.inks.chg c4, _, r4, ?_⟩ (fun a o n1 n2 e => c4.same a o (fun m => n2 (List.mem_singleton.mp m)) e)
      have ea : (kvs.any fun kv => decide (kv.1 = (Sum.inr r.1 : L2.Key))) = true := by rw [valV_any, ev]; rfl
      unfold putK lessP mapP
      rw [if_pos ea]
      refine prel_map (fun r : Str × List Lyr => r.1) (R := LRel K H) (fun _ _ h => h.1) (f := fun s' : Str × List Lyr => (s'.1, weakY s'.2 t)) pr (fun kv r' _ h _ => LRel.chg c4 h) (fun kv r' m' h e => ?_)
      obtain rfl := nd_inj nd m' mr e
      exact ⟨h.1, lp, acc, rfl, f4, DpAll.move mv (flat_lDs _) dacc⟩
end

/-! ### several places of one palette, each with its model -/
structure Pid where
  x : Addr
  mo : Addr
  rw : Addr
  p : Addr
  m : Addr
  f : Addr
structure Dat where
  wr : Int
  gr : Grd
  n : Nat
def setD (d : Nat → Dat) (j : Nat) (v : Dat) : Nat → Dat := fun i => if i = j then v else d i
theorem setD_eq (d : Nat → Dat) (j : Nat) (v : Dat) : setD d j v j = v := if_pos rfl
theorem setD_ne (d : Nat → Dat) {i j : Nat} (v : Dat) (h : i ≠ j) : setD d j v i = d i := if_neg h
def dcs (ids : List Pid) : List Addr := ids.map Pid.mo ++ ids.map Pid.rw
structure Wd (K : PySem.W.Frag) (cP cQ : Addr) (H : Hp) (li : Addr) (inks : List Lay) (ids : List Pid) (dp dm : Nat → Dat) : Prop where
  pl : ∀ (j : Nat) (q : Pid), ids[j]? = some q → ∃ g, PlaceAt K cP cQ H q.x q.p q.m q.f g inks (dp j).wr (dp j).gr (dp j).n ∧ g ∉ dcs ids
  md : ∀ (j : Nat) (q : Pid), ids[j]? = some q → ModAt K H q.mo q.rw li inks (dm j).wr (dm j).gr (dm j).n
  nx : (ids.map Pid.x).Nodup
  nd : (dcs ids).Nodup
  nf : ∀ q ∈ ids, q.f ∉ dcs ids
theorem mem_dcs {ids : List Pid} {j : Nat} {q : Pid} (e : ids[j]? = some q) : q.mo ∈ dcs ids ∧ q.rw ∈ dcs ids :=
  ⟨List.mem_append.mpr (.inl (List.mem_map.mpr ⟨q, List.mem_of_getElem? e, rfl⟩)), List.mem_append.mpr (.inr (List.mem_map.mpr ⟨q, List.mem_of_getElem? e, rfl⟩))⟩
theorem nd_idx {α β : Type} {l : List α} {f : α → β} (nd : (l.map f).Nodup) {i j : Nat} {a b : α} (e1 : l[i]? = some a) (e2 : l[j]? = some b) (h : f a = f b) : i = j := by
  have h1 : (l.map f)[i]? = some (f a) := by rw [List.getElem?_map, e1]; rfl
  have h2 : (l.map f)[j]? = some (f b) := by rw [List.getElem?_map, e2]; rfl
  rw [← h] at h2
  obtain ⟨i1, q1⟩ := List.getElem?_eq_some_iff.mp h1
  obtain ⟨i2, q2⟩ := List.getElem?_eq_some_iff.mp h2
  have pw := List.pairwise_iff_getElem.mp nd
  rcases Nat.lt_trichotomy i j with c | c | c
  · exact absurd (q1.trans q2.symm) (pw i j i1 i2 c)
  · exact c
  · exact absurd (q2.trans q1.symm) (pw j i i2 i1 c)
section
variable {K : PySem.W.Frag} {cP cQ : Addr} {H H' : Hp} {li pt : Addr} {inks : List Lay} {ids : List Pid} {dp dm : Nat → Dat} {j : Nat} {q : Pid}
theorem Wd.same (h : Wd K cP cQ H li inks ids dp dm) (s : Same H H') : Wd K cP cQ H' li inks ids dp dm :=
  ⟨fun j q e => let ⟨g, a, b⟩ := h.pl j q e; ⟨g, a.same s, b⟩, fun j q e => (h.md j q e).same s, h.nx, h.nd, h.nf⟩
/-- what the models' own dicts are -/
theorem Wd.dict (h : Wd K cP cQ H li inks ids dp dm) {a : Addr} (ma : a ∈ dcs ids) : ∃ ks, H a = some (.dK ks) := by
  rcases List.mem_append.mp ma with ma | ma
  · obtain ⟨q, mq, rfl⟩ := List.mem_map.mp ma
    obtain ⟨j, e⟩ := List.mem_iff_getElem?.mp mq
    exact ⟨_, (h.md j q e).ob⟩
  · obtain ⟨q, mq, rfl⟩ := List.mem_map.mp ma
    obtain ⟨j, e⟩ := List.mem_iff_getElem?.mp mq
    obtain ⟨ks, hr, _⟩ := (h.md j q e).rows
    exact ⟨ks, hr⟩
theorem Wd.nmr (h : Wd K cP cQ H li inks ids dp dm) (e : ids[j]? = some q) : q.mo ≠ q.rw := fun z =>
  (List.nodup_append.mp h.nd).2.2 _ (List.mem_map.mpr ⟨q, List.mem_of_getElem? e, rfl⟩) _ (List.mem_map.mpr ⟨q, List.mem_of_getElem? e, rfl⟩) z
/-- a pair, by itself -/
theorem Wd.pmx (h : Wd K cP cQ H li inks ids dp dm) (e : ids[j]? = some q) : PMx K cP cQ H q.x q.p q.m q.f q.mo q.rw li inks (dp j).wr (dm j).wr (dp j).gr (dp j).n (dm j).gr (dm j).n := by
  obtain ⟨g, a, b⟩ := h.pl j q e
  obtain ⟨m1, m2⟩ := mem_dcs e
  exact ⟨⟨g, a, fun z => b (z ▸ m1), fun z => b (z ▸ m2)⟩, h.md j q e, h.nmr e, fun z => h.nf q (List.mem_of_getElem? e) (z ▸ m1), fun z => h.nf q (List.mem_of_getElem? e) (z ▸ m2)⟩
theorem Wd.st (h : Wd K cP cQ H li inks ids dp dm) (pp : Pot H pt) (s : Fd.St (some pt) H H') : Wd K cP cQ H' li inks ids dp dm := by
  refine ⟨fun j q e => ?_, fun j q e => ((h.pmx e).st pp s).md, h.nx, h.nd, h.nf⟩
  obtain ⟨g, a, b⟩ := h.pl j q e
  have hp1 : PMx K cP cQ H q.x q.p q.m q.f q.mo q.rw li inks (dp j).wr (dm j).wr (dp j).gr (dp j).n (dm j).gr (dm j).n := h.pmx e
  obtain ⟨u, v, hpt⟩ := id pp
  -- the place's own ground stays the same one
  obtain ⟨⟨g', a', _, _⟩, _⟩ := hp1.st pp s
  obtain ⟨dx, hx⟩ := a.ob
  obtain ⟨dx', hx'⟩ := a'.ob
  have nxp : q.x ≠ pt := ne_of hx hpt (by intro z; cases z)
  have e1 := s.same q.x _ (fun z => nxp (Option.some.inj z)) hx
  rw [e1] at hx'
  have e2 : placeF (.ref q.p) (dp j).wr g (dp j).n = placeF (.ref q.p) (dp j).wr g' (dp j).n := by
    have := HO.ins.inj (Option.some.inj hx')
    exact this.2.2
  have e3 : (V.ref g) = V.ref g' := by
    have h1 := pf_lg (.ref q.p) (dp j).wr g (dp j).n
    rw [e2, pf_lg] at h1
    exact (Option.some.inj h1).symm
  obtain rfl := V.ref.inj e3
  exact ⟨g, a', b⟩
theorem Wd.place (h : Wd K cP cQ H li inks ids dp dm) (e : ids[j]? = some q) {g g' : Addr} {d : Dat} (ng : g ∉ dcs ids) (hQ : PlaceAt K cP cQ H' q.x q.p q.m q.f g' inks d.wr d.gr d.n) (hg : H g' = none ∨ g' = g)
    (s : ∀ a o, a ≠ q.x → H a = some o → H' a = some o) : Wd K cP cQ H' li inks ids (setD dp j d) dm := by
  obtain ⟨g0, a0, _⟩ := h.pl j q e
  obtain ⟨dx, hx⟩ := a0.ob
  have ch := chgIns hx s
  have nS : ∀ {b}, b ≠ q.x → b ∉ [q.x] := fun h m => h (List.mem_singleton.mp m)
  have nK : ∀ {b ks}, H b = some (.dK ks) → b ≠ q.x := fun hb => ne_of hb hx (by intro z; cases z)
  refine ⟨fun i r er => ?_, fun i r er => ?_, h.nx, h.nd, h.nf⟩
  · by_cases z : i = j
    · subst z
      obtain rfl : q = r := Option.some.inj (e.symm.trans er)
      rw [setD_eq]
      refine ⟨g', hQ, fun mg => ?_⟩
      rcases hg with hg | rfl
      · obtain ⟨ks, hk⟩ := h.dict mg
        rw [hg] at hk
        cases hk
      · exact ng mg
    · rw [setD_ne _ _ z]
      obtain ⟨gi, ai, bi⟩ := h.pl i r er
      obtain ⟨ks, hgi, _⟩ := ai.grd
      obtain ⟨dpp, hp⟩ := ai.pal.ob
      exact ⟨gi, ai.chg ch (nS fun z' => z (nd_idx h.nx er e z')) (nS (ne_of hp hx (by intro z; cases z))) (nS (nK ai.pal.fades)) (nS (nK hgi)), bi⟩
  · obtain ⟨ks, hr, _⟩ := (h.md i r er).rows
    exact (h.md i r er).chg ch (nS (nK (h.md i r er).ob)) (nS (nK hr))
theorem Wd.model (h : Wd K cP cQ H li inks ids dp dm) (e : ids[j]? = some q) {d : Dat} (hM : ModAt K H' q.mo q.rw li inks d.wr d.gr d.n)
    (s : ∀ a o, a ≠ q.mo → a ≠ q.rw → H a = some o → H' a = some o) : Wd K cP cQ H' li inks ids dp (setD dm j d) := by
  obtain ⟨m1, m2⟩ := mem_dcs e
  have o1 := (h.md j q e).ob
  obtain ⟨kvs, o2, _⟩ := (h.md j q e).rows
  have ch : Chg [q.mo, q.rw] H H' := by
    refine ⟨fun b mb => ?_, fun a o n e => ?_⟩
    · have m' : b = q.mo ∨ b = q.rw := by simpa using mb
      rcases m' with rfl | rfl
      · exact ⟨_, o1, True.intro⟩
      · exact ⟨_, o2, True.intro⟩
    · have n' : a ≠ q.mo ∧ a ≠ q.rw := by simpa using n
      exact s a o n'.1 n'.2 e
  have nT : ∀ {b}, b ≠ q.mo → b ≠ q.rw → b ∉ [q.mo, q.rw] := fun h1 h2 m => by
    rcases List.mem_cons.mp m with e | e
    · exact h1 e
    · exact h2 (List.mem_singleton.mp e)
  have nD : ∀ {b}, b ∉ dcs ids → b ∉ [q.mo, q.rw] := fun hb => nT (fun z => hb (z ▸ m1)) (fun z => hb (z ▸ m2))
  have nI : ∀ {b C dx fs}, H b = some (.ins C dx fs) → b ∉ [q.mo, q.rw] := fun hb => nT (ne_of hb o1 (by intro z; cases z)) (ne_of hb o2 (by intro z; cases z))
  refine ⟨fun i r er => ?_, fun i r er => ?_, h.nx, h.nd, h.nf⟩
  · obtain ⟨gi, ai, bi⟩ := h.pl i r er
    obtain ⟨dx, hx⟩ := ai.ob
    obtain ⟨dpp, hp⟩ := ai.pal.ob
    exact ⟨gi, ai.chg ch (nI hx) (nI hp) (nD (h.nf r (List.mem_of_getElem? er))) (nD bi), bi⟩
  · by_cases z : i = j
    · subst z
      obtain rfl : q = r := Option.some.inj (e.symm.trans er)
      rw [setD_eq]
      exact hM
    · rw [setD_ne _ _ z]
      obtain ⟨a1, a2, a3⟩ := List.nodup_append.mp h.nd
      have mq := List.mem_of_getElem? e
      have mr := List.mem_of_getElem? er
      refine (h.md i r er).chg ch (nT (fun z' => z (nd_idx a1 er e z')) fun z' => a3 _ (List.mem_map.mpr ⟨r, mr, rfl⟩) _ (List.mem_map.mpr ⟨q, mq, rfl⟩) z') (nT (fun z' => ?_) fun z' => z (nd_idx a2 er e z'))
      exact a3 _ (List.mem_map.mpr ⟨q, mq, rfl⟩) _ (List.mem_map.mpr ⟨r, mr, rfl⟩) z'.symm
end
/-- what a step leaves as it was -/
def FrW (ids : List Pid) (pt : Addr) (H H' : Hp) : Prop := ∀ a o, a ≠ pt → a ∉ ids.map Pid.x → a ∉ dcs ids → H a = some o → H' a = some o

/-! ### what sort an error is of -/
structure TErrU (K : PySem.W.Frag) (mg : Str → Option Value) (cU : Addr) : Prop where
  pin : PinC K cU
  NoInk : ∃ c, ErrC K mg cU "NoInk" false c
  NoTag : ∃ c, ErrC K mg cU "NoTag" false c
  NoAmount : ∃ c, ErrC K mg cU "NoAmount" false c
  NoWear : ∃ c, ErrC K mg cU "NoWear" false c
  NoDeed : ∃ c, ErrC K mg cU "NoDeed" false c
  Unlike : ∃ c, ErrC K mg cU "Unlike" true c
  Worn : ∃ c, ErrC K mg cU "Worn" false c
  NoPalette : ∃ c, ErrC K mg cU "NoPalette" false c
  NoPlaces : ∃ c, ErrC K mg cU "NoPlaces" false c
  NoText : ∃ c, ErrC K mg cU "NoText" false c
  NoRow : ∃ c, ErrC K mg cU "NoRow" false c
  NoBook : ∃ c, ErrC K mg cU "NoBook" false c
  Halted : ∃ c, ErrC K mg cU "Halted" false c
  NoLayer : ∃ c, ErrC K mg cU "NoLayer" false c
  NoName : ∃ c, ErrC K mg cU "NoName" false c
  FadeError : ∃ c, ErrC K mg cU "FadeError" true c
  ValueError : mg "ValueError" = none
  kValueError : PySem.W.kitOne K (.ref cU) (.type "ValueError") = some true
  LookupError : mg "LookupError" = none
  kLookupError : PySem.W.kitOne K (.ref cU) (.type "LookupError") = some false
  ArithmeticError : mg "ArithmeticError" = none
  kArithmeticError : PySem.W.kitOne K (.ref cU) (.type "ArithmeticError") = some false
  RuntimeError : mg "RuntimeError" = none
  kRuntimeError : PySem.W.kitOne K (.ref cU) (.type "RuntimeError") = some false
section
variable {P : Program} {w : World} {K : PySem.W.Frag} {mg : Str → Option Value} {base : Heap} {cP cQ cU : Addr}
abbrev s_sort : Stmt := topS 69
theorem sc_sort : FnScope ["_law_e", "_law_some", "_law_told", "_law_bases", "_law_due"] ["_law_e"] (defScope s_sort) := ⟨rfl, rfl, rfl, by decide +kernel, rfl, by decide +kernel, by decide +kernel⟩

def spSort (K : PySem.W.Frag) (cU : Addr) : SpP := fun a c d vs H Q => vs = [.ref a] ∧ c = .ref cU ∧ d = none ∧ ∀ H', Same H H' → Q (.str "unlike") H'
theorem ok_law_sort {f : Addr} {fd : FuncData} (F : Fun K "_law_sort" "_law_sort" s_sort f fd) (M : Blt mg) (TB : TErrU K mg cU) : FnP P w K mg base 2 f fd ["_law_e"] (spSort K cU) := by
  refine Fun.okP F sc_sort (fun a c d vs H Q h => ?_) (fun cdv A outer s H vs Q p c d hz hf hr h => ?_)
  · obtain ⟨rfl, _⟩ := h
    rfl
  · obtain ⟨a, oe⟩ := p
    obtain ⟨rfl, rfl, rfl, k⟩ := h
    have hu : (A.deeper (envOfC "_law_sort" (defScope s_sort) s.heap.objs.size f cdv)).units + 1 < cLine := by have := hr.units; omega
    have TPin := TB.pin
    obtain ⟨cNoInk, eNoInk⟩ := TB.NoInk
    obtain ⟨cNoTag, eNoTag⟩ := TB.NoTag
    obtain ⟨cNoAmount, eNoAmount⟩ := TB.NoAmount
    obtain ⟨cNoWear, eNoWear⟩ := TB.NoWear
    obtain ⟨cNoDeed, eNoDeed⟩ := TB.NoDeed
    obtain ⟨cUnlike, eUnlike⟩ := TB.Unlike
    obtain ⟨cWorn, eWorn⟩ := TB.Worn
    obtain ⟨cNoPalette, eNoPalette⟩ := TB.NoPalette
    obtain ⟨cNoPlaces, eNoPlaces⟩ := TB.NoPlaces
    obtain ⟨cNoText, eNoText⟩ := TB.NoText
    obtain ⟨cNoRow, eNoRow⟩ := TB.NoRow
    obtain ⟨cNoBook, eNoBook⟩ := TB.NoBook
    obtain ⟨cHalted, eHalted⟩ := TB.Halted
    obtain ⟨cNoLayer, eNoLayer⟩ := TB.NoLayer
    obtain ⟨cNoName, eNoName⟩ := TB.NoName
    obtain ⟨cFadeError, eFadeError⟩ := TB.FadeError
    refine ⟨_, (pss_cons (ps_set (i := 1) sc_sort.nd rfl (by first | exact Or.inl rfl | exact Or.inr rfl) (pe_lst (pa_cons (pe_callB (call_isiP0 (K := K) rfl List.mem_cons_self hz hf TPin) (by rfl) M.isinstance (by decide +kernel) (pa_cons (pv 0) (pa_cons (pe_glob (v := .ref cNoInk) (by rfl) eNoInk.gl rfl) pa_nil))) (pa_cons (pe_callB (call_isiP0 (K := K) rfl List.mem_cons_self hz hf TPin) (by rfl) M.isinstance (by decide +kernel) (pa_cons (pv 0) (pa_cons (pe_glob (v := .ref cNoTag) (by rfl) eNoTag.gl rfl) pa_nil))) (pa_cons (pe_callB (call_isiP0 (K := K) rfl List.mem_cons_self hz hf TPin) (by rfl) M.isinstance (by decide +kernel) (pa_cons (pv 0) (pa_cons (pe_glob (v := .ref cNoAmount) (by rfl) eNoAmount.gl rfl) pa_nil))) (pa_cons (pe_callB (call_isiP0 (K := K) rfl List.mem_cons_self hz hf TPin) (by rfl) M.isinstance (by decide +kernel) (pa_cons (pv 0) (pa_cons (pe_glob (v := .ref cNoWear) (by rfl) eNoWear.gl rfl) pa_nil))) pa_nil))))))
      (pss_cons (ps_set (i := 1) sc_sort.nd rfl (by first | exact Or.inl rfl | exact Or.inr rfl) (pe_op op_cat (pv 1) (pe_lst (pa_cons (pe_callB (call_isiP0 (K := K) rfl List.mem_cons_self hz hf TPin) (by rfl) M.isinstance (by decide +kernel) (pa_cons (pv 0) (pa_cons (pe_glob (v := .ref cNoDeed) (by rfl) eNoDeed.gl rfl) pa_nil))) (pa_cons (pe_callB (call_isiP0 (K := K) rfl List.mem_cons_self hz hf TPin) (by rfl) M.isinstance (by decide +kernel) (pa_cons (pv 0) (pa_cons (pe_glob (v := .ref cUnlike) (by rfl) eUnlike.gl rfl) pa_nil))) (pa_cons (pe_callB (call_isiP0 (K := K) rfl List.mem_cons_self hz hf TPin) (by rfl) M.isinstance (by decide +kernel) (pa_cons (pv 0) (pa_cons (pe_glob (v := .ref cWorn) (by rfl) eWorn.gl rfl) pa_nil))) pa_nil))))))
      (pss_cons (ps_if (PW.pt (pw_or (pt_val (pe_callB (call_isiPT0 (K := K) rfl List.mem_cons_self hz hf TPin) (by rfl) M.isinstance (by decide +kernel) (pa_cons (pv 0) (pa_cons (pe_tup (pa_cons (pe_glob (v := .ref cNoPalette) (by rfl) eNoPalette.gl rfl) (pa_cons (pe_glob (v := .ref cNoPlaces) (by rfl) eNoPlaces.gl rfl) (pa_cons (pe_glob (v := .ref cNoText) (by rfl) eNoText.gl rfl) (pa_cons (pe_glob (v := .ref cNoRow) (by rfl) eNoRow.gl rfl) (pa_cons (pe_glob (v := .ref cNoBook) (by rfl) eNoBook.gl rfl) (pa_cons (pe_glob (v := .ref cHalted) (by rfl) eHalted.gl rfl) (pa_cons (pe_glob (v := .ref cNoLayer) (by rfl) eNoLayer.gl rfl) (pa_cons (pe_glob (v := .ref cNoName) (by rfl) eNoName.gl rfl) pa_nil))))))))) pa_nil)))) (pw_or1 (pt_cmpR op_ne (pe_bm PySem.F.plainAttrs_list PySem.F.slot_list_count PySem.F.type_list_count (mt_count (K := K) rfl) (pv 1) (pa_cons pe_bl pa_nil)) pe_int (nomark _))))) (pss_one (ps_ret pe_str)) pss_nil)
      (pss_cons (ps_set (i := 2) sc_sort.nd rfl (by first | exact Or.inl rfl | exact Or.inr rfl) (pe_ix (k_ixL (K := K) rfl) (pe_lst (pa_cons pe_str (pa_cons pe_str (pa_cons pe_str (pa_cons pe_str (pa_cons pe_str (pa_cons pe_str (pa_cons pe_str pa_nil)))))))) (pe_bm PySem.F.plainAttrs_list PySem.F.slot_list_index PySem.F.type_list_index (mt_indexK (K := K) rfl) (pv 1) (pa_cons pe_bl pa_nil)) (fun _ _ => rfl)))
      (pss_cons (ps_set (i := 3) sc_sort.nd rfl (by first | exact Or.inl rfl | exact Or.inr rfl) (pe_lst (pa_cons (pe_callB (call_isiP0 (K := K) rfl List.mem_cons_self hz hf TPin) (by rfl) M.isinstance (by decide +kernel) (pa_cons (pv 0) (pa_cons (pe_glob (v := .ref cFadeError) (by rfl) eFadeError.gl rfl) pa_nil))) (pa_cons (pe_callB (call_isiP0 (K := K) rfl List.mem_cons_self hz hf TPin) (by rfl) M.isinstance (by decide +kernel) (pa_cons (pv 0) (pa_cons (pe_bltn (v := .ty "ValueError") (by rfl) TB.ValueError (by decide +kernel) rfl) pa_nil))) (pa_cons (pe_callB (call_isiP0 (K := K) rfl List.mem_cons_self hz hf TPin) (by rfl) M.isinstance (by decide +kernel) (pa_cons (pv 0) (pa_cons (pe_bltn (v := .ty "LookupError") (by rfl) TB.LookupError (by decide +kernel) rfl) pa_nil))) pa_nil)))))
      (pss_cons (ps_set (i := 3) sc_sort.nd rfl (by first | exact Or.inl rfl | exact Or.inr rfl) (pe_op op_cat (pv 3) (pe_lst (pa_cons (pe_callB (call_isiP0 (K := K) rfl List.mem_cons_self hz hf TPin) (by rfl) M.isinstance (by decide +kernel) (pa_cons (pv 0) (pa_cons (pe_bltn (v := .ty "ArithmeticError") (by rfl) TB.ArithmeticError (by decide +kernel) rfl) pa_nil))) (pa_cons (pe_callB (call_isiP0 (K := K) rfl List.mem_cons_self hz hf TPin) (by rfl) M.isinstance (by decide +kernel) (pa_cons (pv 0) (pa_cons (pe_bltn (v := .ty "RuntimeError") (by rfl) TB.RuntimeError (by decide +kernel) rfl) pa_nil))) pa_nil)))))
      (pss_cons (ps_set (i := 4) sc_sort.nd rfl (by first | exact Or.inl rfl | exact Or.inr rfl) (pe_dget2 hu (pe_disp (pps_cons pe_str pe_int (pps_cons pe_str pe_int (pps_cons pe_str pe_int pps_nil))) rfl rfl (by decide) (by decide)) (pv 2) pe_int ⟨rfl, rfl, rfl, rfl⟩))
      (pss_cons (ps_if (pt_cmpR (k_neD (K := K) rfl hr.units) (pv 3) (pe_lst (pa_cons (pe_cmpR op_eq (pv 4) pe_int (nomark _)) (pa_cons (pe_cmpR op_eq (pv 4) pe_int (nomark _)) (pa_cons (pe_cmpR op_eq (pv 4) pe_int (nomark _)) (pa_cons (pe_cmpR op_eq (pv 4) pe_int (nomark _)) (pa_cons (pe_cmpR op_eq (pv 4) pe_int (nomark _)) pa_nil)))))) (nomark _)) (pss_one (ps_ret pe_str)) pss_nil)
      (pss_one (ps_ret (pv 2))))))))))), ?_⟩
    simp only [tSeq, tIfS, tTest, tOp, tUn, tVar, tC, rI, rI0, rU, rEq, rNe, rIxL, rIxT, rIxS, tCB, tCons, tNil, tRet, tRetN, tAsg, gTup, gCons, gNil, gName, gSub, rSetL, tNext, tDrop, tLst, tTup, tCall, tIf, tB, tAnd, tOr, tNot, tSl, tPart, tNoPart, tM1, tM0, tBM, tBM0, tLcE, tForE, iRng1, iRng2, iTup, iList, iStr, tYes, wipe, startDef, cxK, noxK, exists_and_left, exists_eq_left', exists_eq_left, exists_eq_right, Option.some.injEq, V.int.injEq, V.ref.injEq, V.str.injEq, V.bl.injEq, List.cons.injEq, and_true, true_and, List.append_nil, List.map_cons, List.map_nil, List.length_cons, List.length_nil, List.replicate, List.nil_append, List.cons_append, List.set_cons_zero, List.set_cons_succ, List.getElem?_cons_zero, List.getElem?_cons_succ, decide_eq_true_eq, exists_const, Nat.reduceAdd, Nat.reduceSub, List.replicate_succ, List.replicate_zero, exists_prop, and_assoc, List.set_nil, rLenK, rTupK, rLstK, rReprK, rEqD, rNeD, rIn, rAll, rAppend, rCat, ↓reduceIte, Bool.false_eq_true, iEnumT, rSortedPO, rIsi, rRep, rReverse, tLstRg, tTupRg, tRg1, tRg2, rSlL, rSlT, rSortedI, rSlF, rCatF, rMax, tLc2E, rSortedL, rSortedT, gUnl, tPar, rReprX, tChain, tDNewK, tDisp, tPairs, tAndV, tNotV, tFd, sFd, tMeth, tMake, tMakeK, gStar, iZipM, iItems, tLock, tSpread, tDcE, tDGet, sDPut, tPar3, tNever, rIxD, tChain, iEnum, tDIn, tDNotIn, gHd, cxPK, rIsiP0, rIsiPT0, rCntF, rIndex, tBM, tDGet2]
    refine ⟨_, .own cNoInk, false, eNoInk.ki, _, .own cNoTag, false, eNoTag.ki, _, .own cNoAmount, false, eNoAmount.ki, _, .own cNoWear, false, eNoWear.ki, by decide, fun p1 hp1 => ?_⟩
    have s1 : Same H (upd H p1 (.lst [.bl false, .bl false, .bl false, .bl false])) := same_new hp1
    have l1 : (upd H p1 (.lst [.bl false, .bl false, .bl false, .bl false])) p1 = some (.lst [.bl false, .bl false, .bl false, .bl false]) := upd_same
    generalize upd H p1 (.lst [.bl false, .bl false, .bl false, .bl false]) = H1 at s1 l1
    refine ⟨_, .own cNoDeed, false, eNoDeed.ki, _, .own cUnlike, true, eUnlike.ki, _, .own cWorn, false, eWorn.ki, by decide, fun p2 hp2 => ?_⟩
    have s2 : Same H1 (upd H1 p2 (.lst [.bl false, .bl true, .bl false])) := same_new hp2
    have l2 : (upd H1 p2 (.lst [.bl false, .bl true, .bl false])) p2 = some (.lst [.bl false, .bl true, .bl false]) := upd_same
    generalize upd H1 p2 (.lst [.bl false, .bl true, .bl false]) = H2 at s2 l2
    refine ⟨_, s2 _ _ l1, _, l2, by decide, fun p3 hp3 => ?_⟩
    simp only [List.cons_append, List.nil_append]
    have s3 : Same H2 (upd H2 p3 (.lst [.bl false, .bl false, .bl false, .bl false, .bl false, .bl true, .bl false])) := same_new hp3
    have l3 : (upd H2 p3 (.lst [.bl false, .bl false, .bl false, .bl false, .bl false, .bl true, .bl false])) p3 = some (.lst [.bl false, .bl false, .bl false, .bl false, .bl false, .bl true, .bl false]) := upd_same
    generalize upd H2 p3 (.lst [.bl false, .bl false, .bl false, .bl false, .bl false, .bl true, .bl false]) = H3 at s3 l3
    refine ⟨by decide, fun p4 hp4 => ?_⟩
    have s4 : Same H3 (upd H3 p4 (.tup [.ref cNoPalette, .ref cNoPlaces, .ref cNoText, .ref cNoRow, .ref cNoBook, .ref cHalted, .ref cNoLayer, .ref cNoName])) := same_new hp4
    have t4 : (upd H3 p4 (.tup [.ref cNoPalette, .ref cNoPlaces, .ref cNoText, .ref cNoRow, .ref cNoBook, .ref cHalted, .ref cNoLayer, .ref cNoName])) p4 = some (.tup [.ref cNoPalette, .ref cNoPlaces, .ref cNoText, .ref cNoRow, .ref cNoBook, .ref cHalted, .ref cNoLayer, .ref cNoName]) := upd_same
    generalize upd H3 p4 (.tup [.ref cNoPalette, .ref cNoPlaces, .ref cNoText, .ref cNoRow, .ref cNoBook, .ref cHalted, .ref cNoLayer, .ref cNoName]) = H4 at s4 t4
    have s04 := smT s1 (smT s2 (smT s3 s4))
    have no : ∀ {c r : Value} {cs : List Value}, PySem.W.kitOne K (.ref cU) c = some false → PySem.W.kitAny K (.ref cU) cs = some false → PySem.W.kitAny K (.ref cU) (c :: cs) = some false := fun h1 h2 => kitAny_cons h1 (fun _ => h2) (fun z => nomatch z)
    refine ⟨_, t4, [.ref cNoPalette, .ref cNoPlaces, .ref cNoText, .ref cNoRow, .ref cNoBook, .ref cHalted, .ref cNoLayer, .ref cNoName], .cons (.own _) (.cons (.own _) (.cons (.own _) (.cons (.own _) (.cons (.own _) (.cons (.own _) (.cons (.own _) (.cons (.own _) .nil))))))), false,
      kitAny_cons eNoPalette.ki (fun _ => kitAny_cons eNoPlaces.ki (fun _ => kitAny_cons eNoText.ki (fun _ => kitAny_cons eNoRow.ki (fun _ => kitAny_cons eNoBook.ki (fun _ => kitAny_cons eHalted.ki (fun _ => kitAny_cons eNoLayer.ki (fun _ => kitAny_cons eNoName.ki (fun _ => kitAny_nil) (fun z => nomatch z)) (fun z => nomatch z)) (fun z => nomatch z)) (fun z => nomatch z)) (fun z => nomatch z)) (fun z => nomatch z)) (fun z => nomatch z)) (fun z => nomatch z), ?_⟩
    rw [if_neg (by decide)]
    have l34 := s4 _ _ l3
    refine ⟨.inl ⟨rfl, _, SqL.of l34⟩, _, SqL.of l34, rfl, rfl, rfl, ?_⟩
    rw [if_neg (by decide)]
    refine ⟨by decide, fun p5 hp5 => ?_⟩
    have s5 : Same H4 (upd H4 p5 (.lst [.str "ink", .str "tag", .str "amount", .str "wear", .str "deed", .str "unlike", .str "worn"])) := same_new hp5
    have l5 : (upd H4 p5 (.lst [.str "ink", .str "tag", .str "amount", .str "wear", .str "deed", .str "unlike", .str "worn"])) p5 = some (.lst [.str "ink", .str "tag", .str "amount", .str "wear", .str "deed", .str "unlike", .str "worn"]) := upd_same
    generalize upd H4 p5 (.lst [.str "ink", .str "tag", .str "amount", .str "wear", .str "deed", .str "unlike", .str "worn"]) = H5 at s5 l5
    have l35 := s5 _ _ l34
    have s05 := smT s04 s5
    refine ⟨.inl ⟨rfl, _, SqL.of l35⟩, _, SqL.of l35, rfl, rfl, 5, .bl true, rfl, rfl, ?_, _, SqL.of l5, .str "unlike", rfl, _, .own cFadeError, true, eFadeError.ki, _, .ty "ValueError", true, TB.kValueError, _, .ty "LookupError", false, TB.kLookupError, by decide, fun p6 hp6 => ?_⟩
    · intro m z' hm e
      match m, hm, e with
      | 0, _, e => cases e; rfl
      | 1, _, e => cases e; rfl
      | 2, _, e => cases e; rfl
      | 3, _, e => cases e; rfl
      | 4, _, e => cases e; rfl
      | m + 5, hm, _ => omega
    have s6 : Same H5 (upd H5 p6 (.lst [.bl true, .bl true, .bl false])) := same_new hp6
    have l6 : (upd H5 p6 (.lst [.bl true, .bl true, .bl false])) p6 = some (.lst [.bl true, .bl true, .bl false]) := upd_same
    generalize upd H5 p6 (.lst [.bl true, .bl true, .bl false]) = H6 at s6 l6
    refine ⟨_, .ty "ArithmeticError", false, TB.kArithmeticError, _, .ty "RuntimeError", false, TB.kRuntimeError, by decide, fun p7 hp7 => ?_⟩
    have s7 : Same H6 (upd H6 p7 (.lst [.bl false, .bl false])) := same_new hp7
    have l7 : (upd H6 p7 (.lst [.bl false, .bl false])) p7 = some (.lst [.bl false, .bl false]) := upd_same
    generalize upd H6 p7 (.lst [.bl false, .bl false]) = H7 at s7 l7
    refine ⟨_, s7 _ _ l6, _, l7, by decide, fun p8 hp8 => ?_⟩
    simp only [List.cons_append, List.nil_append]
    have s8 : Same H7 (upd H7 p8 (.lst [.bl true, .bl true, .bl false, .bl false, .bl false])) := same_new hp8
    have l8 : (upd H7 p8 (.lst [.bl true, .bl true, .bl false, .bl false, .bl false])) p8 = some (.lst [.bl true, .bl true, .bl false, .bl false, .bl false]) := upd_same
    generalize upd H7 p8 (.lst [.bl true, .bl true, .bl false, .bl false, .bl false]) = H8 at s8 l8
    intro p9 hp9
    refine ⟨upd_same, [((Sum.inr "ink" : L2.Key), V.int 2), (Sum.inr "amount", V.int 3), (Sum.inr "worn", V.int 4)], rfl, by decide, ?_⟩
    rw [upd_upd]
    have s9 : Same H8 (upd H8 p9 (.dK (mergeK [] [((Sum.inr "ink" : L2.Key), V.int 2), (Sum.inr "amount", V.int 3), (Sum.inr "worn", V.int 4)]))) := same_new hp9
    have l9 : (upd H8 p9 (.dK (mergeK [] [((Sum.inr "ink" : L2.Key), V.int 2), (Sum.inr "amount", V.int 3), (Sum.inr "worn", V.int 4)]))) p9 = some (.dK (mergeK [] [((Sum.inr "ink" : L2.Key), V.int 2), (Sum.inr "amount", V.int 3), (Sum.inr "worn", V.int 4)])) := upd_same
    generalize upd H8 p9 (.dK (mergeK [] [((Sum.inr "ink" : L2.Key), V.int 2), (Sum.inr "amount", V.int 3), (Sum.inr "worn", V.int 4)])) = H9 at s9 l9
    have g9 : DGet H9 p9 (.str "unlike") none := DGet.k (k := (Sum.inr "unlike" : L2.Key)) l9
    refine ⟨.inl ⟨_, .inl l9⟩, _, g9, rfl, rfl, rfl, rfl, rfl, by decide, fun p10 hp10 => ?_⟩
    have e0 : decide ((none : Option V).getD (V.int 0) = V.int 0) = true := by decide
    have e2 : decide ((none : Option V).getD (V.int 0) = V.int 2) = false := by decide
    have e3 : decide ((none : Option V).getD (V.int 0) = V.int 3) = false := by decide
    have e4 : decide ((none : Option V).getD (V.int 0) = V.int 4) = false := by decide
    rw [e0, e2, e3, e4]
    have s10 : Same H9 (upd H9 p10 (.lst [.bl true, .bl true, .bl false, .bl false, .bl false])) := same_new hp10
    have l10 : (upd H9 p10 (.lst [.bl true, .bl true, .bl false, .bl false, .bl false])) p10 = some (.lst [.bl true, .bl true, .bl false, .bl false, .bl false]) := upd_same
    generalize upd H9 p10 (.lst [.bl true, .bl true, .bl false, .bl false, .bl false]) = H10 at s10 l10
    have s89 := smT s9 s10
    have dp : ∀ {q}, H10 q = some (.lst [.bl true, .bl true, .bl false, .bl false, .bl false]) → Dp K H10 (.ref q) (.list [.bool true, .bool true, .bool false, .bool false, .bool false]) := fun e => .lst (SqL.of e) (.cons (.bl _) (.cons (.bl _) (.cons (.bl _) (.cons (.bl _) (.cons (.bl _) .nil)))))
    refine ⟨_, dp (s89 _ _ l8), _, dp l10, by decide, by decide, ?_⟩
    rw [if_neg (by decide)]
    exact k _ (smT s05 (smT s6 (smT s7 (smT s8 s89))))
end

/-! ### a press that is refused -/
section
variable {P : Program} {w : World} {K : PySem.W.Frag} {mg : Str → Option Value} {base : Heap} {cP cQ cU : Addr}
/-- the classes that the law's except clause names -/
structure TRef (K : PySem.W.Frag) (mg : Str → Option Value) (cU : Addr) : Prop where
  FadeError : ∃ c, mg "FadeError" = some (.ref c) ∧ PySem.W.exmOne K (.ref cU) (.ref c) = some true
  NoInk : ∃ c, mg "NoInk" = some (.ref c) ∧ PySem.W.exmOne K (.ref cU) (.ref c) = some false
  NoAmount : ∃ c, mg "NoAmount" = some (.ref c) ∧ PySem.W.exmOne K (.ref cU) (.ref c) = some false
  Worn : ∃ c, mg "Worn" = some (.ref c) ∧ PySem.W.exmOne K (.ref cU) (.ref c) = some false
theorem exmAny_ne {K : PySem.W.Frag} {cls c : Value} {r : List Value} {b d : Bool} (h : PySem.W.exmOne K cls c = some b) (h2 : PySem.W.exmAny K cls r = some d) : PySem.W.exmAny K cls (c :: r) = some (b || d) := by
  unfold PySem.W.exmAny
  rw [h, h2]
structure CIsR (P : Program) (w : World) (K : PySem.W.Frag) (mg : Str → Option Value) (base : Heap) (cP cQ cU : Addr) : Prop where
  Place_press : HasMX P w K mg base cQ "press" 8 ["self", "other"] (spPressX K cP cQ cU)
  sort : HasP P w K mg base "_law_sort" 2 ["_law_e"] (spSort K cU)
abbrev s_is_refused : Stmt := topS 72
theorem sc_is_refused : FnScope ["_law_one", "_law_other", "_law_told", "_law_e"] ["_law_one", "_law_other"] (defScope s_is_refused) := ⟨rfl, rfl, rfl, by decide +kernel, rfl, by decide +kernel, by decide +kernel⟩

def spIsR (K : PySem.W.Frag) (cP cQ : Addr) : Sp := fun vs H Q _ => ∃ (x y p m f g p' m' f' g2 : Addr) (inks inks2 : List Lay) (wr wr2 : Int) (gr gr2 : Grd) (n n2 : Nat), vs = [.ref x, .ref y] ∧ PlaceAt K cP cQ H x p m f g inks wr gr n ∧ PlaceAt K cP cQ H y p' m' f' g2 inks2 wr2 gr2 n2 ∧
  PlOk inks gr ∧ PlOk inks2 gr2 ∧ palE inks inks2 = false ∧ ∀ H', Same H H' → Q (.bl true) H'
theorem ok_is_refused {f : Addr} {fd : FuncData} (F : Fun K "_law_is_refused" "_law_is_refused" s_is_refused f fd) (M : Blt mg) (TPlace : TPlc K mg cQ) (TR : TRef K mg cU) (C : CIsR P w K mg base cP cQ cU) : FnOk P w K mg base CX0 9 f fd ["_law_one", "_law_other"] (spIsR K cP cQ) := by
  refine F.ok sc_is_refused (fun vs H Q E h => ?_) (fun cdv A outer s H vs Q E hr h => ?_)
  · obtain ⟨x, y, p, m, f, g, p', m', f', g2, inks, inks2, wr, wr2, gr, gr2, n, n2, rfl, _⟩ := h
    rfl
  · obtain ⟨x, y, p, m, f, g, p', m', f', g2, inks, inks2, wr, wr2, gr, gr2, n, n2, rfl, hX, hY, ok, ok2, e, k⟩ := h
    obtain ⟨cFadeError, xFadeError⟩ := TR.FadeError
    obtain ⟨cNoInk, xNoInk⟩ := TR.NoInk
    obtain ⟨cNoAmount, xNoAmount⟩ := TR.NoAmount
    obtain ⟨cWorn, xWorn⟩ := TR.Worn
    refine ⟨_, (pss_cons (ps_set (i := 2) sc_is_refused.nd rfl (by first | exact Or.inl rfl | exact Or.inr rfl) pe_str)
      (pss_cons (ps_try_cl rfl rfl sc_is_refused.nd takes0 (fun W pn xe tk _ => (pss_one (ps_expr (methX C.Place_press TPlace.cl hr tk (pv 0) (pa_cons (pv 1) pa_nil))))) (.consAs (i := 3) rfl rfl (test_t4 ⟨rfl, by decide, .inl xFadeError.1⟩ ⟨rfl, by decide, .inl xNoInk.1⟩ ⟨rfl, by decide, .inl xNoAmount.1⟩ ⟨rfl, by decide, .inl xWorn.1⟩) (fun a oe cls d pn hz hf => (pss_one (ps_set (i := 2) sc_is_refused.nd rfl (by first | exact Or.inl rfl | exact Or.inr rfl) (callP C.sort hr hz hf (by rfl) (pa_cons (pv 3) pa_nil))))) .nil))
      (pss_one (ps_ret (pe_cmpR op_eq (pv 2) pe_str (nomark _)))))), ?_⟩
    obtain ⟨dx, hx⟩ := hX.ob
    have ex := exmAny_ne xFadeError.2 (exmAny_ne xNoInk.2 (exmAny_ne xNoAmount.2 (exmAny_ne xWorn.2 (r := []) rfl)))
    simp only [tSeq, tIfS, tTest, tOp, tUn, tVar, tC, rI, rI0, rU, rEq, rNe, rIxL, rIxT, rIxS, tCB, tCons, tNil, tRet, tRetN, tAsg, gTup, gCons, gNil, gName, gSub, rSetL, tNext, tDrop, tLst, tTup, tCall, tIf, tB, tAnd, tOr, tNot, tSl, tPart, tNoPart, tM1, tM0, tBM, tBM0, tLcE, tForE, iRng1, iRng2, iTup, iList, iStr, tYes, wipe, startDef, cxK, noxK, exists_and_left, exists_eq_left', exists_eq_left, exists_eq_right, Option.some.injEq, V.int.injEq, V.ref.injEq, V.str.injEq, V.bl.injEq, List.cons.injEq, and_true, true_and, List.append_nil, List.map_cons, List.map_nil, List.length_cons, List.length_nil, List.replicate, List.nil_append, List.cons_append, List.set_cons_zero, List.set_cons_succ, List.getElem?_cons_zero, List.getElem?_cons_succ, decide_eq_true_eq, exists_const, Nat.reduceAdd, Nat.reduceSub, List.replicate_succ, List.replicate_zero, exists_prop, and_assoc, List.set_nil, rLenK, rTupK, rLstK, rReprK, rEqD, rNeD, rIn, rAll, rAppend, rCat, ↓reduceIte, Bool.false_eq_true, iEnumT, rSortedPO, rIsi, rRep, rReverse, tLstRg, tTupRg, tRg1, tRg2, rSlL, rSlT, rSortedI, rSlF, rCatF, rMax, tLc2E, rSortedL, rSortedT, gUnl, tPar, rReprX, tChain, tDNewK, tDisp, tPairs, tAndV, tNotV, tFd, sFd, tMeth, tMake, tMakeK, gStar, iZipM, iItems, tLock, tSpread, tDcE, tDGet, sDPut, tPar3, tNever, rIxD, tChain, iEnum, tDIn, tDNotIn, gHd, spPressX, tCallS, WE, tMethX, tCallP, wCl, endN, setN, spSort]
    refine ⟨dx, _, hx, by rfl, p, m, f, g, p', m', f', g2, inks, inks2, wr, wr2, gr, gr2, n, hX, n2, hY, ok, ok2, .inl ⟨e, true, ex, fun _ a ha H' s => ⟨rfl, ?_⟩, fun z => nomatch z⟩⟩
    rw [decide_eq_true True.intro]
    exact k H' s
end

/-! ### the law's model pressed -/
section
variable {P : Program} {w : World} {K : PySem.W.Frag} {mg : Str → Option Value} {base : Heap} {cP cQ : Addr}
structure CLpr (P : Program) (w : World) (K : PySem.W.Frag) (mg : Str → Option Value) (base : Heap) : Prop where
  put : Has P w K mg base "_law_put" 1 ["_law_model_here", "_law_ink", "_law_tag", "_law_strength"] (spPut K)
  seen : Has P w K mg base "_law_seen" 3 ["_law_model_here"] (spLSeen K)
abbrev s_lpressed : Stmt := topS 71
theorem sc_lpressed : FnScope ["_law_model_here", "_law_other", "_law_told"] ["_law_model_here", "_law_other"] (defScope s_lpressed) := ⟨rfl, rfl, rfl, by decide +kernel, rfl, by decide +kernel, by decide +kernel⟩

def spLPr (K : PySem.W.Frag) : Sp := fun vs H Q _ => ∃ (mo rw mo' rw' li : Addr) (inks : List Lay) (wr wr' : Int) (gr gr' : Grd) (n n' : Nat), vs = [.ref mo, .ref mo'] ∧ ModAt K H mo rw li inks wr gr n ∧ ModAt K H mo' rw' li inks wr' gr' n' ∧ GdOk inks gr ∧ GdOk inks gr' ∧ mo ≠ rw ∧
  (((∀ (ink : Str) (l : Lyr), topG (gG gr') = some (ink, mG l) → l.2.2 < 2) ∧ ∀ H', Same H H' → Q .non H') ∨
    ∃ r ∈ gr, ∃ (l : Lyr), topG (gG gr') = some (r.1, mG l) ∧ 2 ≤ l.2.2 ∧ r.2.length ≤ 500 ∧ ∀ H', ModAt K H' mo rw li inks wr (layP gr r.1 (n, l.2.1, l.2.2 / 2)) (n + 1) → (∀ a o, a ≠ mo → a ≠ rw → H a = some o → H' a = some o) → Q .non H')
theorem ok_lpressed {f : Addr} {fd : FuncData} (F : Fun K "_law_pressed" "_law_pressed" s_lpressed f fd) (M : Blt mg) (C : CLpr P w K mg base) : FnOk P w K mg base CX0 4 f fd ["_law_model_here", "_law_other"] (spLPr K) := by
  refine F.ok sc_lpressed (fun vs H Q E h => ?_) (fun cdv A outer s H vs Q E hr h => ?_)
  · obtain ⟨mo, rw, mo', rw', li, inks, wr, wr', gr, gr', n, n', rfl, _⟩ := h
    rfl
  · obtain ⟨mo, rw, mo', rw', li, inks, wr, wr', gr, gr', n, n', rfl, hm, hm', gd, gd', nmr, hc⟩ := h
    refine ⟨_, (pss_cons (ps_set (i := 2) sc_lpressed.nd rfl (by first | exact Or.inl rfl | exact Or.inr rfl) (pe_ix (k_ixT (K := K) rfl) (callH C.seen hr (by rfl) (pa_cons (pv 1) pa_nil)) pe_int (fun _ _ => rfl)))
      (pss_one (ps_if (PW.pt (pw_and (pt_cmpR op_notN (pv 2) pe_non (nomark _)) (pw_and1 (pt_cmpR op_gt (pe_op op_fdiv (pe_ix (k_ixT (K := K) rfl) (pv 2) pe_int (fun _ _ => rfl)) pe_int) pe_int (nomark _))))) (pss_one (ps_expr (callH C.put hr (by rfl) (pa_cons (pv 0) (pa_cons (pe_ix (k_ixT (K := K) rfl) (pv 2) pe_int (fun _ _ => rfl)) (pa_cons (pe_ix (k_ixT (K := K) rfl) (pv 2) pe_int (fun _ _ => rfl)) (pa_cons (pe_op op_fdiv (pe_ix (k_ixT (K := K) rfl) (pv 2) pe_int (fun _ _ => rfl)) pe_int) pa_nil))))))) pss_nil))), ?_⟩
    simp only [tSeq, tIfS, tTest, tOp, tUn, tVar, tC, rI, rI0, rU, rEq, rNe, rIxL, rIxT, rIxS, tCB, tCons, tNil, tRet, tRetN, tAsg, gTup, gCons, gNil, gName, gSub, rSetL, tNext, tDrop, tLst, tTup, tCall, tIf, tB, tAnd, tOr, tNot, tSl, tPart, tNoPart, tM1, tM0, tBM, tBM0, tLcE, tForE, iRng1, iRng2, iTup, iList, iStr, tYes, wipe, startDef, cxK, noxK, exists_and_left, exists_eq_left', exists_eq_left, exists_eq_right, Option.some.injEq, V.int.injEq, V.ref.injEq, V.str.injEq, V.bl.injEq, List.cons.injEq, and_true, true_and, List.append_nil, List.map_cons, List.map_nil, List.length_cons, List.length_nil, List.replicate, List.nil_append, List.cons_append, List.set_cons_zero, List.set_cons_succ, List.getElem?_cons_zero, List.getElem?_cons_succ, decide_eq_true_eq, exists_const, Nat.reduceAdd, Nat.reduceSub, List.replicate_succ, List.replicate_zero, exists_prop, and_assoc, List.set_nil, rLenK, rTupK, rLstK, rReprK, rEqD, rNeD, rIn, rAll, rAppend, rCat, ↓reduceIte, Bool.false_eq_true, iEnumT, rSortedPO, rIsi, rRep, rReverse, tLstRg, tTupRg, tRg1, tRg2, rSlL, rSlT, rSortedI, rSlF, rCatF, rMax, tLc2E, rSortedL, rSortedT, gUnl, tPar, rReprX, tChain, tDNewK, tDisp, tPairs, tAndV, tNotV, tFd, sFd, tMeth, tMake, tMakeK, gStar, iZipM, iItems, tLock, tSpread, tDcE, tDGet, sDPut, tPar3, tNever, rIxD, tChain, iEnum, tDIn, tDNotIn, gHd, spLSeen, spPut]
    refine ⟨rw', li, inks, wr', gr', n', hm', gd', fun t a b H1 s1 ht sp sm => ⟨_, SqT.of ht, a, atI_nat (j := 0) rfl, ?_⟩⟩
    rcases sp with ⟨t0, rfl⟩ | ⟨ink, l, t0, da⟩
    · rw [if_neg (by decide)]
      rcases hc with ⟨_, k⟩ | ⟨r, mr, l, t1, _⟩
      · exact k _ s1
      · exact nomatch t0.symm.trans t1
    · obtain ⟨a', xs, rfl, sqa, ala⟩ := Dp.tupInv da
      obtain rfl : xs = [.str ink, .str l.2.1, .int l.2.2] := by
        cases ala with
        | cons h1 ala =>
          cases ala with
          | cons h2 ala =>
            cases ala with
            | cons h3 ala =>
              cases ala
              cases h1
              cases h2
              cases h3
              rfl
      show (if (!decide (V.ref a' = V.non)) = true then _ else _)
      rw [if_pos (by simp)]
      refine ⟨a', rfl, _, sqa, _, atI_nat (j := 2) rfl, l.2.2, rfl, ⟨by decide, by decide⟩, ?_⟩
      rcases hc with ⟨no, k⟩ | ⟨r, mr, l', t1, g2, rl, k⟩
      · have := no ink l t0
        rw [if_neg (by omega)]
        exact k _ s1
      · have e := Option.some.inj (t0.symm.trans t1)
        have e1 : ink = r.1 := (Prod.mk.inj e).1
        have e2 : l = l' := mG_inj (Prod.mk.inj e).2
        subst e2
        subst e1
        have nd : (gr.map (·.1)).Nodup := by rw [gd.nms]; exact gd.iok.nd
        have most := gd.iok.most
        have lenG : gr.length = inks.length := by
          have := congrArg List.length gd.nms
          simpa using this
        rw [if_pos (by omega)]
        exact ⟨a', rfl, _, sqa, _, atI_nat (j := 0) rfl, a', rfl, _, sqa, _, atI_nat (j := 1) rfl, a', rfl, _, sqa, _, atI_nat (j := 2) rfl, l.2.2, rfl, ⟨by decide, by decide⟩, rw, li, inks, wr, gr, n, r, rfl, l.2.1, rfl, hm.same s1, mr, nd, by omega, rl, nmr, fun H3 hM3 fr3 => k H3 hM3 fun a o n1 n2 e => fr3 a o n1 n2 (s1 _ _ e)⟩
end

/-! ### inks that differ -/
theorem dps_takeI {K : PySem.W.Frag} {H : Hp} : ∀ {xs : List V} {ds : List PyData} (n : Nat), DpAll K H xs ds → DpAll K H (xs.take n) (ds.take n)
  | _, _, 0, _ => by rw [List.take_zero, List.take_zero]; exact .nil
  | _, _, _ + 1, .nil => .nil
  | _, _, n + 1, .cons h t => .cons h (dps_takeI n t)
theorem dps_dropI {K : PySem.W.Frag} {H : Hp} : ∀ {xs : List V} {ds : List PyData} (n : Nat), DpAll K H xs ds → DpAll K H (xs.drop n) (ds.drop n)
  | _, _, 0, h => h
  | _, _, _ + 1, .nil => .nil
  | _, _, n + 1, .cons _ t => dps_dropI n t
theorem palE_comm (a b : List Lay) : palE a b = palE b a := PySem.W.eqv_comm _ _
theorem eqvAll_len : ∀ {a b : List PyData}, a.length ≠ b.length → PyData.eqvAll a b = false
  | [], [], h => absurd rfl h
  | [], _ :: _, _ => rfl
  | _ :: _, [], _ => rfl
  | x :: a, y :: b, h => by
    unfold PyData.eqvAll
    rw [eqvAll_len (a := a) (b := b) (fun q => h (by rw [List.length_cons, List.length_cons, q])), Bool.and_false]
theorem palE_len {a b : List Lay} (h : a.length ≠ b.length) : palE a b = false := by
  unfold palE PyData.eqv
  exact eqvAll_len (by rw [List.length_map, List.length_map]; exact h)
theorem ok_parts {inks : List Lay} {j : Nat} {lay : Lay} (e : inks[j]? = some lay) : inks = inks.take j ++ [lay] ++ inks.drop (j + 1) := by
  obtain ⟨h, rfl⟩ := List.getElem?_eq_some_iff.mp e
  simp
theorem _root_.Fd.InksOk.rot {inks : List Lay} (h : InksOk inks) : InksOk (inks.drop 1 ++ inks.take 1) := by
  have pm : (inks.drop 1 ++ inks.take 1).Perm inks := by
    have q := List.perm_append_comm (l₁ := inks.drop 1) (l₂ := inks.take 1)
    rw [List.take_append_drop] at q
    exact q
  exact ⟨fun i m => h.ok i (pm.subset m), (pm.map _).nodup_iff.mpr h.nd, by rw [pm.length_eq]; exact h.pos, by rw [pm.length_eq]; exact h.most⟩
theorem _root_.Fd.InksOk.ren0 {inks : List Lay} (h : InksOk inks) {j : Nat} {lay new : Lay} (e : inks[j]? = some lay) (nm : NmOk new.1) (nin : new.1 = lay.1 ∨ new.1 ∉ inks.map (·.1)) (h0 : 0 ≤ new.2) (hb : new.2.natAbs < 2 ^ 250) : InksOk (inks.take j ++ [new] ++ inks.drop (j + 1)) := by
  have p := ok_parts e
  have nd := h.nd
  rw [p] at nd
  have hl : (inks.take j ++ [new] ++ inks.drop (j + 1)).length = inks.length := by
    conv => rhs; rw [p]
    simp
  have inA : ∀ i, i ∈ inks.take j → i ∈ inks := fun i m => List.mem_of_mem_take m
  have inB : ∀ i, i ∈ inks.drop (j + 1) → i ∈ inks := fun i m => List.mem_of_mem_drop m
  refine ⟨fun i m => ?_, ?_, by rw [hl]; exact h.pos, by rw [hl]; exact h.most⟩
  · rcases List.mem_append.mp m with m | m
    · rcases List.mem_append.mp m with m | m
      · exact h.ok i (inA i m)
      · rw [List.mem_singleton.mp m]
        exact ⟨nm, h0, hb⟩
    · exact h.ok i (inB i m)
  · rw [List.map_append, List.map_append] at nd ⊢
    rw [List.nodup_append] at nd ⊢
    obtain ⟨n1, n2, n3⟩ := nd
    rw [List.nodup_append] at n1 ⊢
    obtain ⟨a1, a2, a3⟩ := n1
    have nw : ∀ (x : Str), x ∈ (inks.take j).map (·.1) ∨ x ∈ (inks.drop (j + 1)).map (·.1) → x ≠ new.1 := by
      intro x hx
      rcases nin with q | q
      · rw [q]
        rcases hx with hx | hx
        · exact a3 x hx _ (by simp)
        · exact Ne.symm (n3 lay.1 (by simp) x hx)
      · rintro rfl
        rcases hx with hx | hx
        · obtain ⟨i, mi, ei⟩ := List.mem_map.mp hx
          exact q (List.mem_map.mpr ⟨i, inA i mi, ei⟩)
        · obtain ⟨i, mi, ei⟩ := List.mem_map.mp hx
          exact q (List.mem_map.mpr ⟨i, inB i mi, ei⟩)
    refine ⟨⟨a1, by simp, fun a ma b mb => ?_⟩, n2, fun a ma b mb => ?_⟩
    · have : b = new.1 := by simpa using mb
      rw [this]
      exact nw a (.inl ma)
    · rcases List.mem_append.mp ma with ma | ma
      · exact n3 a (List.mem_append.mpr (.inl ma)) b mb
      · have : a = new.1 := by simpa using ma
        rw [this]
        exact Ne.symm (nw b (.inr mb))
theorem _root_.Fd.InksOk.put {inks : List Lay} (h : InksOk inks) {j : Nat} {lay new : Lay} (e : inks[j]? = some lay) (en : new.1 = lay.1) (h0 : 0 ≤ new.2) (hb : new.2.natAbs < 2 ^ 250) : InksOk (inks.take j ++ [new] ++ inks.drop (j + 1)) :=
  h.ren0 e (by rw [en]; exact (h.ok lay (List.mem_of_getElem? e)).1) (.inl en) h0 hb
theorem _root_.Fd.InksOk.ren {inks : List Lay} (h : InksOk inks) {j : Nat} {lay : Lay} {z : Str} (e : inks[j]? = some lay) (nm : NmOk z) (nin : z ∉ inks.map (·.1)) : InksOk (inks.take j ++ [(z, lay.2)] ++ inks.drop (j + 1)) :=
  h.ren0 e nm (.inr nin) (h.ok lay (List.mem_of_getElem? e)).2.1 (h.ok lay (List.mem_of_getElem? e)).2.2
theorem _root_.Fd.InksOk.app {inks : List Lay} (h : InksOk inks) {z : Str} (i4 : inks.length ≤ 7) (nm : NmOk z) (nin : z ∉ inks.map (·.1)) : InksOk (inks ++ [(z, 0)]) := by
  refine ⟨fun i m => ?_, ?_, by rw [List.length_append]; have := h.pos; omega, by rw [List.length_append]; show _ + 1 ≤ 8; omega⟩
  · rcases List.mem_append.mp m with m | m
    · exact h.ok i m
    · rw [List.mem_singleton.mp m]
      exact ⟨nm, Int.le_refl _, by show (0 : Int).natAbs < 2 ^ 250; decide⟩
  · rw [List.map_append, List.nodup_append]
    refine ⟨h.nd, by simp, fun a ma b mb => ?_⟩
    have : b = z := by simpa using mb
    rw [this]
    rintro rfl
    exact nin ma
section
variable {P : Program} {w : World} {K : PySem.W.Frag} {mg : Str → Option Value} {base : Heap}
structure COi (P : Program) (w : World) (K : PySem.W.Frag) (mg : Str → Option Value) (base : Heap) : Prop extends CTake P w K mg base where
  word : Has P w K mg base "_law_word" 2 ["_law_pot_here", "_law_found"] spWord
abbrev s_other_inks : Stmt := topS 70
theorem sc_other_inks : FnScope ["_law_pot_here", "_law_inks_here", "_law_at_here", "_law_word_here", "_law_ink", "_law_much", "_law_name", "_law_fade", "_law_some", "_law_found"] ["_law_pot_here", "_law_inks_here"] (defScope s_other_inks) := ⟨rfl, rfl, rfl, by decide +kernel, rfl, by decide +kernel, by decide +kernel⟩

def spOi (K : PySem.W.Frag) : Sp := fun vs H Q _ => ∃ (pt li : Addr) (inks : List Lay), vs = [.ref pt, .ref li] ∧ Pot H pt ∧ InksL K H li inks ∧ InksOk inks ∧ inks.length ≤ 4 ∧ (∀ i ∈ inks, i.2.natAbs < 2 ^ 240) ∧ li ≠ pt ∧
  ∀ l2 (inks2 : List Lay) H', InksL K H' l2 inks2 → l2 ≠ pt → InksOk inks2 → palE inks2 inks = false → palE inks inks2 = false → Fd.St (some pt) H H' → Q (.ref l2) H'
theorem ok_other_inks {f : Addr} {fd : FuncData} (F : Fun K "_law_other_inks" "_law_other_inks" s_other_inks f fd) (M : Blt mg) (C : COi P w K mg base) : FnOk P w K mg base CX0 3 f fd ["_law_pot_here", "_law_inks_here"] (spOi K) := by
  refine F.ok sc_other_inks (fun vs H Q E h => ?_) (fun cdv A outer s H vs Q E hr h => ?_)
  · obtain ⟨pt, li, inks, rfl, _⟩ := h
    rfl
  · obtain ⟨pt, li, inks, rfl, pp, ⟨us, hl, al⟩, iok, i4, hb, nl, k⟩ := h
    have hu := hu_of hr
    have hu70 := units70 hr (by decide)
    refine ⟨_, (pss_cons (ps_par (i := 2) (j := 3) (by rfl) sc_other_inks.nd rfl rfl (by decide) rfl rfl (pa_cons (callH C.take hr (by rfl) (pa_cons (pv 0) (pa_cons (pe_callB (k_len (K := K) rfl) (by rfl) M.len (by decide +kernel) (pa_cons (pv 1) pa_nil)) pa_nil))) (pa_cons (callH C.word hr (by rfl) (pa_cons (pv 0) (pa_cons (pe_lc (own := [("_law_ink", 4), ("_law_much", 5)]) (g := gTup K 2 (gCons (gName 4) (gCons (gName 5) gNil))) (tt := tYes) rfl sc_other_inks.nd (pi_list (pv 1)) (blkOk_by (own := [("_law_ink", 4), ("_law_much", 5)]) (N := ["_law_pot_here", "_law_inks_here", "_law_at_here", "_law_word_here", "_law_ink", "_law_much", "_law_name", "_law_fade", "_law_some", "_law_found"]) (sc := defScope s_other_inks) (by decide +kernel)) (fun _ _ _ _ _ => (pg_tup (n := 2) (by rfl) (pgs_cons (pg_name (i := 4) sc_other_inks.nd rfl (by first | exact Or.inl rfl | exact Or.inr rfl)) (pgs_cons (pg_name (i := 5) sc_other_inks.nd rfl (by first | exact Or.inl rfl | exact Or.inr rfl)) pgs_nil)))) (fun _ _ _ _ _ => pts_nil) (fun _ _ _ _ _ => (pv 4))) pa_nil))) pa_nil)) (by rfl))
      (pss_cons (ps_asg (pe_ix (k_ixL (K := K) rfl) (pv 1) (pv 2) (fun _ _ => rfl)) (pg_tup (n := 2) (by rfl) (pgs_cons (pg_name (i := 6) sc_other_inks.nd rfl (by first | exact Or.inl rfl | exact Or.inr rfl)) (pgs_cons (pg_name (i := 7) sc_other_inks.nd rfl (by first | exact Or.inl rfl | exact Or.inr rfl)) pgs_nil))))
      (C8.pss_cut (ps_set (i := 8) sc_other_inks.nd rfl (by first | exact Or.inl rfl | exact Or.inr rfl) (pe_lst (pa_cons (pe_op op_cat (pe_slice (k_slL (K := K) rfl) (pv 1) (po_some pe_int) po_none) (pe_slice (k_slL (K := K) rfl) (pv 1) po_none (po_some pe_int))) (pa_cons (pe_op op_cat (pe_op op_cat (pe_slice (k_slL (K := K) rfl) (pv 1) po_none (po_some (pv 2))) (pe_lst (pa_cons (pe_tup (pa_cons (pv 6) (pa_cons (pe_op op_add (pv 7) pe_int) pa_nil))) pa_nil))) (pe_slice (k_slL (K := K) rfl) (pv 1) (po_some (pe_op op_add (pv 2) pe_int)) po_none)) (pa_cons (pe_op op_cat (pv 1) (pe_lst (pa_cons (pe_tup (pa_cons (pv 3) (pa_cons pe_int pa_nil))) pa_nil))) pa_nil)))))
      (C8.pss_cut (ps_set (i := 9) sc_other_inks.nd rfl (by first | exact Or.inl rfl | exact Or.inr rfl) (pe_ix (k_ixL (K := K) rfl) (pe_op op_cat (pv 8) (pe_lst (pa_cons (pe_op op_cat (pe_op op_cat (pe_slice (k_slL (K := K) rfl) (pv 1) po_none (po_some (pv 2))) (pe_lst (pa_cons (pe_tup (pa_cons (pv 3) (pa_cons (pv 7) pa_nil))) pa_nil))) (pe_slice (k_slL (K := K) rfl) (pv 1) (po_some (pe_op op_add (pv 2) pe_int)) po_none)) pa_nil))) (callH C.take hr (by rfl) (pa_cons (pv 0) (pa_cons pe_int pa_nil))) (fun _ _ => rfl)))
      (pss_cons (ps_if (pt_cmpR (k_eqD (K := K) rfl hr.units) (pv 9) (pv 1) (nomark _)) (pss_one (ps_ret (pe_op op_cat (pv 1) (pe_lst (pa_cons (pe_tup (pa_cons (pv 3) (pa_cons pe_int pa_nil))) pa_nil))))) pss_nil)
      (pss_one (ps_ret (pv 9)))))))), ?_⟩
    simp only [tSeq, tIfS, tTest, tOp, tUn, tVar, tC, rI, rI0, rU, rEq, rNe, rIxL, rIxT, rIxS, tCB, tCons, tNil, tRet, tRetN, tAsg, gTup, gCons, gNil, gName, gSub, rSetL, tNext, tDrop, tLst, tTup, tCall, tIf, tB, tAnd, tOr, tNot, tSl, tPart, tNoPart, tM1, tM0, tBM, tBM0, tLcE, tForE, iRng1, iRng2, iTup, iList, iStr, tYes, wipe, startDef, cxK, noxK, exists_and_left, exists_eq_left', exists_eq_left, exists_eq_right, Option.some.injEq, V.int.injEq, V.ref.injEq, V.str.injEq, V.bl.injEq, List.cons.injEq, and_true, true_and, List.append_nil, List.map_cons, List.map_nil, List.length_cons, List.length_nil, List.replicate, List.nil_append, List.cons_append, List.set_cons_zero, List.set_cons_succ, List.getElem?_cons_zero, List.getElem?_cons_succ, decide_eq_true_eq, exists_const, Nat.reduceAdd, Nat.reduceSub, List.replicate_succ, List.replicate_zero, exists_prop, and_assoc, List.set_nil, rLenK, rTupK, rLstK, rReprK, rEqD, rNeD, rIn, rAll, rAppend, rCat, ↓reduceIte, Bool.false_eq_true, iEnumT, rSortedPO, rIsi, rRep, rReverse, tLstRg, tTupRg, tRg1, tRg2, rSlL, rSlT, rSortedI, rSlF, rCatF, rMax, tLc2E, rSortedL, rSortedT, gUnl, tPar, rReprX, tChain, tDNewK, tDisp, tPairs, tAndV, tNotV, tFd, sFd, tMeth, tMake, tMakeK, gStar, iZipM, iItems, tLock, tSpread, tDcE, tDGet, sDPut, tPar3, tNever, rIxD, tChain, iEnum, tDIn, tDNotIn, gHd, spTake, spWord]
    have len := lays_len al
    refine ⟨us, .inl (SqL.of hl), pp, by have := iok.pos; omega, Nat.lt_of_le_of_lt (Nat.log2_le_self _) (by omega), fun d H1 d0 d1 s1 => ?_⟩
    have hl1 := s1.same li _ (fun z => nl (Option.some.inj z)) hl
    have al1 := dpsSt pp.potO s1 (flat_lays inks) al
    obtain ⟨j, rfl⟩ : ∃ j : Nat, d = (j : Int) := ⟨d.toNat, by omega⟩
    refine ⟨⟨us, SqL.of hl1⟩, ?_⟩
    refine lcK (K := K) (walk_list (xs := us)) none (fun i ds => ds = ((inks.take i).map (·.1)).map PyData.str) potN (fun H s => SqL.of (s.toSame _ _ hl1)) (by omega) rfl ?_ ?_
    · rintro i z Hb Hb' ds C' N hi sb _ rfl ⟨rfl, ez⟩ go _
      obtain ⟨lay, b, e3, rfl, sq, _⟩ := lays_get al1 ez
      simp only [tSeq, tIfS, tTest, tOp, tUn, tVar, tC, rI, rI0, rU, rEq, rNe, rIxL, rIxT, rIxS, tCB, tCons, tNil, tRet, tRetN, tAsg, gTup, gCons, gNil, gName, gSub, rSetL, tNext, tDrop, tLst, tTup, tCall, tIf, tB, tAnd, tOr, tNot, tSl, tPart, tNoPart, tM1, tM0, tBM, tBM0, tLcE, tForE, iRng1, iRng2, iTup, iList, iStr, tYes, wipe, startDef, cxK, noxK, exists_and_left, exists_eq_left', exists_eq_left, exists_eq_right, Option.some.injEq, V.int.injEq, V.ref.injEq, V.str.injEq, V.bl.injEq, List.cons.injEq, and_true, true_and, List.append_nil, List.map_cons, List.map_nil, List.length_cons, List.length_nil, List.replicate, List.nil_append, List.cons_append, List.set_cons_zero, List.set_cons_succ, List.getElem?_cons_zero, List.getElem?_cons_succ, decide_eq_true_eq, exists_const, Nat.reduceAdd, Nat.reduceSub, List.replicate_succ, List.replicate_zero, exists_prop, and_assoc, List.set_nil, rLenK, rTupK, rLstK, rReprK, rEqD, rNeD, rIn, rAll, rAppend, rCat, ↓reduceIte, Bool.false_eq_true, iEnumT, rSortedPO, rIsi, rRep, rReverse, tLstRg, tTupRg, tRg1, tRg2, rSlL, rSlT, rSortedI, rSlF, rCatF, rMax, tLc2E, rSortedL, rSortedT, gUnl, tPar, rReprX, tChain, tDNewK, tDisp, tPairs, tAndV, tNotV, tFd, sFd, tMeth, tMake, tMakeK, gStar, iZipM, iItems, tLock, tSpread, tDcE, tDGet, sDPut, tPar3, tNever, rIxD, tChain, iEnum, tDIn, tDNotIn, gHd]
      refine ⟨_, St.tup potN sb sq, rfl, _, _, rfl, _, _, rfl, rfl, ?_⟩
      refine go _ _ (.str lay.1) (St.refl potN) (by simp [flatT]) (.str _) ?_
      rw [List.take_add_one, e3, List.map_append, List.map_append]
      rfl
    · rintro D acc ds H2 hD sD hl2 fl al2 rfl
      rw [show inks.take us.length = inks from List.take_of_length_le (by omega)] at al2
      obtain rfl := dps_strs_inv al2
      have s12 := sD.toSame
      have pp2 : Pot H2 pt := by
        obtain ⟨u, v, q⟩ := s1.pt
        exact ⟨u, v, s12 _ _ q⟩
      refine ⟨D, rfl, pp2, _, hl2, s1.pt.ne hD, by rw [List.length_map]; omega, fun z H3 nm nin s3 => ?_⟩
      have t03 := (s1.trans (St.ofSame s1.pt.potO s12)).trans s3
      have hl3 := t03.same li _ (fun z => nl (Option.some.inj z)) hl
      have al3 := dpsSt pp.potO t03 (flat_lays inks) al
      have ex : us[j]? = some us[j] := List.getElem?_eq_getElem (by omega)
      obtain ⟨lay, b, e3, e4, sq, _⟩ := lays_get al3 ex
      refine ⟨us, SqL.of hl3, _, atI_nat ex, b, e4, _, sq, rfl, _, _, rfl, _, _, rfl, rfl, ?_⟩
      have pp3 : Pot H3 pt := s3.pt
      have line : (1000 : Nat) < sizeLine := by decide
      clear hD sD hl2 fl al2 s12 pp2 hl1 al1 s1
      unfold C8.tCut
      refine ⟨fun σ' H' => ∃ (sm a1 a2 a3 : Addr), σ' = [some (V.ref pt), some (V.ref li), some (V.int j), some (V.str z), none, none, some (V.str lay.1), some (V.int lay.2), some (.ref sm), none] ∧ Same H3 H' ∧ H3 sm = none ∧ H' sm = some (.lst [.ref a1, .ref a2, .ref a3]) ∧
        H3 a1 = none ∧ H3 a2 = none ∧ H3 a3 = none ∧ InksL K H' a1 (inks.drop 1 ++ inks.take 1) ∧ InksL K H' a2 (inks.take j ++ [(lay.1, lay.2 + 1)] ++ inks.drop (j + 1)) ∧ InksL K H' a3 (inks ++ [(z, 0)]), ?_, ?_⟩
      · simp only [tSeq, tIfS, tTest, tOp, tUn, tVar, tC, rI, rI0, rU, rEq, rNe, rIxL, rIxT, rIxS, tCB, tCons, tNil, tRet, tRetN, tAsg, gTup, gCons, gNil, gName, gSub, rSetL, tNext, tDrop, tLst, tTup, tCall, tIf, tB, tAnd, tOr, tNot, tSl, tPart, tNoPart, tM1, tM0, tBM, tBM0, tLcE, tForE, iRng1, iRng2, iTup, iList, iStr, tYes, wipe, startDef, cxK, noxK, exists_and_left, exists_eq_left', exists_eq_left, exists_eq_right, Option.some.injEq, V.int.injEq, V.ref.injEq, V.str.injEq, V.bl.injEq, List.cons.injEq, and_true, true_and, List.append_nil, List.map_cons, List.map_nil, List.length_cons, List.length_nil, List.replicate, List.nil_append, List.cons_append, List.set_cons_zero, List.set_cons_succ, List.getElem?_cons_zero, List.getElem?_cons_succ, decide_eq_true_eq, exists_const, Nat.reduceAdd, Nat.reduceSub, List.replicate_succ, List.replicate_zero, exists_prop, and_assoc, List.set_nil, rLenK, rTupK, rLstK, rReprK, rEqD, rNeD, rIn, rAll, rAppend, rCat, ↓reduceIte, Bool.false_eq_true, iEnumT, rSortedPO, rIsi, rRep, rReverse, tLstRg, tTupRg, tRg1, tRg2, rSlL, rSlT, rSortedI, rSlF, rCatF, rMax, tLc2E, rSortedL, rSortedT, gUnl, tPar, rReprX, tChain, tDNewK, tDisp, tPairs, tAndV, tNotV, tFd, sFd, tMeth, tMake, tMakeK, gStar, iZipM, iItems, tLock, tSpread, tDcE, tDGet, sDPut, tPar3, tNever, rIxD, tChain, iEnum, tDIn, tDNotIn, gHd]
        refine ⟨us, SqL.of hl3, fun q0 hq0 => ?_⟩
        rw [show (1 : Int) = ((1 : Nat) : Int) from rfl, cut_drop]
        have sA0 : Same H3 (upd H3 q0 (.lst (us.drop 1))) := same_new hq0
        have lA0 : (upd H3 q0 (.lst (us.drop 1))) q0 = some (.lst (us.drop 1)) := upd_same
        generalize upd H3 q0 (.lst (us.drop 1)) = HA0 at sA0 lA0
        refine ⟨us, SqL.of (sA0 _ _ hl3), fun q1 hq1 => ?_⟩
        rw [cut_take]
        have sA1 : Same HA0 (upd HA0 q1 (.lst (us.take 1))) := same_new hq1
        have lA1 : (upd HA0 q1 (.lst (us.take 1))) q1 = some (.lst (us.take 1)) := upd_same
        generalize upd HA0 q1 (.lst (us.take 1)) = HA1 at sA1 lA1
        refine ⟨_, sA1 _ _ lA0, _, lA1, by rw [List.length_drop, List.length_take]; omega, fun q2 hq2 => ?_⟩
        have sA2 : Same HA1 (upd HA1 q2 (.lst (us.drop 1 ++ us.take 1))) := same_new hq2
        have lA2 : (upd HA1 q2 (.lst (us.drop 1 ++ us.take 1))) q2 = some (.lst (us.drop 1 ++ us.take 1)) := upd_same
        generalize upd HA1 q2 (.lst (us.drop 1 ++ us.take 1)) = HA2 at sA2 lA2
        have sB2 := smT sA0 (smT sA1 sA2)
        refine ⟨us, SqL.of (sB2 _ _ hl3), fun q3 hq3 => ?_⟩
        rw [cut_take]
        have sA3 : Same HA2 (upd HA2 q3 (.lst (us.take j))) := same_new hq3
        have lA3 : (upd HA2 q3 (.lst (us.take j))) q3 = some (.lst (us.take j)) := upd_same
        generalize upd HA2 q3 (.lst (us.take j)) = HA3 at sA3 lA3
        refine ⟨by decide, fun q4 hq4 => ?_⟩
        have sA4 : Same HA3 (upd HA3 q4 (.tup [.str lay.1, .int (lay.2 + 1)])) := same_new hq4
        have lA4 : (upd HA3 q4 (.tup [.str lay.1, .int (lay.2 + 1)])) q4 = some (.tup [.str lay.1, .int (lay.2 + 1)]) := upd_same
        generalize upd HA3 q4 (.tup [.str lay.1, .int (lay.2 + 1)]) = HA4 at sA4 lA4
        refine ⟨by decide, fun q5 hq5 => ?_⟩
        have sA5 : Same HA4 (upd HA4 q5 (.lst [.ref q4])) := same_new hq5
        have lA5 : (upd HA4 q5 (.lst [.ref q4])) q5 = some (.lst [.ref q4]) := upd_same
        generalize upd HA4 q5 (.lst [.ref q4]) = HA5 at sA5 lA5
        have sB35 := smT sA4 sA5
        refine ⟨_, sB35 _ _ lA3, _, lA5, by rw [List.length_take, List.length_singleton]; omega, fun q6 hq6 => ?_⟩
        have sA6 : Same HA5 (upd HA5 q6 (.lst (us.take j ++ [.ref q4]))) := same_new hq6
        have lA6 : (upd HA5 q6 (.lst (us.take j ++ [.ref q4]))) q6 = some (.lst (us.take j ++ [.ref q4])) := upd_same
        generalize upd HA5 q6 (.lst (us.take j ++ [.ref q4])) = HA6 at sA6 lA6
        have sB6 := smT (smT sB2 sA3) (smT sB35 sA6)
        refine ⟨us, SqL.of (sB6 _ _ hl3), fun q7 hq7 => ?_⟩
        rw [show (j : Int) + ((1 : Nat) : Int) = ((j + 1 : Nat) : Int) by omega, cut_drop]
        have sA7 : Same HA6 (upd HA6 q7 (.lst (us.drop (j + 1)))) := same_new hq7
        have lA7 : (upd HA6 q7 (.lst (us.drop (j + 1)))) q7 = some (.lst (us.drop (j + 1))) := upd_same
        generalize upd HA6 q7 (.lst (us.drop (j + 1))) = HA7 at sA7 lA7
        refine ⟨_, sA7 _ _ lA6, _, lA7, by rw [List.length_append, List.length_take, List.length_singleton, List.length_drop]; omega, fun q8 hq8 => ?_⟩
        have sA8 : Same HA7 (upd HA7 q8 (.lst (us.take j ++ [.ref q4] ++ us.drop (j + 1)))) := same_new hq8
        have lA8 : (upd HA7 q8 (.lst (us.take j ++ [.ref q4] ++ us.drop (j + 1)))) q8 = some (.lst (us.take j ++ [.ref q4] ++ us.drop (j + 1))) := upd_same
        generalize upd HA7 q8 (.lst (us.take j ++ [.ref q4] ++ us.drop (j + 1))) = HA8 at sA8 lA8
        refine ⟨by decide, fun q9 hq9 => ?_⟩
        have sA9 : Same HA8 (upd HA8 q9 (.tup [.str z, .int 0])) := same_new hq9
        have lA9 : (upd HA8 q9 (.tup [.str z, .int 0])) q9 = some (.tup [.str z, .int 0]) := upd_same
        generalize upd HA8 q9 (.tup [.str z, .int 0]) = HA9 at sA9 lA9
        refine ⟨by decide, fun q10 hq10 => ?_⟩
        have sA10 : Same HA9 (upd HA9 q10 (.lst [.ref q9])) := same_new hq10
        have lA10 : (upd HA9 q10 (.lst [.ref q9])) q10 = some (.lst [.ref q9]) := upd_same
        generalize upd HA9 q10 (.lst [.ref q9]) = HA10 at sA10 lA10
        have sB610 := smT sA7 (smT sA8 (smT sA9 sA10))
        refine ⟨_, sB610 _ _ (sB6 _ _ hl3), _, lA10, by rw [List.length_singleton]; omega, fun q11 hq11 => ?_⟩
        have sA11 : Same HA10 (upd HA10 q11 (.lst (us ++ [.ref q9]))) := same_new hq11
        have lA11 : (upd HA10 q11 (.lst (us ++ [.ref q9]))) q11 = some (.lst (us ++ [.ref q9])) := upd_same
        generalize upd HA10 q11 (.lst (us ++ [.ref q9])) = HA11 at sA11 lA11
        refine ⟨by decide, fun q12 hq12 => ?_⟩
        have sA12 : Same HA11 (upd HA11 q12 (.lst [.ref q2, .ref q8, .ref q11])) := same_new hq12
        have lA12 : (upd HA11 q12 (.lst [.ref q2, .ref q8, .ref q11])) q12 = some (.lst [.ref q2, .ref q8, .ref q11]) := upd_same
        generalize upd HA11 q12 (.lst [.ref q2, .ref q8, .ref q11]) = HA12 at sA12 lA12
        have fr : ∀ {q}, HA1 q = none → H3 q = none := smFr (smT sA0 sA1)
        have sB6' := smT sB6 (smT sA7 sA8)
        have sB11 := smT sB6 (smT sB610 sA11)
        have sB12 := smT sB11 sA12
        have al12 := smDps sB12 (flat_lays inks) al3
        have s2e := smT (smT sA3 (smT sB35 sA6)) (smT sB610 (smT sA11 sA12))
        have s4e := smT sB35 (smT sA6 (smT sB610 (smT sA11 sA12)))
        refine ⟨sB12, smFr sB11 hq12, q2, q8, q11, lA12, smFr (smT sA0 sA1) hq2, smFr (smT sB6 sA7) hq8, smFr (smT sB6 sB610) hq11, ⟨_, s2e _ _ lA2, ?_⟩, ⟨_, smT sA9 (smT sA10 (smT sA11 sA12)) _ _ lA8, ?_⟩, ⟨_, sA12 _ _ lA11, ?_⟩⟩
        · rw [List.map_append, List.map_drop, List.map_take]
          exact Fd.DpAll.app (dps_dropI 1 al12) (dps_takeI 1 al12)
        · rw [List.map_append, List.map_append, List.map_drop, List.map_take]
          exact Fd.DpAll.app (Fd.DpAll.app (dps_takeI j al12) (.cons (.tup (SqT.of (smT sA5 (smT sA6 (smT sB610 (smT sA11 sA12))) _ _ lA4)) (.cons (.str _) (.cons (.int _) .nil))) .nil)) (dps_dropI (j + 1) al12)
        · rw [List.map_append]
          exact Fd.DpAll.app al12 (.cons (.tup (SqT.of (smT sA10 (smT sA11 sA12) _ _ lA9)) (.cons (.str _) (.cons (.int _) .nil))) .nil)
      · rintro σ' H4 ⟨sm, a1, a2, a3, rfl, s4, nsm, hsm, n1, n2, n3, i1, i2, i3⟩
        refine ⟨fun σ' H' => ∃ (fd : Addr) (inks2 : List Lay), σ' = [some (V.ref pt), some (V.ref li), some (V.int j), some (V.str z), none, none, some (V.str lay.1), some (V.int lay.2), some (.ref sm), some (.ref fd)] ∧ Fd.St (some pt) H3 H' ∧ fd ≠ pt ∧ InksL K H' fd inks2 ∧ InksOk inks2, ?_, ?_⟩
        · simp only [tSeq, tIfS, tTest, tOp, tUn, tVar, tC, rI, rI0, rU, rEq, rNe, rIxL, rIxT, rIxS, tCB, tCons, tNil, tRet, tRetN, tAsg, gTup, gCons, gNil, gName, gSub, rSetL, tNext, tDrop, tLst, tTup, tCall, tIf, tB, tAnd, tOr, tNot, tSl, tPart, tNoPart, tM1, tM0, tBM, tBM0, tLcE, tForE, iRng1, iRng2, iTup, iList, iStr, tYes, wipe, startDef, cxK, noxK, exists_and_left, exists_eq_left', exists_eq_left, exists_eq_right, Option.some.injEq, V.int.injEq, V.ref.injEq, V.str.injEq, V.bl.injEq, List.cons.injEq, and_true, true_and, List.append_nil, List.map_cons, List.map_nil, List.length_cons, List.length_nil, List.replicate, List.nil_append, List.cons_append, List.set_cons_zero, List.set_cons_succ, List.getElem?_cons_zero, List.getElem?_cons_succ, decide_eq_true_eq, exists_const, Nat.reduceAdd, Nat.reduceSub, List.replicate_succ, List.replicate_zero, exists_prop, and_assoc, List.set_nil, rLenK, rTupK, rLstK, rReprK, rEqD, rNeD, rIn, rAll, rAppend, rCat, ↓reduceIte, Bool.false_eq_true, iEnumT, rSortedPO, rIsi, rRep, rReverse, tLstRg, tTupRg, tRg1, tRg2, rSlL, rSlT, rSortedI, rSlF, rCatF, rMax, tLc2E, rSortedL, rSortedT, gUnl, tPar, rReprX, tChain, tDNewK, tDisp, tPairs, tAndV, tNotV, tFd, sFd, tMeth, tMake, tMakeK, gStar, iZipM, iItems, tLock, tSpread, tDcE, tDGet, sDPut, tPar3, tNever, rIxD, tChain, iEnum, tDIn, tDNotIn, gHd, spTake]
          have hl4 := s4 _ _ hl3
          refine ⟨us, SqL.of hl4, fun q3 hq3 => ?_⟩
          rw [cut_take]
          have sA3 : Same H4 (upd H4 q3 (.lst (us.take j))) := same_new hq3
          have lA3 : (upd H4 q3 (.lst (us.take j))) q3 = some (.lst (us.take j)) := upd_same
          generalize upd H4 q3 (.lst (us.take j)) = HA3 at sA3 lA3
          refine ⟨by decide, fun q4 hq4 => ?_⟩
          have sA4 : Same HA3 (upd HA3 q4 (.tup [.str z, .int lay.2])) := same_new hq4
          have lA4 : (upd HA3 q4 (.tup [.str z, .int lay.2])) q4 = some (.tup [.str z, .int lay.2]) := upd_same
          generalize upd HA3 q4 (.tup [.str z, .int lay.2]) = HA4 at sA4 lA4
          refine ⟨by decide, fun q5 hq5 => ?_⟩
          have sA5 : Same HA4 (upd HA4 q5 (.lst [.ref q4])) := same_new hq5
          have lA5 : (upd HA4 q5 (.lst [.ref q4])) q5 = some (.lst [.ref q4]) := upd_same
          generalize upd HA4 q5 (.lst [.ref q4]) = HA5 at sA5 lA5
          have sB35 := smT sA4 sA5
          refine ⟨_, sB35 _ _ lA3, _, lA5, by rw [List.length_take, List.length_singleton]; omega, fun q6 hq6 => ?_⟩
          have sA6 : Same HA5 (upd HA5 q6 (.lst (us.take j ++ [.ref q4]))) := same_new hq6
          have lA6 : (upd HA5 q6 (.lst (us.take j ++ [.ref q4]))) q6 = some (.lst (us.take j ++ [.ref q4])) := upd_same
          generalize upd HA5 q6 (.lst (us.take j ++ [.ref q4])) = HA6 at sA6 lA6
          have sB6 := smT sA3 (smT sB35 sA6)
          refine ⟨us, SqL.of (sB6 _ _ hl4), fun q7 hq7 => ?_⟩
          rw [show (j : Int) + 1 = ((j + 1 : Nat) : Int) by omega, cut_drop]
          have sA7 : Same HA6 (upd HA6 q7 (.lst (us.drop (j + 1)))) := same_new hq7
          have lA7 : (upd HA6 q7 (.lst (us.drop (j + 1)))) q7 = some (.lst (us.drop (j + 1))) := upd_same
          generalize upd HA6 q7 (.lst (us.drop (j + 1))) = HA7 at sA7 lA7
          refine ⟨_, sA7 _ _ lA6, _, lA7, by rw [List.length_append, List.length_take, List.length_singleton, List.length_drop]; omega, fun q8 hq8 => ?_⟩
          have sA8 : Same HA7 (upd HA7 q8 (.lst (us.take j ++ [.ref q4] ++ us.drop (j + 1)))) := same_new hq8
          have lA8 : (upd HA7 q8 (.lst (us.take j ++ [.ref q4] ++ us.drop (j + 1)))) q8 = some (.lst (us.take j ++ [.ref q4] ++ us.drop (j + 1))) := upd_same
          generalize upd HA7 q8 (.lst (us.take j ++ [.ref q4] ++ us.drop (j + 1))) = HA8 at sA8 lA8
          refine ⟨by decide, fun q9 hq9 => ?_⟩
          have sA9 : Same HA8 (upd HA8 q9 (.lst [.ref q8])) := same_new hq9
          have lA9 : (upd HA8 q9 (.lst [.ref q8])) q9 = some (.lst [.ref q8]) := upd_same
          generalize upd HA8 q9 (.lst [.ref q8]) = HA9 at sA9 lA9
          have sB9 := smT sB6 (smT sA7 (smT sA8 sA9))
          refine ⟨_, sB9 _ _ hsm, _, lA9, by show 4 ≤ sizeLine; omega, fun q10 hq10 => ?_⟩
          have sA10 : Same HA9 (upd HA9 q10 (.lst ([.ref a1, .ref a2, .ref a3] ++ [.ref q8]))) := same_new hq10
          have lA10 : (upd HA9 q10 (.lst ([.ref a1, .ref a2, .ref a3] ++ [.ref q8]))) q10 = some (.lst ([.ref a1, .ref a2, .ref a3] ++ [.ref q8])) := upd_same
          generalize upd HA9 q10 (.lst ([.ref a1, .ref a2, .ref a3] ++ [.ref q8])) = HA10 at sA10 lA10
          have sB10 := smT sB9 sA10
          have pp10 : Pot HA10 pt := by
            obtain ⟨u, v, q⟩ := pp3
            exact ⟨u, v, sB10 _ _ (s4 _ _ q)⟩
          refine ⟨pp10, by decide, by decide, fun d H5 d0 d1 s5 => ⟨_, SqL.of (s5.same _ _ (fun z => (pp3.ne (smFr (smT s4 sB9) hq10)) (Option.some.inj z)) lA10), ?_⟩⟩
          have t35 : Fd.St (some pt) H3 H5 := (St.ofSame pp3.potO (smT s4 sB10)).trans s5
          have mvI : ∀ {b : Addr} {is : List Lay}, b ≠ pt → InksL K HA10 b is → InksL K H5 b is := fun nb ⟨vs, e1, e2⟩ => ⟨vs, s5.same _ _ (fun z => nb (Option.some.inj z)) e1, dpsSt pp10.potO s5 (flat_lays _) e2⟩
          have al10 := smDps (smT s4 sB10) (flat_lays inks) al3
          have n8 : q8 ≠ pt := pp3.ne (smFr (smT s4 (smT sB6 sA7)) hq8)
          have i8 : InksL K HA10 q8 (inks.take j ++ [(z, lay.2)] ++ inks.drop (j + 1)) := by
            refine ⟨_, smT sA9 sA10 _ _ lA8, ?_⟩
            rw [List.map_append, List.map_append, List.map_drop, List.map_take]
            exact Fd.DpAll.app (Fd.DpAll.app (dps_takeI j al10) (.cons (.tup (SqT.of (smT sA5 (smT sA6 (smT sA7 (smT sA8 (smT sA9 sA10)))) _ _ lA4)) (.cons (.str _) (.cons (.int _) .nil))) .nil)) (dps_dropI (j + 1) al10)
          have dd : d = 0 ∨ d = 1 ∨ d = 2 ∨ d = 3 := by omega
          rcases dd with rfl | rfl | rfl | rfl
          · exact ⟨_, rfl, a1, rfl, t35, pp3.ne n1, _, mvI (pp3.ne n1) (i1.same sB10), iok.rot⟩
          · exact ⟨_, rfl, a2, rfl, t35, pp3.ne n2, _, mvI (pp3.ne n2) (i2.same sB10), iok.put e3 rfl (by have := (iok.ok lay (List.mem_of_getElem? e3)).2.1; show 0 ≤ lay.2 + 1; omega) (by have := (iok.ok lay (List.mem_of_getElem? e3)).2.1; have := hb lay (List.mem_of_getElem? e3); show (lay.2 + 1).natAbs < 2 ^ 250; omega)⟩
          · exact ⟨_, rfl, a3, rfl, t35, pp3.ne n3, _, mvI (pp3.ne n3) (i3.same sB10), iok.app (by omega) nm nin⟩
          · exact ⟨_, rfl, q8, rfl, t35, n8, _, mvI n8 i8, iok.ren e3 nm nin⟩
        · rintro σ' H5 ⟨fd, inks2, rfl, s5, nf, il, ok2⟩
          simp only [tSeq, tIfS, tTest, tOp, tUn, tVar, tC, rI, rI0, rU, rEq, rNe, rIxL, rIxT, rIxS, tCB, tCons, tNil, tRet, tRetN, tAsg, gTup, gCons, gNil, gName, gSub, rSetL, tNext, tDrop, tLst, tTup, tCall, tIf, tB, tAnd, tOr, tNot, tSl, tPart, tNoPart, tM1, tM0, tBM, tBM0, tLcE, tForE, iRng1, iRng2, iTup, iList, iStr, tYes, wipe, startDef, cxK, noxK, exists_and_left, exists_eq_left', exists_eq_left, exists_eq_right, Option.some.injEq, V.int.injEq, V.ref.injEq, V.str.injEq, V.bl.injEq, List.cons.injEq, and_true, true_and, List.append_nil, List.map_cons, List.map_nil, List.length_cons, List.length_nil, List.replicate, List.nil_append, List.cons_append, List.set_cons_zero, List.set_cons_succ, List.getElem?_cons_zero, List.getElem?_cons_succ, decide_eq_true_eq, exists_const, Nat.reduceAdd, Nat.reduceSub, List.replicate_succ, List.replicate_zero, exists_prop, and_assoc, List.set_nil, rLenK, rTupK, rLstK, rReprK, rEqD, rNeD, rIn, rAll, rAppend, rCat, ↓reduceIte, Bool.false_eq_true, iEnumT, rSortedPO, rIsi, rRep, rReverse, tLstRg, tTupRg, tRg1, tRg2, rSlL, rSlT, rSortedI, rSlF, rCatF, rMax, tLc2E, rSortedL, rSortedT, gUnl, tPar, rReprX, tChain, tDNewK, tDisp, tPairs, tAndV, tNotV, tFd, sFd, tMeth, tMake, tMakeK, gStar, iZipM, iItems, tLock, tSpread, tDcE, tDGet, sDPut, tPar3, tNever, rIxD, tChain, iEnum, tDIn, tDNotIn, gHd]
          have hl5 := s5.same li _ (fun z => nl (Option.some.inj z)) hl3
          have al5 := dpsSt pp3.potO s5 (flat_lays inks) al3
          obtain ⟨vs, il1, il2⟩ := il
          have t05 := t03.trans s5
          refine ⟨.list (inks2.map layD), .lst (SqL.of il1) il2, .list (inks.map layD), .lst (SqL.of hl5) al5, (nice_inks ok2).shaped, (nice_inks iok).shaped, ?_⟩
          by_cases c : PyData.eqv (.list (inks2.map layD)) (.list (inks.map layD)) = true
          · rw [if_pos c]
            refine ⟨by decide, fun r1 hr1 => ?_⟩
            have sA1 : Same H5 (upd H5 r1 (.tup [.str z, .int 0])) := same_new hr1
            have lA1 : (upd H5 r1 (.tup [.str z, .int 0])) r1 = some (.tup [.str z, .int 0]) := upd_same
            generalize upd H5 r1 (.tup [.str z, .int 0]) = HA1 at sA1 lA1
            refine ⟨by decide, fun r2 hr2 => ?_⟩
            have sA2 : Same HA1 (upd HA1 r2 (.lst [.ref r1])) := same_new hr2
            have lA2 : (upd HA1 r2 (.lst [.ref r1])) r2 = some (.lst [.ref r1]) := upd_same
            generalize upd HA1 r2 (.lst [.ref r1]) = HA2 at sA2 lA2
            refine ⟨_, sA2 _ _ (sA1 _ _ hl5), _, lA2, by rw [List.length_singleton]; omega, fun r3 hr3 => ?_⟩
            have sA3 : Same HA2 (upd HA2 r3 (.lst (us ++ [.ref r1]))) := same_new hr3
            have lA3 : (upd HA2 r3 (.lst (us ++ [.ref r1]))) r3 = some (.lst (us ++ [.ref r1])) := upd_same
            generalize upd HA2 r3 (.lst (us ++ [.ref r1])) = HA3 at sA3 lA3
            have s53 := smT sA1 (smT sA2 sA3)
            have nr3 : r3 ≠ pt := s5.pt.ne (smFr (smT sA1 sA2) hr3)
            have ne1 : (inks ++ [(z, 0)]).length ≠ inks.length := by rw [List.length_append, List.length_singleton]; omega
            refine k r3 (inks ++ [(z, 0)]) HA3 ⟨_, lA3, ?_⟩ nr3 (iok.app (by omega) nm nin) (palE_len ne1) (palE_len (Ne.symm ne1)) (t05.trans (St.ofSame s5.pt.potO s53))
            rw [List.map_append]
            exact Fd.DpAll.app (smDps s53 (flat_lays inks) al5) (.cons (.tup (SqT.of (smT sA2 sA3 _ _ lA1)) (.cons (.str _) (.cons (.int _) .nil))) .nil)
          · rw [if_neg c]
            have c' := Bool.eq_false_iff.mpr c
            exact k fd inks2 H5 ⟨vs, il1, il2⟩ nf ok2 c' ((palE_comm _ _).trans c') t05
end

/-! ### the models made one after another; places in a list -/
open Classical in
/-- what is new -/
noncomputable def newOf (H H' : Hp) : Hp := fun a => if H a = none then H' a else none
section
variable {P : Program} {w : World} {K : PySem.W.Frag} {mg : Str → Option Value} {base : Heap} {cP cQ : Addr}
def spModel2 (K : PySem.W.Frag) : Sp := fun vs H Q _ => ∃ (li : Addr) (inks : List Lay) (wr : Int), vs = [.ref li, .int wr] ∧ InksL K H li inks ∧ InksOk inks ∧
  ∀ mo rw H', H mo = none → H rw = none → mo ≠ rw → Same H H' → (∀ H2, (∀ a o, H a = none → H' a = some o → H2 a = some o) → InksL K H2 li inks → ModAt K H2 mo rw li inks wr (inks.map fun i => (i.1, [])) 0) → Q (.ref mo) H'
theorem ok_model2 {f : Addr} {fd : FuncData} (F : Fun K "_law_model" "_law_model" s_model f fd) (M : Blt mg) : FnOk P w K mg base CX0 1 f fd ["_law_inks_here", "_law_lives"] (spModel2 K) := by
  refine F.ok sc_model (fun vs H Q E h => ?_) (fun cdv A outer s H vs Q E hr h => ?_)
  · obtain ⟨li, inks, wr, rfl, _⟩ := h
    rfl
  · obtain ⟨li, inks, wr, rfl, ⟨us, hl, al⟩, ok, k⟩ := h
    refine ⟨_, (pss_one (ps_ret (pe_disp (pps_cons pe_str (pv 0) (pps_cons pe_str (pv 1) (pps_cons pe_str pe_int (pps_cons pe_str (pe_callTy (call_dictP rfl) (by rfl) M.dict (by decide +kernel) (pa_cons (pe_lc (own := [("_law_ink", 2), ("_law_fade", 3)]) (g := gTup K 2 (gCons (gName 2) (gCons (gName 3) gNil))) (tt := tYes) rfl sc_model.nd (pi_list (pv 0)) (blkOk_by (own := [("_law_ink", 2), ("_law_fade", 3)]) (N := ["_law_inks_here", "_law_lives", "_law_ink", "_law_fade"]) (sc := defScope s_model) (by decide +kernel)) (fun _ _ _ _ _ => (pg_tup (n := 2) (by rfl) (pgs_cons (pg_name (i := 2) sc_model.nd rfl (by first | exact Or.inl rfl | exact Or.inr rfl)) (pgs_cons (pg_name (i := 3) sc_model.nd rfl (by first | exact Or.inl rfl | exact Or.inr rfl)) pgs_nil)))) (fun _ _ _ _ _ => pts_nil) (fun _ _ _ _ _ => (pe_tup (pa_cons (pv 2) (pa_cons (pe_lst pa_nil) pa_nil))))) pa_nil)) pps_nil)))) rfl rfl (by decide) (by decide)))), ?_⟩
    simp only [tSeq, tIfS, tTest, tOp, tUn, tVar, tC, rI, rI0, rU, rEq, rNe, rIxL, rIxT, rIxS, tCB, tCons, tNil, tRet, tRetN, tAsg, gTup, gCons, gNil, gName, gSub, rSetL, tNext, tDrop, tLst, tTup, tCall, tIf, tB, tAnd, tOr, tNot, tSl, tPart, tNoPart, tM1, tM0, tBM, tBM0, tLcE, tForE, iRng1, iRng2, iTup, iList, iStr, tYes, wipe, startDef, cxK, noxK, exists_and_left, exists_eq_left', exists_eq_left, exists_eq_right, Option.some.injEq, V.int.injEq, V.ref.injEq, V.str.injEq, V.bl.injEq, List.cons.injEq, and_true, true_and, List.append_nil, List.map_cons, List.map_nil, List.length_cons, List.length_nil, List.replicate, List.nil_append, List.cons_append, List.set_cons_zero, List.set_cons_succ, List.getElem?_cons_zero, List.getElem?_cons_succ, decide_eq_true_eq, exists_const, Nat.reduceAdd, Nat.reduceSub, List.replicate_succ, List.replicate_zero, exists_prop, and_assoc, List.set_nil, rLenK, rTupK, rLstK, rReprK, rEqD, rNeD, rIn, rAll, rAppend, rCat, ↓reduceIte, Bool.false_eq_true, iEnumT, rSortedPO, rIsi, rRep, rReverse, tLstRg, tTupRg, tRg1, tRg2, rSlL, rSlT, rSortedI, rSlF, rCatF, rMax, tLc2E, rSortedL, rSortedT, gUnl, tPar, rReprX, tChain, tDNewK, tDisp, tPairs, tAndV, tNotV, tFd, sFd, tMeth, tMake, tMakeK, gStar, iZipM, iItems, tLock, tSpread, tDcE, tDGet, sDPut, tPar3, tNever, rIxD, tChain, iEnum, tDIn, tDNotIn, gHd]
    have len := lays_len al
    have i8 := ok.most
    have line : (1000 : Nat) < sizeLine := by decide
    refine fun p hp => ⟨⟨us, SqL.of (by rw [upd_ne (ne_of_none hl hp)]; exact hl)⟩, ?_⟩
    have s0 : Same H (upd H p (.dK [])) := same_new hp
    have p0 : (upd H p (.dK [])) p = some (.dK []) := upd_same
    generalize upd H p (.dK []) = H0 at s0 p0
    intro D hD
    have hl0 := s0 _ _ hl
    have lD' : li ≠ D := ne_of_none hl0 hD
    refine lc_it (walk_list (xs := us)) (fun i H' => ∃ ps : List (Addr × Addr), H' D = some (.lst (ps.map fun q => V.ref q.1)) ∧ (∀ a o, a ≠ D → H0 a = some o → H' a = some o) ∧ H' p = some (.dK []) ∧
      Paired (fun (q : Addr × Addr) (r : Lay) => H' q.1 = some (.tup [.str r.1, .ref q.2]) ∧ H' q.2 = some (.lst []) ∧ q.2 ≠ D ∧ H q.1 = none ∧ H q.2 = none) ps (inks.take i)) ?_ ?_ ?_ ?_
    · exact ⟨[], upd_same, fun a o n e => by rw [upd_ne n]; exact e, by rw [upd_ne (ne_of_none p0 hD)]; exact p0, .nil⟩
    · rintro i H' _ ⟨ps, _, fr, _⟩
      exact SqL.of (fr _ _ lD' hl0)
    · rintro i x Ha H' hi ⟨ps, hd, fr, hpp, pr⟩ ⟨rfl, e⟩
      obtain ⟨lay, b, e3, rfl, sq, _⟩ := lays_get al e
      have sqa : SqT K H' b [.str lay.1, .int lay.2] := by
        have q := St.tup potN (St.ofSame potN s0) sq
        rcases q with (h | ⟨ob, h⟩) | h
        · exact Or.inl (Or.inl (fr _ _ (ne_of_none h hD) h))
        · exact Or.inl (Or.inr ⟨ob, fr _ _ (ne_of_none h hD) h⟩)
        · exact Or.inr h
      simp only [tSeq, tIfS, tTest, tOp, tUn, tVar, tC, rI, rI0, rU, rEq, rNe, rIxL, rIxT, rIxS, tCB, tCons, tNil, tRet, tRetN, tAsg, gTup, gCons, gNil, gName, gSub, rSetL, tNext, tDrop, tLst, tTup, tCall, tIf, tB, tAnd, tOr, tNot, tSl, tPart, tNoPart, tM1, tM0, tBM, tBM0, tLcE, tForE, iRng1, iRng2, iTup, iList, iStr, tYes, wipe, startDef, cxK, noxK, exists_and_left, exists_eq_left', exists_eq_left, exists_eq_right, Option.some.injEq, V.int.injEq, V.ref.injEq, V.str.injEq, V.bl.injEq, List.cons.injEq, and_true, true_and, List.append_nil, List.map_cons, List.map_nil, List.length_cons, List.length_nil, List.replicate, List.nil_append, List.cons_append, List.set_cons_zero, List.set_cons_succ, List.getElem?_cons_zero, List.getElem?_cons_succ, decide_eq_true_eq, exists_const, Nat.reduceAdd, Nat.reduceSub, List.replicate_succ, List.replicate_zero, exists_prop, and_assoc, List.set_nil, rLenK, rTupK, rLstK, rReprK, rEqD, rNeD, rIn, rAll, rAppend, rCat, ↓reduceIte, Bool.false_eq_true, iEnumT, rSortedPO, rIsi, rRep, rReverse, tLstRg, tTupRg, tRg1, tRg2, rSlL, rSlT, rSortedI, rSlF, rCatF, rMax, tLc2E, rSortedL, rSortedT, gUnl, tPar, rReprX, tChain, tDNewK, tDisp, tPairs, tAndV, tNotV, tFd, sFd, tMeth, tMake, tMakeK, gStar, iZipM, iItems, tLock, tSpread, tDcE, tDGet, sDPut, tPar3, tNever, rIxD, tChain, iEnum, tDIn, tDNotIn, gHd]
      refine ⟨_, sqa, rfl, _, _, rfl, _, _, rfl, rfl, by decide, fun l hl' => ⟨by decide, fun t ht => ?_⟩⟩
      have s1 : Same H' (upd H' l (.lst [])) := same_new hl'
      have l1 : (upd H' l (.lst [])) l = some (.lst []) := upd_same
      have nlD : l ≠ D := by
        rintro rfl
        rw [hd] at hl'
        cases hl'
      generalize upd H' l (.lst []) = H1 at s1 l1 ht
      have s2 : Same H1 (upd H1 t (.tup [.str lay.1, .ref l])) := same_new ht
      have t2 : (upd H1 t (.tup [.str lay.1, .ref l])) t = some (.tup [.str lay.1, .ref l]) := upd_same
      generalize upd H1 t (.tup [.str lay.1, .ref l]) = H2 at s2 t2
      have s12 := smT s1 s2
      have hd2 := s12 _ _ hd
      have ntD : t ≠ D := ne_of t2 hd2 (by intro z; cases z)
      have hD0 : H D = none := smFr s0 hD
      have fl : ∀ {b}, H' b = none → H b = none := fun {b} hb => by
        cases e : H b with
        | none => rfl
        | some o =>
          have q := fr _ _ (ne_of_none e hD0) (s0 _ _ e)
          rw [hb] at q
          cases q
      have pl : ps.length = i := by
        have := paired_len pr
        rw [List.length_take] at this
        omega
      refine ⟨_, hd2, by rw [List.length_map]; omega, ps ++ [(t, l)], by rw [upd_same, List.map_append]; rfl, fun a o n e => by rw [upd_ne n]; exact s12 _ _ (fr a o n e), by rw [upd_ne (ne_of hpp hd (by intro z; cases z))]; exact s12 _ _ hpp, ?_⟩
      rw [List.take_add_one, e3]
      refine paired_snoc ⟨by rw [upd_ne ntD]; exact t2, by rw [upd_ne nlD]; exact s2 _ _ l1, nlD, fl (smFr s1 ht), fl hl'⟩ (pairedMem pr fun q r m h => ⟨?_, ?_, h.2.2⟩)
      · rw [upd_ne (ne_of h.1 hd (by intro z; cases z))]
        exact s12 _ _ h.1
      · rw [upd_ne h.2.2.1]
        exact s12 _ _ h.2.1
    · rintro H' ⟨ps, hd, fr, hpp, pr⟩
      have e : inks.take us.length = inks := List.take_of_length_le (by omega)
      rw [e] at pr
      have sS : Same (newOf H H') H' := fun a o e => by
        unfold newOf at e
        split at e
        · exact e
        · cases e
      have nS : ∀ {a o}, H a = none → H' a = some o → newOf H H' a = some o := fun h e => by
        unfold newOf
        rw [if_pos h]
        exact e
      obtain ⟨kvs, m1, m20, m3⟩ := made_rows (K := K) (H := newOf H H') (pairedMem pr fun q r m h => ⟨nS h.2.2.2.1 h.1, nS h.2.2.2.2 h.2.1⟩)
      have m1 := pairedMem m1 fun _ _ _ q => sameT sS q
      have m2 := pairedMem m20 fun _ _ _ q => LRel.same sS q
      simp only [tSeq, tIfS, tTest, tOp, tUn, tVar, tC, rI, rI0, rU, rEq, rNe, rIxL, rIxT, rIxS, tCB, tCons, tNil, tRet, tRetN, tAsg, gTup, gCons, gNil, gName, gSub, rSetL, tNext, tDrop, tLst, tTup, tCall, tIf, tB, tAnd, tOr, tNot, tSl, tPart, tNoPart, tM1, tM0, tBM, tBM0, tLcE, tForE, iRng1, iRng2, iTup, iList, iStr, tYes, wipe, startDef, cxK, noxK, exists_and_left, exists_eq_left', exists_eq_left, exists_eq_right, Option.some.injEq, V.int.injEq, V.ref.injEq, V.str.injEq, V.bl.injEq, List.cons.injEq, and_true, true_and, List.append_nil, List.map_cons, List.map_nil, List.length_cons, List.length_nil, List.replicate, List.nil_append, List.cons_append, List.set_cons_zero, List.set_cons_succ, List.getElem?_cons_zero, List.getElem?_cons_succ, decide_eq_true_eq, exists_const, Nat.reduceAdd, Nat.reduceSub, List.replicate_succ, List.replicate_zero, exists_prop, and_assoc, List.set_nil, rLenK, rTupK, rLstK, rReprK, rEqD, rNeD, rIn, rAll, rAppend, rCat, ↓reduceIte, Bool.false_eq_true, iEnumT, rSortedPO, rIsi, rRep, rReverse, tLstRg, tTupRg, tRg1, tRg2, rSlL, rSlT, rSortedI, rSlF, rCatF, rMax, tLc2E, rSortedL, rSortedT, gUnl, tPar, rReprX, tChain, tDNewK, tDisp, tPairs, tAndV, tNotV, tFd, sFd, tMeth, tMake, tMakeK, gStar, iZipM, iItems, tLock, tSpread, tDcE, tDGet, sDPut, tPar3, tNever, rIxD, tChain, iEnum, tDIn, tDNotIn, gHd]
      refine ⟨ps.map (fun q => q.1), SqL.of (xs := (ps.map (fun q => q.1)).map V.ref) (by rw [List.map_map]; exact hd), kvs, m1, fun rw hrw => ?_⟩
      have ndk : (kvs.map (·.1)).Nodup := by
        rw [m3]
        have := ok.nd
        rw [List.Nodup, List.pairwise_map] at this ⊢
        exact this.imp fun n e => n (Sum.inr.inj e)
      rw [merge_nil ndk]
      have s1 : Same H' (upd H' rw (.dK kvs)) := same_new hrw
      have r1 : (upd H' rw (.dK kvs)) rw = some (.dK kvs) := upd_same
      generalize upd H' rw (.dK kvs) = H1 at s1 r1
      refine ⟨s1 _ _ hpp, modelK li wr 0 rw, rfl, by show 4 ≤ 15; decide, ?_⟩
      rw [mk_new]
      have nrp : rw ≠ p := by
        rintro rfl
        rw [hpp] at hrw
        cases hrw
      have hD0 : H D = none := smFr s0 hD
      have frA : ∀ a o, H a = some o → a ≠ p → (upd H1 p (.dK (modelK li wr 0 rw))) a = some o := fun a o e n => by
        rw [upd_ne n]
        exact s1 _ _ (fr _ _ (ne_of_none e hD0) (s0 _ _ e))
      have sF : Same H (upd H1 p (.dK (modelK li wr 0 rw))) := fun a o e => frA a o e (ne_of_none e hp)
      have hrw0 : H rw = none := by
        cases e : H rw with
        | none => rfl
        | some o =>
          have q := fr _ _ (ne_of_none e hD0) (s0 _ _ e)
          rw [hrw] at q
          cases q
      have c1 : Chg [p] H1 (upd H1 p (.dK (modelK li wr 0 rw))) := ⟨fun q m => by rw [List.mem_singleton.mp m]; exact ⟨_, s1 _ _ hpp, True.intro⟩, fun a o n e => by rw [upd_ne (fun z => n (by rw [z]; exact List.mem_singleton_self _))]; exact e⟩
      refine k p rw _ hp hrw0 (Ne.symm nrp) sF (fun H2 nw il => ?_)
      have nw' : ∀ a o, H a = none → H' a = some o → a ≠ p → H2 a = some o := fun a o h e n => nw a o h (by rw [upd_ne n]; exact s1 _ _ e)
      refine ⟨nw _ _ hp upd_same, il, kvs, nw _ _ hrw0 (by rw [upd_ne nrp]; exact r1), pairedMem m20 fun kv r mr q => ?_⟩
      obtain ⟨q1, l, us', q2, q3, q4⟩ := q
      unfold newOf at q3
      split at q3
      · rename_i hl0
        obtain ⟨i0, _, rfl⟩ := List.mem_map.mp mr
        cases q4
        exact ⟨q1, l, [], q2, nw' _ _ hl0 q3 (ne_of q3 hpp (by intro z; cases z)), .nil⟩
      · cases q3
end
section
variable {K : PySem.W.Frag} {cP cQ : Addr} {H H' : Hp} {p m f li a : Addr} {inks : List Lay} {ids : List Pid} {D : Nat → Dat} {us : List V}
/-- a list is changed -/
theorem tupL (hl : H a = some (.lst us)) (s : ∀ b o, b ≠ a → H b = some o → H' b = some o) : ∀ b xs, SqT K H b xs → SqT K H' b xs := fun b xs e => by
  rcases e with (e | ⟨ob, e⟩) | e
  · exact .inl (.inl (s _ _ (ne_of e hl (by intro z; cases z)) e))
  · exact .inl (.inr ⟨ob, s _ _ (ne_of e hl (by intro z; cases z)) e⟩)
  · exact .inr e
theorem _root_.Fd.PalAt.lst {C : Addr} (h : PalAt K C H p m f inks) (hl : H a = some (.lst us)) (am : a ≠ m) (s : ∀ b o, b ≠ a → H b = some o → H' b = some o) : PalAt K C H' p m f inks := by
  obtain ⟨⟨dx, b⟩, ⟨vs, c, d⟩, e⟩ := h
  exact ⟨⟨dx, s _ _ (ne_of b hl (by intro z; cases z)) b⟩, ⟨vs, s _ _ (Ne.symm am) c, DpAll.move (tupL hl s) (flat_lays _) d⟩, s _ _ (ne_of e hl (by intro z; cases z)) e⟩
theorem _root_.Fd.InksL.lst (h : InksL K H li inks) (hl : H a = some (.lst us)) (al : a ≠ li) (s : ∀ b o, b ≠ a → H b = some o → H' b = some o) : InksL K H' li inks := by
  obtain ⟨vs, c, d⟩ := h
  exact ⟨vs, s _ _ (Ne.symm al) c, DpAll.move (tupL hl s) (flat_lays _) d⟩
theorem _root_.Fd.PlaceAt.lst {x g : Addr} {wr : Int} {gr : Grd} {n : Nat} (h : PlaceAt K cP cQ H x p m f g inks wr gr n) (hl : H a = some (.lst us)) (am : a ≠ m) (s : ∀ b o, b ≠ a → H b = some o → H' b = some o) : PlaceAt K cP cQ H' x p m f g inks wr gr n := by
  obtain ⟨⟨dx, b⟩, c, ⟨kvs, d, e⟩, q⟩ := h
  exact ⟨⟨dx, s _ _ (ne_of b hl (by intro z; cases z)) b⟩, c.lst hl am s, ⟨kvs, s _ _ (ne_of d hl (by intro z; cases z)) d, grels (flat_gG _) (tupL hl s) e⟩, q⟩
theorem _root_.Fd.ModAt.lst {mo rw : Addr} {wr : Int} {gr : Grd} {n : Nat} (h : ModAt K H mo rw li inks wr gr n) (e0 : ∀ r ∈ gr, r.2 = []) (hl : H a = some (.lst us)) (hu : us ≠ []) (al : a ≠ li) (s : ∀ b o, b ≠ a → H b = some o → H' b = some o) : ModAt K H' mo rw li inks wr gr n := by
  obtain ⟨b, c, kvs, d, e⟩ := h
  refine ⟨s _ _ (ne_of b hl (by intro z; cases z)) b, Fd.InksL.lst c hl al s, kvs, s _ _ (ne_of d hl (by intro z; cases z)) d, pairedMem e fun kv r mr q => ?_⟩
  obtain ⟨q1, l, vs, q2, q3, q4⟩ := q
  have e1 := e0 r mr
  rw [e1] at q4
  cases q4
  refine ⟨q1, l, [], q2, s _ _ (fun z => ?_) q3, by rw [e1]; exact .nil⟩
  rw [z, hl] at q3
  exact hu (HO.lst.inj (Option.some.inj q3))
theorem Wd.lst (h : Wd K cP cQ H li inks ids D D) (e0 : ∀ (k : Nat) (q : Pid), ids[k]? = some q → ∀ r ∈ (D k).gr, r.2 = []) (hl : H a = some (.lst us)) (hu : ids ≠ [] → us ≠ []) (al : a ≠ li) (am : ∀ q ∈ ids, a ≠ q.m) (s : ∀ b o, b ≠ a → H b = some o → H' b = some o) : Wd K cP cQ H' li inks ids D D :=
  ⟨fun j q e => let ⟨g, x, y⟩ := h.pl j q e; ⟨g, x.lst hl (am q (List.mem_of_getElem? e)) s, y⟩, fun j q e => (h.md j q e).lst (e0 j q e) hl (hu (by rintro rfl; cases e)) al s, h.nx, h.nd, h.nf⟩
theorem Wd.nil (D : Nat → Dat) : Wd K cP cQ H li inks [] D D :=
  ⟨fun j q e => (nomatch e), fun j q e => (nomatch e), List.nodup_nil, List.nodup_nil, fun q m => (nomatch m)⟩
theorem getSnoc {α : Type} {l : List α} {b y : α} {j : Nat} (h : (l ++ [b])[j]? = some y) : (j < l.length ∧ l[j]? = some y) ∨ (j = l.length ∧ y = b) := by
  by_cases c : j < l.length
  · rw [List.getElem?_append_left c] at h
    exact .inl ⟨c, h⟩
  · rw [List.getElem?_append_right (by omega)] at h
    by_cases c2 : j - l.length = 0
    · rw [c2] at h
      exact .inr ⟨by omega, (Option.some.inj h).symm⟩
    · rw [List.getElem?_eq_none (by simp; omega)] at h
      cases h
/-- one more: a list that holds them is changed last -/
theorem Wd.snoc {H4 : Hp} {q : Pid} {d : Dat} {g : Addr} (h : Wd K cP cQ H li inks ids D D) (e0 : ∀ (k : Nat) (q : Pid), ids[k]? = some q → ∀ r ∈ (D k).gr, r.2 = []) (s34 : Same H H4) (hl : H a = some (.lst us)) (hu : ids ≠ [] → us ≠ []) (al : a ≠ li) (am : ∀ q ∈ ids, a ≠ q.m)
    (am2 : a ≠ q.m) (s : ∀ b o, b ≠ a → H4 b = some o → H' b = some o) (hmo : H q.mo = none) (hrw : H q.rw = none) (nmr : q.mo ≠ q.rw) (nx : q.x ∉ ids.map Pid.x) (nf : q.f ∉ dcs ids) (hQ : PlaceAt K cP cQ H q.x q.p q.m q.f g inks d.wr d.gr d.n) (ng : g ∉ dcs ids) (hM : ModAt K H' q.mo q.rw li inks d.wr d.gr d.n) :
    Wd K cP cQ H' li inks (ids ++ [q]) (setD D ids.length d) (setD D ids.length d) := by
  have hl4 := s34 _ _ hl
  have h4 := (h.same s34).lst e0 hl4 hu al am s
  have ex : ∀ b, b ∈ dcs ids → b ≠ q.mo ∧ b ≠ q.rw := fun b mb => by
    obtain ⟨ks, hb⟩ := h.dict mb
    exact ⟨ne_of_none hb hmo, ne_of_none hb hrw⟩
  have mem : ∀ b, b ∈ dcs (ids ++ [q]) → b ∈ dcs ids ∨ b = q.mo ∨ b = q.rw := fun b mb => by
    unfold dcs at mb ⊢
    simp only [List.map_append, List.map_cons, List.map_nil, List.mem_append, List.mem_singleton] at mb ⊢
    rcases mb with (h | h) | (h | h)
    · exact .inl (.inl h)
    · exact .inr (.inl h)
    · exact .inl (.inr h)
    · exact .inr (.inr h)
  have nin : ∀ {b ks}, H b = some (.dK ks) → b ∉ dcs ids → b ∉ dcs (ids ++ [q]) := fun hb n mb => by
    rcases mem _ mb with h | h | h
    · exact n h
    · exact ne_of_none hb hmo h
    · exact ne_of_none hb hrw h
  refine ⟨fun j r e => ?_, fun j r e => ?_, ?_, ?_, ?_⟩
  · rcases getSnoc e with ⟨c, e⟩ | ⟨rfl, rfl⟩
    · rw [setD_ne _ _ (by omega)]
      obtain ⟨g0, x, y⟩ := h.pl j r e
      obtain ⟨ks, hg, _⟩ := x.grd
      exact ⟨g0, ((x.same s34).lst hl4 (am r (List.mem_of_getElem? e)) s), nin hg y⟩
    · rw [setD_eq]
      obtain ⟨ks, hg, _⟩ := hQ.grd
      exact ⟨g, ((hQ.same s34).lst hl4 am2 s), nin hg ng⟩
  · rcases getSnoc e with ⟨c, e⟩ | ⟨rfl, rfl⟩
    · rw [setD_ne _ _ (by omega)]
      exact h4.md j r e
    · rw [setD_eq]
      exact hM
  · rw [List.map_append]
    refine List.nodup_append.mpr ⟨h.nx, by simp, fun b mb c mc => ?_⟩
    rw [List.map_cons, List.map_nil, List.mem_singleton] at mc
    rintro rfl
    exact nx (mc ▸ mb)
  · obtain ⟨a1, a2, a3⟩ := List.nodup_append.mp h.nd
    have m1 : ∀ b, b ∈ ids.map Pid.mo → b ≠ q.mo ∧ b ≠ q.rw := fun b mb => ex b (List.mem_append.mpr (.inl mb))
    have m2 : ∀ b, b ∈ ids.map Pid.rw → b ≠ q.mo ∧ b ≠ q.rw := fun b mb => ex b (List.mem_append.mpr (.inr mb))
    unfold dcs
    rw [List.map_append, List.map_append]
    refine List.nodup_append.mpr ⟨List.nodup_append.mpr ⟨a1, by simp, fun b mb c mc => ?_⟩, List.nodup_append.mpr ⟨a2, by simp, fun b mb c mc => ?_⟩, fun b mb c mc => ?_⟩
    · rw [List.map_cons, List.map_nil, List.mem_singleton] at mc
      rw [mc]
      exact (m1 b mb).1
    · rw [List.map_cons, List.map_nil, List.mem_singleton] at mc
      rw [mc]
      exact (m2 b mb).2
    · rcases List.mem_append.mp mb with mb | mb <;> rcases List.mem_append.mp mc with mc | mc
      · exact a3 b mb c mc
      · rw [List.map_cons, List.map_nil, List.mem_singleton] at mc
        rw [mc]
        exact (m1 b mb).2
      · rw [List.map_cons, List.map_nil, List.mem_singleton] at mb
        rw [mb]
        exact Ne.symm (m2 c mc).1
      · rw [List.map_cons, List.map_nil, List.mem_singleton] at mb mc
        rw [mb, mc]
        exact nmr
  · intro r mr mf
    rcases List.mem_append.mp mr with mr | mr
    · obtain ⟨jr, er⟩ := List.mem_iff_getElem?.mp mr
      obtain ⟨g0, x, _⟩ := h.pl jr r er
      exact nin x.pal.fades (h.nf r mr) mf
    · rw [List.mem_singleton.mp mr] at mf
      exact nin hQ.pal.fades nf mf
end

/-! ### bounds of the rows -/
structure Bd (gr : Grd) (i n : Nat) : Prop where
  len : ∀ r ∈ gr, r.2.length ≤ n
  lay : ∀ r ∈ gr, ∀ l ∈ r.2, l.1 < n ∧ NmOk l.2.1 ∧ 1 ≤ l.2.2 ∧ l.2.2 ≤ (i : Int) * 10 ^ 59
theorem mem_mapP {gr : Grd} {z : Str} {f : List Lyr → List Lyr} {r : Str × List Lyr} (m : r ∈ mapP gr z f) : ∃ s ∈ gr, r = s ∨ r = (s.1, f s.2) := by
  obtain ⟨s, ms, e⟩ := List.mem_map.mp m
  refine ⟨s, ms, ?_⟩
  by_cases c : s.1 = z
  · rw [if_pos c] at e
    exact .inr e.symm
  · rw [if_neg c] at e
    exact .inl e.symm
theorem weakY_mem {ls : List Lyr} {k : Int} {l : Lyr} (m : l ∈ weakY ls k) : ∃ l' ∈ ls, l.1 = l'.1 ∧ l.2.1 = l'.2.1 ∧ l.2.2 = l'.2.2 - k ∧ 1 ≤ l.2.2 := by
  obtain ⟨m1, m2⟩ := List.mem_filter.mp m
  obtain ⟨l', m', rfl⟩ := List.mem_map.mp m1
  have := of_decide_eq_true m2
  exact ⟨l', m', rfl, rfl, by show l'.2.2 + -k = _; omega, by show 1 ≤ l'.2.2 + -k; exact this⟩
theorem weakY_len (ls : List Lyr) (k : Int) : (weakY ls k).length ≤ ls.length := by
  have := List.length_filter_le posY (addY ls (-k))
  unfold addY at this
  rw [List.length_map] at this
  exact this
section
variable {gr gr' : Grd} {i n : Nat}
theorem Bd.mono {j : Nat} (h : Bd gr i n) (ij : i ≤ j) : Bd gr j n := ⟨h.len, fun r m l ml => by
  obtain ⟨a, b, c, d⟩ := h.lay r m l ml
  exact ⟨a, b, c, by omega⟩⟩
/-- rows grown weaker -/
theorem Bd.weak (h : Bd gr i n) (w : ∀ r' ∈ gr', ∃ r ∈ gr, r'.2 = r.2 ∨ ∃ k : Int, 0 ≤ k ∧ r'.2 = weakY r.2 k) : Bd gr' i n := by
  refine ⟨fun r' m' => ?_, fun r' m' l ml => ?_⟩
  · obtain ⟨r, m, e | ⟨k, _, e⟩⟩ := w r' m'
    · rw [e]; exact h.len r m
    · rw [e]; exact Nat.le_trans (weakY_len ..) (h.len r m)
  · obtain ⟨r, m, e | ⟨k, k0, e⟩⟩ := w r' m'
    · rw [e] at ml; exact h.lay r m l ml
    · rw [e] at ml
      obtain ⟨l', m'', e1, e2, e3, e4⟩ := weakY_mem ml
      obtain ⟨a, b, c, d⟩ := h.lay r m l' m''
      exact ⟨by rw [e1]; exact a, by rw [e2]; exact b, e4, by omega⟩
theorem Bd.less (h : Bd gr i n) {z : Str} {k : Int} (k0 : 0 ≤ k) : Bd (lessP gr z k) i n := h.weak fun r' m' => by
  obtain ⟨s, ms, rfl | rfl⟩ := mem_mapP m'
  · exact ⟨_, ms, .inl rfl⟩
  · exact ⟨s, ms, .inr ⟨k, k0, rfl⟩⟩
theorem fadeOf_pos {inks : List Lay} (iok : InksOk inks) (z : Str) : 0 ≤ fadeOf inks z := by
  unfold fadeOf
  cases e : inks.find? fun i => decide (i.1 = z) with
  | none => exact Int.le_refl _
  | some l => exact (iok.ok l (List.mem_of_find?_eq_some e)).2.1
theorem Bd.wait (h : Bd gr i n) {inks : List Lay} (iok : InksOk inks) {k : Int} (k0 : 0 ≤ k) : Bd (waitP inks gr k) i n := h.weak fun r' m' => by
  obtain ⟨s, ms, rfl⟩ := List.mem_map.mp m'
  exact ⟨s, ms, .inr ⟨_, Int.mul_nonneg k0 (fadeOf_pos iok _), rfl⟩⟩
theorem Bd.more (h : Bd gr i n) {z : Str} {k : Int} (k0 : 0 ≤ k) (k1 : k ≤ 10 ^ 59) : Bd (moreP gr z k) (i + 1) n := by
  have al : ∀ s ∈ gr, ∀ l ∈ addY s.2 k, l.1 < n ∧ NmOk l.2.1 ∧ 1 ≤ l.2.2 ∧ l.2.2 ≤ ((i + 1 : Nat) : Int) * 10 ^ 59 := fun s ms l ml => by
    obtain ⟨l', m'', rfl⟩ := List.mem_map.mp ml
    obtain ⟨a, b, c, d⟩ := h.lay s ms l' m''
    exact ⟨a, b, by show 1 ≤ l'.2.2 + k; omega, by show l'.2.2 + k ≤ _; omega⟩
  refine ⟨fun r' m' => ?_, fun r' m' l ml => ?_⟩
  · obtain ⟨s, ms, rfl | rfl⟩ := mem_mapP m'
    · exact h.len _ ms
    · show (addY s.2 k).length ≤ n
      unfold addY
      rw [List.length_map]
      exact h.len s ms
  · obtain ⟨s, ms, rfl | rfl⟩ := mem_mapP m'
    · exact (h.mono (Nat.le_succ i)).lay _ ms l ml
    · exact al s ms l ml
theorem Bd.put (h : Bd gr i n) {z t : Str} {s : Int} (ht : NmOk t) (s0 : 1 ≤ s) (s1 : s ≤ ((i + 1 : Nat) : Int) * 10 ^ 59) : Bd (layP gr z (n, t, s)) (i + 1) (n + 1) := by
  refine ⟨fun r' m' => ?_, fun r' m' l ml => ?_⟩
  · obtain ⟨s', ms, rfl | rfl⟩ := mem_mapP (f := fun ls => ls ++ [(n, t, s)]) m'
    · exact Nat.le_succ_of_le (h.len _ ms)
    · have := h.len s' ms
      rw [List.length_append]
      show s'.2.length + 1 ≤ n + 1
      omega
  · have old : ∀ s' ∈ gr, ∀ l ∈ s'.2, l.1 < n + 1 ∧ NmOk l.2.1 ∧ 1 ≤ l.2.2 ∧ l.2.2 ≤ ((i + 1 : Nat) : Int) * 10 ^ 59 := fun s' ms l ml => by
      obtain ⟨a, b, c, d⟩ := (h.mono (Nat.le_succ i)).lay s' ms l ml
      exact ⟨by omega, b, c, d⟩
    obtain ⟨s', ms, rfl | rfl⟩ := mem_mapP (f := fun ls => ls ++ [(n, t, s)]) m'
    · exact old _ ms l ml
    · rcases List.mem_append.mp ml with q | q
      · exact old s' ms l q
      · rw [List.mem_singleton.mp q]
        exact ⟨Nat.lt_succ_self _, ht, s0, s1⟩
theorem Bd.gd {inks : List Lay} (h : Bd gr i n) (iok : InksOk inks) (nms : gr.map (·.1) = inks.map (·.1)) (hi : i ≤ 60) (hn : n ≤ 50) : GdOk inks gr := by
  refine ⟨⟨iok, nms, fun r m => Nat.le_trans (h.len r m) (by omega)⟩, fun r m l ml => ?_, fun r m => Nat.le_trans (h.len r m) (by omega)⟩
  obtain ⟨a, b, c, d⟩ := h.lay r m l ml
  refine ⟨⟨b.1, ?_⟩, c, by omega⟩
  show l.2.2.natAbs < 2 ^ 250
  omega
end
structure DOk (inks : List Lay) (i : Nat) (d : Dat) : Prop where
  nms : d.gr.map (·.1) = inks.map (·.1)
  bd : Bd d.gr i d.n
  nn : d.n ≤ i
  w0 : 0 ≤ d.wr
  w6 : d.wr ≤ 6
theorem DOk.mono {inks : List Lay} {i j : Nat} {d : Dat} (h : DOk inks i d) (ij : i ≤ j) : DOk inks j d := ⟨h.nms, h.bd.mono ij, by have := h.nn; omega, h.w0, h.w6⟩
theorem DOk.gd {inks : List Lay} {i : Nat} {d : Dat} (h : DOk inks i d) (iok : InksOk inks) (hi : i ≤ 50) : GdOk inks d.gr := h.bd.gd iok h.nms (by omega) (by have := h.nn; omega)
theorem setD_self (d : Nat → Dat) (j : Nat) : setD d j (d j) = d := by
  funext i
  by_cases h : i = j
  · rw [h, setD_eq]
  · rw [setD_ne _ _ h]
def FrS (ids : List Pid) (pt : Addr) (H H' : Hp) : Prop := ∀ a o, a ≠ pt → (∀ (k : Nat) (q : Pid), ids[k]? = some q → a ≠ q.x ∧ a ≠ q.mo ∧ a ≠ q.rw) → H a = some o → H' a = some o

/-! ### a step of the law -/
section
variable {P : Program} {w : World} {K : PySem.W.Frag} {mg : Str → Option Value} {base : Heap} {cP cQ cU : Addr}
structure CStep (P : Program) (w : World) (K : PySem.W.Frag) (mg : Str → Option Value) (base : Heap) (cP cQ : Addr) : Prop extends CTake P w K mg base where
  amount : Has P w K mg base "_law_amount" 2 ["_law_pot_here"] spAmount
  put : Has P w K mg base "_law_put" 1 ["_law_model_here", "_law_ink", "_law_tag", "_law_strength"] (spPut K)
  less : Has P w K mg base "_law_less" 1 ["_law_model_here", "_law_ink", "_law_n"] (spLess K)
  lpressed : Has P w K mg base "_law_pressed" 4 ["_law_model_here", "_law_other"] (spLPr K)
  stands : HasG P w K mg base "_law_stands" 5 ["_law_place", "_law_model_here"] (spStands K cP cQ)
  Place_lay : HasM P w K mg base cQ "lay" 7 ["self", "ink", "tag", "strength"] (spPLay K cP cQ)
  Place_wash : HasM P w K mg base cQ "wash" 7 ["self", "ink", "n"] (spPWash K cP cQ)
  Place_press : HasM P w K mg base cQ "press" 8 ["self", "other"] (spPress K cP cQ)
abbrev s_step : Stmt := topS 73
theorem sc_step : FnScope ["_law_pot_here", "_law_places", "_law_models", "_law_tags", "_law_way", "_law_one", "_law_other", "_law_place", "_law_model_here", "_law_ink", "_law_tag", "_law_n"] ["_law_pot_here", "_law_places", "_law_models", "_law_tags"] (defScope s_step) := ⟨rfl, rfl, rfl, by decide +kernel, rfl, by decide +kernel, by decide +kernel⟩

def spStep (K : PySem.W.Frag) (cP cQ : Addr) : Sp := fun vs H Q _ => ∃ (pt lp lm lt li : Addr) (inks : List Lay) (ids : List Pid) (D : Nat → Dat) (i : Nat) (tgs : List Str), vs = [.ref pt, .ref lp, .ref lm, .ref lt] ∧ Pot H pt ∧ Wd K cP cQ H li inks ids D D ∧ InksOk inks ∧
  H lp = some (.lst (ids.map fun q => V.ref q.x)) ∧ H lm = some (.lst (ids.map fun q => V.ref q.mo)) ∧ lp ≠ pt ∧ lm ≠ pt ∧ ids.length = 3 ∧ (∀ (k : Nat) (q : Pid), ids[k]? = some q → DOk inks i (D k)) ∧ i < 40 ∧
  H lt = some (.lst (tgs.map V.str)) ∧ lt ≠ pt ∧ 1 ≤ tgs.length ∧ tgs.length ≤ 8 ∧ (∀ z ∈ tgs, NmOk z) ∧
  ∀ H' D', Wd K cP cQ H' li inks ids D' D' → (∀ (k : Nat) (q : Pid), ids[k]? = some q → DOk inks (i + 1) (D' k)) → Pot H' pt → FrS ids pt H H' → Q (.bl true) H'
theorem ok_step {f : Addr} {fd : FuncData} (F : Fun K "_law_step" "_law_step" s_step f fd) (M : Blt mg) (TPlace : TPlc K mg cQ) (C : CStep P w K mg base cP cQ) : GOk P w K mg base CX0 9 f fd ["_law_pot_here", "_law_places", "_law_models", "_law_tags"] (spStep K cP cQ) := by
  refine okG F sc_step (fun vs H Q E h => ?_) (fun cdv A outer s H vs Q E hr gd h => ?_)
  · obtain ⟨pt, lp, lm, lt, li, inks, ids, D, i, tgs, rfl, _⟩ := h
    rfl
  · obtain ⟨pt, lp, lm, lt, li, inks, ids, D, i, tgs, rfl, pp, hW, iok, hlp, hlm, nlp, nlm, i3, dok, hi, hlt, nlt, t1, t8, tn, k⟩ := h
    have hu := hu_of hr
    have hu70 := units70 hr (by decide)
    refine ⟨_, (pss_cons (ps_par3 (i := 4) (j := 5) (l := 6) (by rfl) sc_step.nd rfl rfl rfl (by decide) (by decide) (by decide) rfl rfl rfl (pa_cons (callH C.take hr (by rfl) (pa_cons (pv 0) (pa_cons pe_int pa_nil))) (pa_cons (callH C.take hr (by rfl) (pa_cons (pv 0) (pa_cons pe_int pa_nil))) (pa_cons (callH C.take hr (by rfl) (pa_cons (pv 0) (pa_cons pe_int pa_nil))) pa_nil))) (by rfl))
      (pss_cons (ps_par (i := 7) (j := 8) (by rfl) sc_step.nd rfl rfl (by decide) rfl rfl (pa_cons (pe_ix (k_ixL (K := K) rfl) (pv 1) (pv 5) (fun _ _ => rfl)) (pa_cons (pe_ix (k_ixL (K := K) rfl) (pv 2) (pv 5) (fun _ _ => rfl)) pa_nil)) (by rfl))
      (C8.pss_cut (ps_set (i := 9) sc_step.nd rfl (by first | exact Or.inl rfl | exact Or.inr rfl) (pe_ix (k_ixT (K := K) rfl) (pe_ix (k_ixL (K := K) rfl) (pe_dget hu (pv 8) pe_str (fun _ _ => rfl)) (callH C.take hr (by rfl) (pa_cons (pv 0) (pa_cons (pe_callB (k_len (K := K) rfl) (by rfl) M.len (by decide +kernel) (pa_cons (pe_dget hu (pv 8) pe_str (fun _ _ => rfl)) pa_nil)) pa_nil))) (fun _ _ => rfl)) pe_int (fun _ _ => rfl)))
      (pss_cons (ps_par (i := 10) (j := 11) (by rfl) sc_step.nd rfl rfl (by decide) rfl rfl (pa_cons (pe_ix (k_ixL (K := K) rfl) (pv 3) (callH C.take hr (by rfl) (pa_cons (pv 0) (pa_cons (pe_callB (k_len (K := K) rfl) (by rfl) M.len (by decide +kernel) (pa_cons (pv 3) pa_nil)) pa_nil))) (fun _ _ => rfl)) (pa_cons (callH C.amount hr (by rfl) (pa_cons (pv 0) pa_nil)) pa_nil)) (by rfl))
      (C8.pss_cut (ps_if (pt_cmpR op_lt (pv 4) pe_int (nomark _)) (pss_cons (ps_expr (methC C.Place_lay TPlace.cl hr (pv 7) (pa_cons (pv 9) (pa_cons (pv 10) (pa_cons (pv 11) pa_nil)))))
      (pss_one (ps_expr (callH C.put hr (by rfl) (pa_cons (pv 8) (pa_cons (pv 9) (pa_cons (pv 10) (pa_cons (pv 11) pa_nil)))))))) (pss_one (ps_if (pt_cmpR op_eq (pv 4) pe_int (nomark _)) (pss_cons (ps_expr (methC C.Place_wash TPlace.cl hr (pv 7) (pa_cons (pv 9) (pa_cons (pv 11) pa_nil))))
      (pss_one (ps_expr (callH C.less hr (by rfl) (pa_cons (pv 8) (pa_cons (pv 9) (pa_cons (pv 11) pa_nil))))))) (pss_cons (ps_if (pt_cmpR op_notN (methC C.Place_press TPlace.cl hr (pv 7) (pa_cons (pe_ix (k_ixL (K := K) rfl) (pv 1) (pv 6) (fun _ _ => rfl)) pa_nil)) pe_non (nomark _)) (pss_one (ps_ret pe_bl)) pss_nil)
      (pss_one (ps_expr (callH C.lpressed hr (by rfl) (pa_cons (pv 8) (pa_cons (pe_ix (k_ixL (K := K) rfl) (pv 2) (pv 6) (fun _ _ => rfl)) pa_nil)))))))))
      (pss_one (ps_ret (pe_and (callHG C.stands hr gd (by rfl) (pa_cons (pv 7) (pa_cons (pv 8) pa_nil))) (pe_one (callHG C.stands hr gd (by rfl) (pa_cons (pe_ix (k_ixL (K := K) rfl) (pv 1) (pv 6) (fun _ _ => rfl)) (pa_cons (pe_ix (k_ixL (K := K) rfl) (pv 2) (pv 6) (fun _ _ => rfl)) pa_nil)))))))))))), ?_⟩
    simp only [tSeq, tIfS, tTest, tOp, tUn, tVar, tC, rI, rI0, rU, rEq, rNe, rIxL, rIxT, rIxS, tCB, tCons, tNil, tRet, tRetN, tAsg, gTup, gCons, gNil, gName, gSub, rSetL, tNext, tDrop, tLst, tTup, tCall, tIf, tB, tAnd, tOr, tNot, tSl, tPart, tNoPart, tM1, tM0, tBM, tBM0, tLcE, tForE, iRng1, iRng2, iTup, iList, iStr, tYes, wipe, startDef, cxK, noxK, exists_and_left, exists_eq_left', exists_eq_left, exists_eq_right, Option.some.injEq, V.int.injEq, V.ref.injEq, V.str.injEq, V.bl.injEq, List.cons.injEq, and_true, true_and, List.append_nil, List.map_cons, List.map_nil, List.length_cons, List.length_nil, List.replicate, List.nil_append, List.cons_append, List.set_cons_zero, List.set_cons_succ, List.getElem?_cons_zero, List.getElem?_cons_succ, decide_eq_true_eq, exists_const, Nat.reduceAdd, Nat.reduceSub, List.replicate_succ, List.replicate_zero, exists_prop, and_assoc, List.set_nil, rLenK, rTupK, rLstK, rReprK, rEqD, rNeD, rIn, rAll, rAppend, rCat, ↓reduceIte, Bool.false_eq_true, iEnumT, rSortedPO, rIsi, rRep, rReverse, tLstRg, tTupRg, tRg1, tRg2, rSlL, rSlT, rSortedI, rSlF, rCatF, rMax, tLc2E, rSortedL, rSortedT, gUnl, tPar, rReprX, tChain, tDNewK, tDisp, tPairs, tAndV, tNotV, tFd, sFd, tMeth, tMake, tMakeK, gStar, iZipM, iItems, tLock, tSpread, tDcE, tDGet, sDPut, tPar3, tNever, rIxD, tChain, iEnum, tDIn, tDNotIn, gHd, spTake]
    refine ⟨pp, by decide, by decide, fun wy H1 f0 f1 s1 => ⟨s1.pt, by decide, by decide, fun d H2 d0 d1 s2 => ⟨s2.pt, by decide, by decide, fun d' H3 e0 e1 s3 => ?_⟩⟩⟩
    have lpl : (ids.map fun q => V.ref q.x).length = 3 := by rw [List.length_map]; exact i3
    obtain ⟨j, rfl⟩ : ∃ j : Nat, d = (j : Int) := ⟨d.toNat, by omega⟩
    obtain ⟨o, rfl⟩ : ∃ o : Nat, d' = (o : Int) := ⟨d'.toNat, by omega⟩
    have ej : ids[j]? = some ids[j] := List.getElem?_eq_getElem (by omega)
    have eo : ids[o]? = some ids[o] := List.getElem?_eq_getElem (by omega)
    generalize ids[j] = qj at ej
    generalize ids[o] = qo at eo
    have s13 := (s1.trans s2).trans s3
    have hlp3 := s13.same lp _ (fun z => nlp (Option.some.inj z)) hlp
    have hlm3 := s13.same lm _ (fun z => nlm (Option.some.inj z)) hlm
    have xj : (ids.map fun q => V.ref q.x)[j]? = some (.ref qj.x) := by rw [List.getElem?_map, ej]; rfl
    have xo : (ids.map fun q => V.ref q.x)[o]? = some (.ref qo.x) := by rw [List.getElem?_map, eo]; rfl
    have mj : (ids.map fun q => V.ref q.mo)[j]? = some (.ref qj.mo) := by rw [List.getElem?_map, ej]; rfl
    have mo : (ids.map fun q => V.ref q.mo)[o]? = some (.ref qo.mo) := by rw [List.getElem?_map, eo]; rfl
    refine ⟨_, SqL.of hlp3, _, atI_nat xj, _, SqL.of hlm3, _, atI_nat mj, ?_⟩
    unfold C8.tCut
    refine ⟨fun σ' H' => ∃ (ink : Str), σ' = [some (.ref pt), some (.ref lp), some (.ref lm), some (.ref lt), some (.int wy), some (.int j), some (.int o), some (.ref qj.x), some (.ref qj.mo), some (.str ink), none, none] ∧ Fd.St (some pt) H H' ∧ ink ∈ inks.map (·.1), ?_, ?_⟩
    · have hW3 := hW.st pp s13
      obtain ⟨us, hli, ali⟩ := (hW3.md j qj ej).inks
      have g1 := DGet.k (k := (Sum.inr "inks" : L2.Key)) (hW3.md j qj ej).ob
      rw [mk_inks] at g1
      simp only [tSeq, tIfS, tTest, tOp, tUn, tVar, tC, rI, rI0, rU, rEq, rNe, rIxL, rIxT, rIxS, tCB, tCons, tNil, tRet, tRetN, tAsg, gTup, gCons, gNil, gName, gSub, rSetL, tNext, tDrop, tLst, tTup, tCall, tIf, tB, tAnd, tOr, tNot, tSl, tPart, tNoPart, tM1, tM0, tBM, tBM0, tLcE, tForE, iRng1, iRng2, iTup, iList, iStr, tYes, wipe, startDef, cxK, noxK, exists_and_left, exists_eq_left', exists_eq_left, exists_eq_right, Option.some.injEq, V.int.injEq, V.ref.injEq, V.str.injEq, V.bl.injEq, List.cons.injEq, and_true, true_and, List.append_nil, List.map_cons, List.map_nil, List.length_cons, List.length_nil, List.replicate, List.nil_append, List.cons_append, List.set_cons_zero, List.set_cons_succ, List.getElem?_cons_zero, List.getElem?_cons_succ, decide_eq_true_eq, exists_const, Nat.reduceAdd, Nat.reduceSub, List.replicate_succ, List.replicate_zero, exists_prop, and_assoc, List.set_nil, rLenK, rTupK, rLstK, rReprK, rEqD, rNeD, rIn, rAll, rAppend, rCat, ↓reduceIte, Bool.false_eq_true, iEnumT, rSortedPO, rIsi, rRep, rReverse, tLstRg, tTupRg, tRg1, tRg2, rSlL, rSlT, rSortedI, rSlF, rCatF, rMax, tLc2E, rSortedL, rSortedT, gUnl, tPar, rReprX, tChain, tDNewK, tDisp, tPairs, tAndV, tNotV, tFd, sFd, tMeth, tMake, tMakeK, gStar, iZipM, iItems, tLock, tSpread, tDcE, tDGet, sDPut, tPar3, tNever, rIxD, tChain, iEnum, tDIn, tDNotIn, gHd, spTake]
      have len := lays_len ali
      have pp3 := s13.pt
      have nlip : li ≠ pt := by
        rintro rfl
        obtain ⟨u, v, hpt⟩ := pp3
        rw [hpt] at hli
        cases hli
        have := iok.pos
        cases inks with
        | nil => exact absurd iok.pos (by simp)
        | cons y ys =>
          cases ali with
          | cons h1 _ => obtain ⟨_, _, ez, _⟩ := Dp.tupInv h1; cases ez
      refine ⟨_, g1, _, g1, li, rfl, us, .inl (SqL.of hli), pp3, by have := iok.pos; omega, Nat.lt_of_le_of_lt (Nat.log2_le_self _) (by have := iok.most; omega), fun b H4 b0 b1 s4 => ?_⟩
      obtain ⟨c, rfl⟩ : ∃ c : Nat, b = (c : Int) := ⟨b.toNat, by omega⟩
      have hli4 := s4.same li _ (fun z => nlip (Option.some.inj z)) hli
      have ali4 := dpsSt pp3.potO s4 (flat_lays inks) ali
      have ex : us[c]? = some us[c] := List.getElem?_eq_getElem (by omega)
      obtain ⟨lay, a, e3, e4, sq, _⟩ := lays_get ali4 ex
      exact ⟨li, rfl, _, SqL.of hli4, _, atI_nat ex, a, e4, _, sq, _, atI_nat (j := 0) rfl, lay.1, rfl, s13.trans s4, List.mem_map.mpr ⟨lay, List.mem_of_getElem? e3, rfl⟩⟩
    · rintro σ' H4 ⟨ink, rfl, s4, mink⟩
      simp only [tSeq, tIfS, tTest, tOp, tUn, tVar, tC, rI, rI0, rU, rEq, rNe, rIxL, rIxT, rIxS, tCB, tCons, tNil, tRet, tRetN, tAsg, gTup, gCons, gNil, gName, gSub, rSetL, tNext, tDrop, tLst, tTup, tCall, tIf, tB, tAnd, tOr, tNot, tSl, tPart, tNoPart, tM1, tM0, tBM, tBM0, tLcE, tForE, iRng1, iRng2, iTup, iList, iStr, tYes, wipe, startDef, cxK, noxK, exists_and_left, exists_eq_left', exists_eq_left, exists_eq_right, Option.some.injEq, V.int.injEq, V.ref.injEq, V.str.injEq, V.bl.injEq, List.cons.injEq, and_true, true_and, List.append_nil, List.map_cons, List.map_nil, List.length_cons, List.length_nil, List.replicate, List.nil_append, List.cons_append, List.set_cons_zero, List.set_cons_succ, List.getElem?_cons_zero, List.getElem?_cons_succ, decide_eq_true_eq, exists_const, Nat.reduceAdd, Nat.reduceSub, List.replicate_succ, List.replicate_zero, exists_prop, and_assoc, List.set_nil, rLenK, rTupK, rLstK, rReprK, rEqD, rNeD, rIn, rAll, rAppend, rCat, ↓reduceIte, Bool.false_eq_true, iEnumT, rSortedPO, rIsi, rRep, rReverse, tLstRg, tTupRg, tRg1, tRg2, rSlL, rSlT, rSortedI, rSlF, rCatF, rMax, tLc2E, rSortedL, rSortedT, gUnl, tPar, rReprX, tChain, tDNewK, tDisp, tPairs, tAndV, tNotV, tFd, sFd, tMeth, tMake, tMakeK, gStar, iZipM, iItems, tLock, tSpread, tDcE, tDGet, sDPut, tPar3, tNever, rIxD, tChain, iEnum, tDIn, tDNotIn, gHd, spTake, spAmount]
      have hlt4 := s4.same lt _ (fun z => nlt (Option.some.inj z)) hlt
      refine ⟨_, .inl (SqL.of hlt4), s4.pt, by rw [List.length_map]; omega, Nat.lt_of_le_of_lt (Nat.log2_le_self _) (by rw [List.length_map]; omega), fun b H5 b0 b1 s5 => ?_⟩
      rw [List.length_map] at b1
      obtain ⟨c, rfl⟩ : ∃ c : Nat, b = (c : Int) := ⟨b.toNat, by omega⟩
      have et : tgs[c]? = some tgs[c] := List.getElem?_eq_getElem (by omega)
      generalize tgs[c] = t at et
      have et2 : (tgs.map V.str)[c]? = some (.str t) := by rw [List.getElem?_map, et]; rfl
      have nmt := tn t (List.mem_of_getElem? et)
      have hlt5 := s5.same lt _ (fun z => nlt (Option.some.inj z)) hlt4
      refine ⟨_, SqL.of hlt5, _, atI_nat et2, s5.pt, fun n H6 n1 n2 s6 => ?_⟩
      have t06 := (s4.trans s5).trans s6
      refine ⟨fun σ' H' => ∃ (D' : Nat → Dat), σ' = [some (.ref pt), some (.ref lp), some (.ref lm), some (.ref lt), some (.int wy), some (.int j), some (.int o), some (.ref qj.x), some (.ref qj.mo), some (.str ink), some (.str t), some (.int n)] ∧ Wd K cP cQ H' li inks ids D' D' ∧
        (∀ (k : Nat) (q : Pid), ids[k]? = some q → DOk inks (i + 1) (D' k)) ∧ Pot H' pt ∧ FrS ids pt H H', ?_, ?_⟩
      · have hW6 := hW.st pp t06
        obtain ⟨gj, hQj, ngj⟩ := hW6.pl j qj ej
        have dj := dok j qj ej
        have gdj := dj.gd iok (by omega)
        obtain ⟨dx, hx⟩ := hQj.ob
        rw [← dj.nms] at mink
        obtain ⟨r, mr, rfl⟩ := List.mem_map.mp mink
        have nmr := hW.nmr ej
        have nd : ((D j).gr.map (·.1)).Nodup := by rw [dj.nms]; exact iok.nd
        have most := iok.most
        have lenG : (D j).gr.length = inks.length := by
          have := congrArg List.length dj.nms
          simpa using this
        have rl : r.2.length ≤ 500 := by
          have := dj.bd.len r mr
          have := dj.nn
          omega
        have pp6 : Pot H6 pt := t06.pt
        obtain ⟨kvj, r6, _⟩ := (hW6.md j qj ej).rows
        have o6 := (hW6.md j qj ej).ob
        have nn := dj.nn
        have fin : ∀ (d : Dat) (H8 : Hp), Wd K cP cQ H8 li inks ids (setD D j d) (setD D j d) → DOk inks (i + 1) d → (∀ a o, a ≠ qj.x → a ≠ qj.mo → a ≠ qj.rw → H6 a = some o → H8 a = some o) →
            ∃ D', Wd K cP cQ H8 li inks ids D' D' ∧ (∀ (k : Nat) (q : Pid), ids[k]? = some q → DOk inks (i + 1) (D' k)) ∧ Pot H8 pt ∧ FrS ids pt H H8 := by
          intro d H8 hW8 ok8 fr8
          refine ⟨_, hW8, fun k' q' e' => ?_, ?_, fun a o na nq e => ?_⟩
          · by_cases z : k' = j
            · rw [z, setD_eq]
              exact ok8
            · rw [setD_ne _ _ z]
              exact (dok k' q' e').mono (Nat.le_succ i)
          · obtain ⟨u, v, q⟩ := pp6
            exact ⟨u, v, fr8 _ _ (ne_of q hx (by intro z; cases z)) (ne_of q o6 (by intro z; cases z)) (ne_of q r6 (by intro z; cases z)) q⟩
          · obtain ⟨m1, m2, m3⟩ := nq j qj ej
            exact fr8 a o m1 m2 m3 (t06.same a o (fun z => na (Option.some.inj z)) e)
        by_cases c1 : wy < 2
        · rw [if_pos c1]
          simp only [tSeq, tIfS, tTest, tOp, tUn, tVar, tC, rI, rI0, rU, rEq, rNe, rIxL, rIxT, rIxS, tCB, tCons, tNil, tRet, tRetN, tAsg, gTup, gCons, gNil, gName, gSub, rSetL, tNext, tDrop, tLst, tTup, tCall, tIf, tB, tAnd, tOr, tNot, tSl, tPart, tNoPart, tM1, tM0, tBM, tBM0, tLcE, tForE, iRng1, iRng2, iTup, iList, iStr, tYes, wipe, startDef, cxK, noxK, exists_and_left, exists_eq_left', exists_eq_left, exists_eq_right, Option.some.injEq, V.int.injEq, V.ref.injEq, V.str.injEq, V.bl.injEq, List.cons.injEq, and_true, true_and, List.append_nil, List.map_cons, List.map_nil, List.length_cons, List.length_nil, List.replicate, List.nil_append, List.cons_append, List.set_cons_zero, List.set_cons_succ, List.getElem?_cons_zero, List.getElem?_cons_succ, decide_eq_true_eq, exists_const, Nat.reduceAdd, Nat.reduceSub, List.replicate_succ, List.replicate_zero, exists_prop, and_assoc, List.set_nil, rLenK, rTupK, rLstK, rReprK, rEqD, rNeD, rIn, rAll, rAppend, rCat, ↓reduceIte, Bool.false_eq_true, iEnumT, rSortedPO, rIsi, rRep, rReverse, tLstRg, tTupRg, tRg1, tRg2, rSlL, rSlT, rSortedI, rSlF, rCatF, rMax, tLc2E, rSortedL, rSortedT, gUnl, tPar, rReprX, tChain, tDNewK, tDisp, tPairs, tAndV, tNotV, tFd, sFd, tMeth, tMake, tMakeK, gStar, iZipM, iItems, tLock, tSpread, tDcE, tDGet, sDPut, tPar3, tNever, rIxD, tChain, iEnum, tDIn, tDNotIn, gHd, spPLay, spPut]
          refine ⟨dx, _, hx, by rfl, qj.p, qj.m, qj.f, gj, inks, (D j).wr, (D j).gr, (D j).n, r, rfl, hQj, gdj.toPlOk, mr, nmt, n1, fun g' H7 hg' hQ7 fr7 => ?_⟩
          have hW7 := hW6.place ej ngj (d := ⟨(D j).wr, layP (D j).gr r.1 ((D j).n, t, n), (D j).n + 1⟩) hQ7 hg' fr7
          refine ⟨qj.rw, li, inks, (D j).wr, (D j).gr, (D j).n, r, rfl, hW7.md j qj ej, mr, nd, by omega, rl, nmr, fun H8 hM8 fr8 => ?_⟩
          have hW8 := hW7.model ej (d := ⟨(D j).wr, layP (D j).gr r.1 ((D j).n, t, n), (D j).n + 1⟩) hM8 fr8
          have ok8 : DOk inks (i + 1) ⟨(D j).wr, layP (D j).gr r.1 ((D j).n, t, n), (D j).n + 1⟩ :=
            ⟨by show (layP _ _ _).map (·.1) = _; rw [layP_names]; exact dj.nms, dj.bd.put nmt n1 (by omega), by show (D j).n + 1 ≤ i + 1; omega, dj.w0, dj.w6⟩
          exact fin _ H8 hW8 ok8 fun a o m1 m2 m3 e => fr8 a o m2 m3 (fr7 a o m1 e)
        · rw [if_neg c1]
          refine ⟨rfl, ?_⟩
          by_cases c2 : wy = 2
          · rw [if_pos c2]
            simp only [tSeq, tIfS, tTest, tOp, tUn, tVar, tC, rI, rI0, rU, rEq, rNe, rIxL, rIxT, rIxS, tCB, tCons, tNil, tRet, tRetN, tAsg, gTup, gCons, gNil, gName, gSub, rSetL, tNext, tDrop, tLst, tTup, tCall, tIf, tB, tAnd, tOr, tNot, tSl, tPart, tNoPart, tM1, tM0, tBM, tBM0, tLcE, tForE, iRng1, iRng2, iTup, iList, iStr, tYes, wipe, startDef, cxK, noxK, exists_and_left, exists_eq_left', exists_eq_left, exists_eq_right, Option.some.injEq, V.int.injEq, V.ref.injEq, V.str.injEq, V.bl.injEq, List.cons.injEq, and_true, true_and, List.append_nil, List.map_cons, List.map_nil, List.length_cons, List.length_nil, List.replicate, List.nil_append, List.cons_append, List.set_cons_zero, List.set_cons_succ, List.getElem?_cons_zero, List.getElem?_cons_succ, decide_eq_true_eq, exists_const, Nat.reduceAdd, Nat.reduceSub, List.replicate_succ, List.replicate_zero, exists_prop, and_assoc, List.set_nil, rLenK, rTupK, rLstK, rReprK, rEqD, rNeD, rIn, rAll, rAppend, rCat, ↓reduceIte, Bool.false_eq_true, iEnumT, rSortedPO, rIsi, rRep, rReverse, tLstRg, tTupRg, tRg1, tRg2, rSlL, rSlT, rSortedI, rSlF, rCatF, rMax, tLc2E, rSortedL, rSortedT, gUnl, tPar, rReprX, tChain, tDNewK, tDisp, tPairs, tAndV, tNotV, tFd, sFd, tMeth, tMake, tMakeK, gStar, iZipM, iItems, tLock, tSpread, tDcE, tDGet, sDPut, tPar3, tNever, rIxD, tChain, iEnum, tDIn, tDNotIn, gHd, spPWash, spLess]
            refine ⟨dx, _, hx, by rfl, qj.p, qj.m, qj.f, gj, inks, (D j).wr, (D j).gr, (D j).n, r, rfl, hQj, gdj.toPlOk, mr, n1, by omega, fun g' H7 hg' hQ7 fr7 => ?_⟩
            have hW7 := hW6.place ej ngj (d := ⟨(D j).wr, lessP (D j).gr r.1 n, (D j).n⟩) hQ7 hg' fr7
            refine ⟨qj.rw, li, inks, (D j).wr, (D j).gr, (D j).n, r, rfl, hW7.md j qj ej, mr, nd, by omega, rl, nmr, fun H8 hM8 fr8 => ?_⟩
            have hW8 := hW7.model ej (d := ⟨(D j).wr, lessP (D j).gr r.1 n, (D j).n⟩) hM8 fr8
            have ok8 : DOk inks (i + 1) ⟨(D j).wr, lessP (D j).gr r.1 n, (D j).n⟩ :=
              ⟨by show (mapP (D j).gr r.1 (fun ls => weakY ls n)).map (·.1) = _; rw [mapP_names]; exact dj.nms, (dj.bd.less (by omega)).mono (Nat.le_succ i), by show (D j).n ≤ i + 1; omega, dj.w0, dj.w6⟩
            exact fin _ H8 hW8 ok8 fun a o m1 m2 m3 e => fr8 a o m2 m3 (fr7 a o m1 e)
          · rw [if_neg c2]
            simp only [tSeq, tIfS, tTest, tOp, tUn, tVar, tC, rI, rI0, rU, rEq, rNe, rIxL, rIxT, rIxS, tCB, tCons, tNil, tRet, tRetN, tAsg, gTup, gCons, gNil, gName, gSub, rSetL, tNext, tDrop, tLst, tTup, tCall, tIf, tB, tAnd, tOr, tNot, tSl, tPart, tNoPart, tM1, tM0, tBM, tBM0, tLcE, tForE, iRng1, iRng2, iTup, iList, iStr, tYes, wipe, startDef, cxK, noxK, exists_and_left, exists_eq_left', exists_eq_left, exists_eq_right, Option.some.injEq, V.int.injEq, V.ref.injEq, V.str.injEq, V.bl.injEq, List.cons.injEq, and_true, true_and, List.append_nil, List.map_cons, List.map_nil, List.length_cons, List.length_nil, List.replicate, List.nil_append, List.cons_append, List.set_cons_zero, List.set_cons_succ, List.getElem?_cons_zero, List.getElem?_cons_succ, decide_eq_true_eq, exists_const, Nat.reduceAdd, Nat.reduceSub, List.replicate_succ, List.replicate_zero, exists_prop, and_assoc, List.set_nil, rLenK, rTupK, rLstK, rReprK, rEqD, rNeD, rIn, rAll, rAppend, rCat, ↓reduceIte, Bool.false_eq_true, iEnumT, rSortedPO, rIsi, rRep, rReverse, tLstRg, tTupRg, tRg1, tRg2, rSlL, rSlT, rSortedI, rSlF, rCatF, rMax, tLc2E, rSortedL, rSortedT, gUnl, tPar, rReprX, tChain, tDNewK, tDisp, tPairs, tAndV, tNotV, tFd, sFd, tMeth, tMake, tMakeK, gStar, iZipM, iItems, tLock, tSpread, tDcE, tDGet, sDPut, tPar3, tNever, rIxD, tChain, iEnum, tDIn, tDNotIn, gHd, spPress, spLPr]
            have dO := dok o qo eo
            have gdo := dO.gd iok (by omega)
            obtain ⟨go, hQo, _⟩ := hW6.pl o qo eo
            have hlp6 := t06.same lp _ (fun z => nlp (Option.some.inj z)) hlp
            have hlm6 := t06.same lm _ (fun z => nlm (Option.some.inj z)) hlm
            have tg : ∀ (r : Str × List Lyr), r ∈ (D o).gr → ∀ (l : Lyr), l ∈ r.2 → NmOk l.2.1 ∧ l.2.2.natAbs < 2 ^ 250 := fun r mr l ml => ⟨(dO.bd.lay r mr l ml).2.1, (gdo.lay r mr l ml).1.2⟩
            refine ⟨dx, _, hx, by rfl, _, SqL.of hlp6, _, atI_nat xo, qo.x, rfl, qj.p, qj.m, qj.f, gj, qo.p, qo.m, qo.f, go, inks, inks, (D j).wr, (D o).wr, (D j).gr, (D o).gr, (D j).n, hQj, (D o).n, hQo, gdj.toPlOk, gdo.toPlOk, palE_refl iok, tg, ?_⟩
            cases t0 : topG (gG (D o).gr) with
            | none =>
              have hs : ∀ (ink : Str) (l : Lyr), (none : Option (Str × GLay)) = some (ink, mG l) → l.2.2 < 2 := fun _ _ e => (nomatch e)
              refine .inl ⟨hs, fun H7 s7 => ?_⟩
              rw [if_neg (by simp)]
              exact ⟨_, SqL.of (s7 _ _ hlm6), _, atI_nat mo, qj.rw, qo.mo, rfl, qo.rw, li, inks, (D j).wr, (D o).wr, (D j).gr, (D o).gr, (D j).n, (hW6.md j qj ej).same s7, (D o).n, (hW6.md o qo eo).same s7, gdj, gdo, nmr, .inl ⟨fun ink l e => (nomatch t0.symm.trans e), fun H8 s8 =>
                fin (D j) H8 (by rw [setD_self]; exact (hW6.same s7).same s8) (dj.mono (Nat.le_succ i)) fun a o _ _ _ e => s8 _ _ (s7 _ _ e)⟩⟩
            | some a =>
              obtain ⟨rG, mrG, erG, maG⟩ := topG_mem t0
              obtain ⟨ro, mro, rfl⟩ := List.mem_map.mp mrG
              obtain ⟨l, ml, el⟩ := List.mem_map.mp maG
              have a1 : a = (ro.1, mG l) := by rw [el]; exact Prod.ext erG.symm rfl
              subst a1
              have lok := dO.bd.lay ro mro l ml
              by_cases c : l.2.2 < 2
              · have hs : ∀ (ink : Str) (l' : Lyr), some (ro.1, mG l) = some (ink, mG l') → l'.2.2 < 2 := fun ink l' e => by
                  have e2 : l = l' := mG_inj (Prod.mk.inj (Option.some.inj e)).2
                  rw [← e2]
                  exact c
                refine .inl ⟨hs, fun H7 s7 => ?_⟩
                rw [if_neg (by simp)]
                exact ⟨_, SqL.of (s7 _ _ hlm6), _, atI_nat mo, qj.rw, qo.mo, rfl, qo.rw, li, inks, (D j).wr, (D o).wr, (D j).gr, (D o).gr, (D j).n, (hW6.md j qj ej).same s7, (D o).n, (hW6.md o qo eo).same s7, gdj, gdo, nmr, .inl ⟨fun ink l' e => hs ink l' (t0.symm.trans e), fun H8 s8 =>
                  fin (D j) H8 (by rw [setD_self]; exact (hW6.same s7).same s8) (dj.mono (Nat.le_succ i)) fun a o _ _ _ e => s8 _ _ (s7 _ _ e)⟩⟩
              · have inkm : ro.1 ∈ (D j).gr.map (·.1) := by
                  rw [dj.nms, ← dO.nms]
                  exact List.mem_map.mpr ⟨ro, mro, rfl⟩
                obtain ⟨r1, mr1, er1⟩ := List.mem_map.mp inkm
                have t1 : topG (gG (D o).gr) = some (r1.1, mG l) := by rw [t0, er1]
                have rl1 : r1.2.length ≤ 500 := by
                  have := dj.bd.len r1 mr1
                  omega
                refine .inr ⟨r1, mr1, l, by rw [er1], by omega, fun g' H7 hg' hQ7 fr7 => ?_⟩
                show if (!decide (V.non = V.non)) = true then _ else _
                rw [if_neg (by decide)]
                have hW7 := hW6.place ej ngj (d := ⟨(D j).wr, layP (D j).gr r1.1 ((D j).n, l.2.1, l.2.2 / 2), (D j).n + 1⟩) hQ7 hg' fr7
                refine ⟨_, SqL.of (fr7 _ _ (ne_of hlm6 hx (by intro z; cases z)) hlm6), _, atI_nat mo, qj.rw, qo.mo, rfl, qo.rw, li, inks, (D j).wr, (D o).wr, (D j).gr, (D o).gr, (D j).n, hW7.md j qj ej, (D o).n, hW7.md o qo eo, gdj, gdo, nmr, .inr ⟨r1, mr1, l, t1, by omega, rl1, fun H8 hM8 fr8 => ?_⟩⟩
                have hW8 := hW7.model ej (d := ⟨(D j).wr, layP (D j).gr r1.1 ((D j).n, l.2.1, l.2.2 / 2), (D j).n + 1⟩) hM8 fr8
                have ok8 : DOk inks (i + 1) ⟨(D j).wr, layP (D j).gr r1.1 ((D j).n, l.2.1, l.2.2 / 2), (D j).n + 1⟩ :=
                  ⟨by show (layP _ _ _).map (·.1) = _; rw [layP_names]; exact dj.nms, dj.bd.put lok.2.1 (by omega) (by have := lok.2.2.2; omega), by show (D j).n + 1 ≤ i + 1; omega, dj.w0, dj.w6⟩
                exact fin _ H8 hW8 ok8 fun a o m1 m2 m3 e => fr8 a o m2 m3 (fr7 a o m1 e)
      · rintro σ' H7 ⟨D', rfl, hW7, dok7, pp7, fr7⟩
        simp only [tSeq, tIfS, tTest, tOp, tUn, tVar, tC, rI, rI0, rU, rEq, rNe, rIxL, rIxT, rIxS, tCB, tCons, tNil, tRet, tRetN, tAsg, gTup, gCons, gNil, gName, gSub, rSetL, tNext, tDrop, tLst, tTup, tCall, tIf, tB, tAnd, tOr, tNot, tSl, tPart, tNoPart, tM1, tM0, tBM, tBM0, tLcE, tForE, iRng1, iRng2, iTup, iList, iStr, tYes, wipe, startDef, cxK, noxK, exists_and_left, exists_eq_left', exists_eq_left, exists_eq_right, Option.some.injEq, V.int.injEq, V.ref.injEq, V.str.injEq, V.bl.injEq, List.cons.injEq, and_true, true_and, List.append_nil, List.map_cons, List.map_nil, List.length_cons, List.length_nil, List.replicate, List.nil_append, List.cons_append, List.set_cons_zero, List.set_cons_succ, List.getElem?_cons_zero, List.getElem?_cons_succ, decide_eq_true_eq, exists_const, Nat.reduceAdd, Nat.reduceSub, List.replicate_succ, List.replicate_zero, exists_prop, and_assoc, List.set_nil, rLenK, rTupK, rLstK, rReprK, rEqD, rNeD, rIn, rAll, rAppend, rCat, ↓reduceIte, Bool.false_eq_true, iEnumT, rSortedPO, rIsi, rRep, rReverse, tLstRg, tTupRg, tRg1, tRg2, rSlL, rSlT, rSortedI, rSlF, rCatF, rMax, tLc2E, rSortedL, rSortedT, gUnl, tPar, rReprX, tChain, tDNewK, tDisp, tPairs, tAndV, tNotV, tFd, sFd, tMeth, tMake, tMakeK, gStar, iZipM, iItems, tLock, tSpread, tDcE, tDGet, sDPut, tPar3, tNever, rIxD, tChain, iEnum, tDIn, tDNotIn, gHd, spStands]
        have kd : ∀ (b : Addr) (o : HO), ¬ Mu o → H b = some o → b ≠ pt → H7 b = some o := fun b o nmu e nb => fr7 b o nb (fun k q ek => by
          obtain ⟨g, hQ, _⟩ := hW.pl k q ek
          obtain ⟨dx, hx⟩ := hQ.ob
          have hm := hW.md k q ek
          obtain ⟨kvs, hr, _⟩ := hm.rows
          have ho := hm.ob
          exact ⟨fun z => nmu (by rw [z, hx] at e; cases e; exact True.intro), fun z => nmu (by rw [z, ho] at e; cases e; exact True.intro), fun z => nmu (by rw [z, hr] at e; cases e; exact True.intro)⟩) e
        have hlp7 := kd lp (.lst _) (fun z => z) hlp nlp
        have hlm7 := kd lm (.lst _) (fun z => z) hlm nlm
        obtain ⟨g7, hQ7, _⟩ := hW7.pl j qj ej
        obtain ⟨g8, hQ8, _⟩ := hW7.pl o qo eo
        have d7 := dok7 j qj ej
        have d8 := dok7 o qo eo
        have w0 := d7.w0
        have w6 := d7.w6
        have v0 := d8.w0
        have v6 := d8.w6
        refine ⟨qj.p, qj.m, qj.f, g7, qj.rw, li, inks, (D' j).wr, (D' j).gr, (D' j).n, hQ7, hW7.md j qj ej, d7.gd iok (by omega), by omega, fun H8 s8 => ?_⟩
        refine ⟨_, SqL.of (s8 _ _ hlp7), _, atI_nat xo, _, SqL.of (s8 _ _ hlm7), _, atI_nat mo, qo.x, rfl, qo.p, qo.m, qo.f, g8, qo.mo, ?_⟩
        refine ⟨rfl, qo.rw, li, inks, (D' o).wr, (D' o).gr, (D' o).n, hQ8.same s8, (hW7.md o qo eo).same s8, d8.gd iok (by omega), by omega, fun H9 s9 => k H9 D' (hW7.same (smT s8 s9)) dok7 ?_ fun a o na nq e => smT s8 s9 _ _ (fr7 a o na nq e)⟩
        obtain ⟨u, v, q⟩ := pp7
        exact ⟨u, v, smT s8 s9 _ _ q⟩
end

/-! ### the law -/
theorem DOk0 {inks : List Lay} {wr : Int} (h0 : 0 ≤ wr) (h6 : wr ≤ 6) : DOk inks 0 ⟨wr, inks.map fun i => (i.1, []), 0⟩ ∧ ∀ r ∈ (inks.map fun i => (i.1, []) : Grd), r.2 = [] := by
  have e0 : ∀ r ∈ (inks.map fun i => (i.1, []) : Grd), r.2 = [] := fun r m => by
    obtain ⟨lay, _, rfl⟩ := List.mem_map.mp m
    rfl
  refine ⟨⟨?_, ⟨fun r m => ?_, fun r m l ml => ?_⟩, Nat.zero_le _, h0, h6⟩, e0⟩
  · show (inks.map fun i => (i.1, []) : Grd).map (·.1) = _
    rw [List.map_map]
    rfl
  · have e := e0 r m
    rw [e]
    exact Nat.zero_le _
  · have ml : l ∈ r.2 := ml
    rw [e0 r m] at ml
    exact (nomatch ml)
theorem stFresh {p : Addr} {H0 H H' : Hp} (s : Fd.St (some p) H H') (s0 : Same H0 H) (np : H0 p = none) : Same H0 H' := fun a o e => s.same a o (fun z => by
  cases z
  rw [e] at np
  cases np) (s0 _ _ e)
/-- a place that stands apart from the others -/
structure Far (K : PySem.W.Frag) (cP cQ : Addr) (H : Hp) (ids : List Pid) (x p m f g : Addr) (inks : List Lay) (wr : Int) (gr : Grd) (n : Nat) : Prop where
  pl : PlaceAt K cP cQ H x p m f g inks wr gr n
  nx : x ∉ ids.map Pid.x
  np : p ∉ ids.map Pid.x
  nf : f ∉ dcs ids
  ng : g ∉ dcs ids
theorem Far.same {K : PySem.W.Frag} {cP cQ : Addr} {H H' : Hp} {ids : List Pid} {x p m f g : Addr} {inks : List Lay} {wr : Int} {gr : Grd} {n : Nat} (h : Far K cP cQ H ids x p m f g inks wr gr n) (s : Same H H') : Far K cP cQ H' ids x p m f g inks wr gr n :=
  ⟨h.pl.same s, h.nx, h.np, h.nf, h.ng⟩
theorem chgW {K : PySem.W.Frag} {cP cQ : Addr} {H H' : Hp} {li : Addr} {inks : List Lay} {ids : List Pid} {dp dm : Nat → Dat} (hW : Wd K cP cQ H li inks ids dp dm)
    (s : ∀ a o, (∀ (k : Nat) (q : Pid), ids[k]? = some q → a ≠ q.x ∧ a ≠ q.mo ∧ a ≠ q.rw) → H a = some o → H' a = some o) : Chg (ids.map Pid.x ++ dcs ids) H H' := by
  refine ⟨fun b mb => ?_, fun a o n e => s a o (fun k q ek => ?_) e⟩
  · rcases List.mem_append.mp mb with mb | mb
    · obtain ⟨q, mq, rfl⟩ := List.mem_map.mp mb
      obtain ⟨j, e⟩ := List.mem_iff_getElem?.mp mq
      obtain ⟨g, hQ, _⟩ := hW.pl j q e
      obtain ⟨dx, hx⟩ := hQ.ob
      exact ⟨_, hx, True.intro⟩
    · obtain ⟨ks, hk⟩ := hW.dict mb
      exact ⟨_, hk, True.intro⟩
  · obtain ⟨m1, m2⟩ := mem_dcs ek
    refine ⟨fun z => n (List.mem_append.mpr (.inl (z ▸ List.mem_map.mpr ⟨q, List.mem_of_getElem? ek, rfl⟩))), fun z => n (List.mem_append.mpr (.inr (z ▸ m1))), fun z => n (List.mem_append.mpr (.inr (z ▸ m2)))⟩
theorem Far.chg {K : PySem.W.Frag} {cP cQ : Addr} {H H' : Hp} {li : Addr} {inks inks2 : List Lay} {ids : List Pid} {dp dm : Nat → Dat} {x p m f g : Addr} {wr : Int} {gr : Grd} {n : Nat} (h : Far K cP cQ H ids x p m f g inks2 wr gr n) (hW : Wd K cP cQ H li inks ids dp dm)
    (s : Chg (ids.map Pid.x ++ dcs ids) H H') : Far K cP cQ H' ids x p m f g inks2 wr gr n := by
  obtain ⟨dx, hx⟩ := h.pl.ob
  obtain ⟨dy, hy⟩ := h.pl.pal.ob
  obtain ⟨ks, hg, _⟩ := h.pl.grd
  have nd : ∀ {b C dx fs}, H b = some (.ins C dx fs) → b ∉ dcs ids := fun hb mb => by
    obtain ⟨ks, hk⟩ := hW.dict mb
    exact ne_of hb hk (by intro z; cases z) rfl
  have ni : ∀ {b ks}, H b = some (.dK ks) → b ∉ ids.map Pid.x := fun hb mb => by
    obtain ⟨q, mq, rfl⟩ := List.mem_map.mp mb
    obtain ⟨j, e⟩ := List.mem_iff_getElem?.mp mq
    obtain ⟨g, hQ, _⟩ := hW.pl j q e
    obtain ⟨dx, hx⟩ := hQ.ob
    exact ne_of hb hx (by intro z; cases z) rfl
  have j : ∀ {b}, b ∉ ids.map Pid.x → b ∉ dcs ids → b ∉ ids.map Pid.x ++ dcs ids := fun h1 h2 mb => (List.mem_append.mp mb).elim h1 h2
  exact ⟨h.pl.chg s (j h.nx (nd hx)) (j h.np (nd hy)) (j (ni h.pl.pal.fades) h.nf) (j (ni hg) h.ng), h.nx, h.np, h.nf, h.ng⟩
theorem forZip {J : Nat} {a b : Addr} {xs ys : List V} {g : TG} {tb : TS} {D : Ends} {σ : L2.St} {K : PySem.W.Frag} {H1 : Hp} (hn : J = min xs.length ys.length) (Pv : Nat → L2.St → Hp → Prop) (h0 : Pv 0 σ H1) (hG : ∀ i σ H, i ≤ J → Pv i σ H → SqL K H a xs ∧ SqL K H b ys)
    (hs : ∀ i x y T σ H, xs[i]? = some x → ys[i]? = some y → Pv i σ H → H T = none → g (.ref T) σ (upd H T (.tup [x, y])) fun σ2 H2 => tb { D with nx := Pv (i + 1), ct := Pv (i + 1), bk := D.nx } σ2 H2) (hd : ∀ σ H, Pv J σ H → D.nx σ H) : ForK (Itz K a b) g tb D σ H1 :=
  for_it (walk_zip hn) Pv h0 hG (by
    rintro i x σ H H' hi p ⟨T, x1, x2, rfl, nT, rfl, e1, e2⟩
    exact hs i x1 x2 T σ H e1 e2 p nT) hd
section
variable {P : Program} {w : World} {K : PySem.W.Frag} {mg : Str → Option Value} {base : Heap} {cP cQ : Addr}
structure CLaw (P : Program) (w : World) (K : PySem.W.Frag) (mg : Str → Option Value) (base : Heap) (cP cQ : Addr) : Prop extends CTake P w K mg base where
  «at» : Has P w K mg base "_law_at" 1 ["_law_script", "_law_k"] (spAt K)
  pot : Has P w K mg base "_law_pot" 1 ["_law_cell"] spPot
  words : Has P w K mg base "_law_words" 3 ["_law_pot_here", "_law_many"] spWords
  inks : Has P w K mg base "_law_inks" 4 ["_law_pot_here", "_law_most"] (spInks K)
  other_inks : Has P w K mg base "_law_other_inks" 3 ["_law_pot_here", "_law_inks_here"] (spOi K)
  model : Has P w K mg base "_law_model" 1 ["_law_inks_here", "_law_lives"] (spModel2 K)
  step : HasG P w K mg base "_law_step" 9 ["_law_pot_here", "_law_places", "_law_models", "_law_tags"] (spStep K cP cQ)
  is_refused : Has P w K mg base "_law_is_refused" 9 ["_law_one", "_law_other"] (spIsR K cP cQ)
  mkPalette : HasI P w K mg base "Palette" cP 3 ["self", "inks"] (spPalI K cP)
  mkPlace : HasW P w K mg base "Place" cQ 1 ["wear"] 3 ["self", "palette", "wear"] (spPlI K cP cQ)
  mkPlace0 : HasID P w K mg base "Place" cQ 3 ["self", "palette", "wear"] [.int 3] (spPlI K cP cQ)
  Place_lay : HasM P w K mg base cQ "lay" 7 ["self", "ink", "tag", "strength"] (spPLay K cP cQ)
  Place_palette : HasM P w K mg base cQ "palette" 1 ["self"] (spPlP K cP cQ)
  Palette_names : HasM P w K mg base cP "names" 1 ["self"] (spNamesP K cP)
  Place_marks : HasM P w K mg base cQ "marks" 4 ["self", "ink"] (spPMarks K cP cQ)
abbrev s_law : Stmt := topS 74
theorem sc_law : FnScope ["_law_script", "_law_pot_here", "_law_inks_here", "_law_places", "_law_models", "_law_tags", "_law_k", "_law_lives", "_law_far", "_law_place", "_law_model_here"] ["_law_script"] (defScope s_law) := ⟨rfl, rfl, rfl, by decide +kernel, rfl, by decide +kernel, by decide +kernel⟩

def spLaw (K : PySem.W.Frag) : Sp := fun vs H Q _ => ∃ (a : Addr) (ns : List Int), vs = [.ref a] ∧ SqL K H a (ns.map V.int) ∧ ns.length ≤ 63 ∧ ∀ H', Q (.bl true) H'
set_option maxHeartbeats 2000000 in
theorem ok_law {f : Addr} {fd : FuncData} (F : Fun K "law" "law" s_law f fd) (M : Blt mg) (TPalette : TPal K mg cP) (TPlace : TPlc K mg cQ) (C : CLaw P w K mg base cP cQ) : GOk P w K mg base CX0 10 f fd ["_law_script"] (spLaw K) := by
  refine okG F sc_law (fun vs H Q E h => ?_) (fun cdv A outer s H vs Q E hr gd h => ?_)
  · obtain ⟨a, ns, rfl, _⟩ := h
    rfl
  · obtain ⟨a, ns, rfl, hs, hn, k⟩ := h
    have hu := hu_of hr
    have hu70 := units70 hr (by decide)
    refine ⟨_, (pss_cons (ps_set (i := 1) sc_law.nd rfl (by first | exact Or.inl rfl | exact Or.inr rfl) (callH C.pot hr (by rfl) (pa_cons (callH C.at hr (by rfl) (pa_cons (pv 0) (pa_cons pe_int pa_nil))) pa_nil)))
      (pss_cons (ps_par3 (i := 2) (j := 3) (l := 4) (by rfl) sc_law.nd rfl rfl rfl (by decide) (by decide) (by decide) rfl rfl rfl (pa_cons (callH C.inks hr (by rfl) (pa_cons (pv 1) (pa_cons pe_int pa_nil))) (pa_cons (pe_lst pa_nil) (pa_cons (pe_lst pa_nil) pa_nil))) (by rfl))
      (pss_cons (ps_set (i := 5) sc_law.nd rfl (by first | exact Or.inl rfl | exact Or.inr rfl) (callH C.words hr (by rfl) (pa_cons (pv 1) (pa_cons pe_int pa_nil))))
      (pss_cons (ps_for PassesOwn.never rfl (pi_range1 (by rfl) M.range (pa_cons pe_int pa_nil)) (pg_name (i := 6) sc_law.nd rfl (by first | exact Or.inl rfl | exact Or.inr rfl)) (pss_cons (ps_set (i := 7) sc_law.nd rfl (by first | exact Or.inl rfl | exact Or.inr rfl) (callH C.take hr (by rfl) (pa_cons (pv 1) (pa_cons pe_int pa_nil))))
      (pss_cons (ps_expr (pe_bm PySem.F.plainAttrs_list PySem.F.slot_list_append PySem.F.type_list_append mt_append (pv 3) (pa_cons (makeW C.mkPlace hr (by rfl) (pa_cons (makeC C.mkPalette hr (by rfl) (pa_cons (pe_callTy (k_lst (K := K) rfl) (by rfl) M.list (by decide +kernel) (pa_cons (pv 2) pa_nil)) pa_nil)) pa_nil) (pk_cons (pv 7) pk_nil)) pa_nil)))
      (pss_one (ps_expr (pe_bm PySem.F.plainAttrs_list PySem.F.slot_list_append PySem.F.type_list_append mt_append (pv 4) (pa_cons (callH C.model hr (by rfl) (pa_cons (pv 2) (pa_cons (pv 7) pa_nil))) pa_nil)))))))
      (pss_cons (ps_set (i := 8) sc_law.nd rfl (by first | exact Or.inl rfl | exact Or.inr rfl) (makeD C.mkPlace0 hr (by rfl) (pa_cons (makeC C.mkPalette hr (by rfl) (pa_cons (callH C.other_inks hr (by rfl) (pa_cons (pv 1) (pa_cons (pv 2) pa_nil))) pa_nil)) pa_nil)))
      (pss_cons (ps_expr (methC C.Place_lay TPlace.cl hr (pv 8) (pa_cons (pe_ix (k_ixL (K := K) rfl) (methC0 C.Palette_names TPalette.cl hr (methC0 C.Place_palette TPlace.cl hr (pv 8))) pe_int (fun _ _ => rfl)) (pa_cons (pe_ix (k_ixL (K := K) rfl) (pv 5) pe_int (fun _ _ => rfl)) (pa_cons pe_int pa_nil)))))
      (pss_cons (ps_for PassesOwn.never rfl (pi_range2 (by rfl) M.range (pa_cons pe_int (pa_cons (pe_callB (call_max2 rfl) (by rfl) M.max (by decide +kernel) (pa_cons pe_int (pa_cons (pe_callB (call_min2 rfl) (by rfl) M.min (by decide +kernel) (pa_cons (pe_callB (k_len (K := K) rfl) (by rfl) M.len (by decide +kernel) (pa_cons (pv 0) pa_nil)) (pa_cons pe_int pa_nil))) pa_nil))) pa_nil))) (pg_name (i := 6) sc_law.nd rfl (by first | exact Or.inl rfl | exact Or.inr rfl)) (pss_cons (ps_set (i := 1) sc_law.nd rfl (by first | exact Or.inl rfl | exact Or.inr rfl) (callH C.pot hr (by rfl) (pa_cons (pe_op op_add (callH C.at hr (by rfl) (pa_cons (pv 0) (pa_cons (pv 6) pa_nil))) (pe_op op_mul pe_int (pv 6))) pa_nil)))
      (pss_cons (ps_if (pt_not (pt_val (callHG C.step hr gd (by rfl) (pa_cons (pv 1) (pa_cons (pv 3) (pa_cons (pv 4) (pa_cons (pv 5) pa_nil))))))) (pss_one (ps_ret pe_bl)) pss_nil)
      (pss_one (ps_if (PW.pt (pw_or (pt_not (pt_val (callH C.is_refused hr (by rfl) (pa_cons (pe_ix (k_ixL (K := K) rfl) (pv 3) (pe_op op_mod (pv 6) pe_int) (fun _ _ => rfl)) (pa_cons (pv 8) pa_nil))))) (pw_or1 (pt_not (pt_val (callH C.is_refused hr (by rfl) (pa_cons (pv 8) (pa_cons (pe_ix (k_ixL (K := K) rfl) (pv 3) (pe_op op_mod (pv 6) pe_int) (fun _ _ => rfl)) pa_nil)))))))) (pss_one (ps_ret pe_bl)) pss_nil)))))
      (pss_cons (ps_for PassesOwn.never rfl (pi_zip (by rfl) M.zip (pa_cons (pv 3) (pa_cons (pv 4) pa_nil))) (pg_tup (n := 2) (by rfl) (pgs_cons (pg_name (i := 9) sc_law.nd rfl (by first | exact Or.inl rfl | exact Or.inr rfl)) (pgs_cons (pg_name (i := 10) sc_law.nd rfl (by first | exact Or.inl rfl | exact Or.inr rfl)) pgs_nil))) (pss_one (ps_if (pt_cmpR op_ne (pe_callB (k_repr (K := K) rfl gd hu70) (by rfl) M.repr (by decide +kernel) (pa_cons (methC C.Place_lay TPlace.cl hr (pv 9) (pa_cons (pe_ix (k_ixT (K := K) rfl) (pe_ix (k_ixL (K := K) rfl) (pv 2) pe_int (fun _ _ => rfl)) pe_int (fun _ _ => rfl)) (pa_cons (pe_ix (k_ixL (K := K) rfl) (pv 5) pe_int (fun _ _ => rfl)) (pa_cons pe_int pa_nil)))) pa_nil)) (pe_callB (k_repr (K := K) rfl gd hu70) (by rfl) M.repr (by decide +kernel) (pa_cons (pe_dget hu (pv 10) pe_str (fun _ _ => rfl)) pa_nil)) (nomark _)) (pss_one (ps_ret pe_bl)) pss_nil)))
      (pss_one (ps_ret (pe_cmpR (k_eqD (K := K) rfl hr.units) (methC C.Place_marks TPlace.cl hr (pv 8) (pa_cons (pe_ix (k_ixL (K := K) rfl) (methC0 C.Palette_names TPalette.cl hr (methC0 C.Place_palette TPlace.cl hr (pv 8))) pe_int (fun _ _ => rfl)) pa_nil)) (pe_lst (pa_cons pe_int pa_nil)) (nomark _)))))))))))), ?_⟩
    simp only [tSeq, tIfS, tTest, tOp, tUn, tVar, tC, rI, rI0, rU, rEq, rNe, rIxL, rIxT, rIxS, tCB, tCons, tNil, tRet, tRetN, tAsg, gTup, gCons, gNil, gName, gSub, rSetL, tNext, tDrop, tLst, tTup, tCall, tIf, tB, tAnd, tOr, tNot, tSl, tPart, tNoPart, tM1, tM0, tBM, tBM0, tLcE, tForE, iRng1, iRng2, iTup, iList, iStr, tYes, wipe, startDef, cxK, noxK, exists_and_left, exists_eq_left', exists_eq_left, exists_eq_right, Option.some.injEq, V.int.injEq, V.ref.injEq, V.str.injEq, V.bl.injEq, List.cons.injEq, and_true, true_and, List.append_nil, List.map_cons, List.map_nil, List.length_cons, List.length_nil, List.replicate, List.nil_append, List.cons_append, List.set_cons_zero, List.set_cons_succ, List.getElem?_cons_zero, List.getElem?_cons_succ, decide_eq_true_eq, exists_const, Nat.reduceAdd, Nat.reduceSub, List.replicate_succ, List.replicate_zero, exists_prop, and_assoc, List.set_nil, rLenK, rTupK, rLstK, rReprK, rEqD, rNeD, rIn, rAll, rAppend, rCat, ↓reduceIte, Bool.false_eq_true, iEnumT, rSortedPO, rIsi, rRep, rReverse, tLstRg, tTupRg, tRg1, tRg2, rSlL, rSlT, rSortedI, rSlF, rCatF, rMax, tLc2E, rSortedL, rSortedT, gUnl, tPar, rReprX, tChain, tDNewK, tDisp, tPairs, tAndV, tNotV, tFd, sFd, tMeth, tMake, tMakeK, gStar, iZipM, iItems, tLock, tSpread, tDcE, tDGet, sDPut, tPar3, tNever, rIxD, tChain, iEnum, tDIn, tDNotIn, gHd, spAt, spPot, spInks, spTake, spWords, spPalI]
    refine ⟨ns, 0, rfl, hs, fun c p0 H1 np0 s1 pp0 => ⟨pp0, by decide, by decide, fun li us inks H2 iok hb i4 nli hli ali s2 => ⟨by decide, fun lp hlp => ⟨by decide, fun lm hlm => ?_⟩⟩⟩⟩
    have sa : Same H2 (upd H2 lp (.lst [])) := same_new hlp
    have la0 : (upd H2 lp (.lst [])) lp = some (.lst []) := upd_same
    generalize upd H2 lp (.lst []) = H3 at sa la0 hlm
    have sb : Same H3 (upd H3 lm (.lst [])) := same_new hlm
    have lb0 : (upd H3 lm (.lst [])) lm = some (.lst []) := upd_same
    have nlplm : lp ≠ lm := ne_of_none la0 hlm
    have la4 := sb _ _ la0
    have nlpp : lp ≠ p0 := s2.pt.ne hlp
    have nlmp : lm ≠ p0 := by
      obtain ⟨u, v, q⟩ := s2.pt
      exact Ne.symm (ne_of_none (sa _ _ q) hlm)
    generalize upd H3 lm (.lst []) = H4 at sb lb0 la4
    have sab := smT sa sb
    have nlilp : li ≠ lp := ne_of_none hli hlp
    have nlilm : li ≠ lm := ne_of_none (sa _ _ hli) hlm
    have pp4 : Pot H4 p0 := by
      obtain ⟨u, v, q⟩ := s2.pt
      exact ⟨u, v, sab _ _ q⟩
    refine ⟨3, rfl, pp4, by decide, fun lt tgs H6 t3 tn tnd nlt hlt s6 => ?_⟩
    have nlip : li ≠ p0 := pp0.ne nli
    have nltp : lt ≠ p0 := pp4.ne nlt
    have nltlp : lp ≠ lt := ne_of_none la4 nlt
    have nltlm : lm ≠ lt := ne_of_none lb0 nlt
    have hli6 := s6.same li _ (fun z => nlip (Option.some.inj z)) (sab _ _ hli)
    have ali6 := dpsSt pp4.potO s6 (flat_lays inks) (smDps sab (flat_lays inks) ali)
    have hlp6 := s6.same lp _ (fun z => nlpp (Option.some.inj z)) la4
    have hlm6 := s6.same lm _ (fun z => nlmp (Option.some.inj z)) lb0
    have s06 : Same H H6 := stFresh (s2.trans ((St.ofSame s2.pt.potO sab).trans s6)) s1 np0
    have pp6 : Pot H6 p0 := s6.pt
    have lp0 : H lp = none := smFr (stFresh s2 s1 np0) hlp
    have lm0 : H lm = none := smFr (smT (stFresh s2 s1 np0) sa) hlm
    have il6 : InksL K H6 li inks := ⟨us, hli6, ali6⟩
    clear hli6 ali6 s6 pp4 sab sb la4 lb0 sa la0 hlm hlp s2 hli ali s1 nlt nli
    have line : (1000 : Nat) < sizeLine := by decide
    have pos := iok.pos
    refine ⟨by decide, by decide, ?_⟩
    refine forRng (fun i σ H' => ∃ (a6 a7 : Option V) (ids : List Pid) (D : Nat → Dat), σ = [some (.ref a), some (.ref p0), some (.ref li), some (.ref lp), some (.ref lm), some (.ref lt), a6, a7, none, none, none] ∧ Pot H' p0 ∧ Same H H' ∧
      H' lt = some (.lst (tgs.map V.str)) ∧ InksL K H' li inks ∧ H' lp = some (.lst (ids.map fun q => V.ref q.x)) ∧ H' lm = some (.lst (ids.map fun q => V.ref q.mo)) ∧ ids.length = i ∧ Wd K cP cQ H' li inks ids D D ∧
      (∀ (k : Nat) (q : Pid), ids[k]? = some q → DOk inks 0 (D k)) ∧ (∀ (k : Nat) (q : Pid), ids[k]? = some q → ∀ r ∈ (D k).gr, r.2 = []) ∧ ∀ q ∈ ids, lp ≠ q.m ∧ lm ≠ q.m)
      ⟨_, _, [], fun _ => ⟨0, [], 0⟩, rfl, pp6, s06, hlt, il6, hlp6, hlm6, rfl, Wd.nil _, fun _ _ e => (nomatch e), fun _ _ e => (nomatch e), fun q m => (nomatch m)⟩ ?_ ?_
    · clear hlt il6 hlp6 hlm6 s06 pp6
      rintro i σ Ha hi ⟨a6, a7, ids, D, rfl, pp, s0a, hlt, il, hlp, hlm, hids, hW, dok, em, nms⟩
      simp only [tSeq, tIfS, tTest, tOp, tUn, tVar, tC, rI, rI0, rU, rEq, rNe, rIxL, rIxT, rIxS, tCB, tCons, tNil, tRet, tRetN, tAsg, gTup, gCons, gNil, gName, gSub, rSetL, tNext, tDrop, tLst, tTup, tCall, tIf, tB, tAnd, tOr, tNot, tSl, tPart, tNoPart, tM1, tM0, tBM, tBM0, tLcE, tForE, iRng1, iRng2, iTup, iList, iStr, tYes, wipe, startDef, cxK, noxK, exists_and_left, exists_eq_left', exists_eq_left, exists_eq_right, Option.some.injEq, V.int.injEq, V.ref.injEq, V.str.injEq, V.bl.injEq, List.cons.injEq, and_true, true_and, List.append_nil, List.map_cons, List.map_nil, List.length_cons, List.length_nil, List.replicate, List.nil_append, List.cons_append, List.set_cons_zero, List.set_cons_succ, List.getElem?_cons_zero, List.getElem?_cons_succ, decide_eq_true_eq, exists_const, Nat.reduceAdd, Nat.reduceSub, List.replicate_succ, List.replicate_zero, exists_prop, and_assoc, List.set_nil, rLenK, rTupK, rLstK, rReprK, rEqD, rNeD, rIn, rAll, rAppend, rCat, ↓reduceIte, Bool.false_eq_true, iEnumT, rSortedPO, rIsi, rRep, rReverse, tLstRg, tTupRg, tRg1, tRg2, rSlL, rSlT, rSortedI, rSlF, rCatF, rMax, tLc2E, rSortedL, rSortedT, gUnl, tPar, rReprX, tChain, tDNewK, tDisp, tPairs, tAndV, tNotV, tFd, sFd, tMeth, tMake, tMakeK, gStar, iZipM, iItems, tLock, tSpread, tDcE, tDGet, sDPut, tPar3, tNever, rIxD, tChain, iEnum, tDIn, tDNotIn, gHd, spTake, spPlI, spModel2, spPalI]
      refine ⟨pp, by decide, by decide, fun lives H1 d0 d1 s1 => ?_⟩
      have fr1 : ∀ b o, b ≠ p0 → Ha b = some o → H1 b = some o := fun b o n e => s1.same b o (fun z => n (Option.some.inj z)) e
      obtain ⟨ua, va, pa⟩ := id pp
      have hlp1 := fr1 _ _ nlpp hlp
      have hlm1 := fr1 _ _ nlmp hlm
      have hlt1 := fr1 _ _ nltp hlt
      have il1 := il.lst pa (Ne.symm nlip) fr1
      have hW1 := hW.st pp s1
      have s01 := stFresh s1 s0a np0
      have pp1 := s1.pt
      clear pa hlp hlm hlt il hW fr1 s1 s0a pp
      obtain ⟨us1, hli1, ali1⟩ := id il1
      refine ⟨.inl ⟨rfl, _, SqL.of hlp1⟩, us1, .inl (SqL.of hli1), fun q1 hq1 => ?_⟩
      have s7 : Same H1 (upd H1 q1 (.lst us1)) := same_new hq1
      have q7 : (upd H1 q1 (.lst us1)) q1 = some (.lst us1) := upd_same
      generalize upd H1 q1 (.lst us1) = H7 at s7 q7
      refine fun p dx hp hdx ndx => ?_
      have sA : Same H7 (upd (upd H7 dx (.own p)) p (.ins cP dx [])) := smT (same_new hdx) (same_new (by rw [upd_ne (Ne.symm ndx)]; exact hp))
      have pA : (upd (upd H7 dx (.own p)) p (.ins cP dx [])) p = some (.ins cP dx []) := upd_same
      generalize upd (upd H7 dx (.own p)) p (.ins cP dx []) = HA at sA pA
      have sAA := smT s7 sA
      refine ⟨dx, pA, us1, sA _ _ q7, inks, smDps sAA (flat_lays inks) ali1, iok, fun m f H9 hm0 hf0 hP fr9 => ?_⟩
      have nmlp : lp ≠ m := ne_of_none (sAA _ _ hlp1) hm0
      have nmlm : lm ≠ m := ne_of_none (sAA _ _ hlm1) hm0
      have s79 : Same H7 H9 := fun b o e => fr9 b o (ne_of_none e hp) (sA b o e)
      have s19 := smT s7 s79
      have nf : f ∉ dcs ids := fun mg => by
        obtain ⟨ks, hk⟩ := hW1.dict mg
        exact ne_of_none (sAA _ _ hk) hf0 rfl
      have hlp9 := s19 _ _ hlp1
      have hlm9 := s19 _ _ hlm1
      have hW9 := hW1.same s19
      have s09 := smT s01 s19
      have hlt9 := s19 _ _ hlt1
      have il9 := il1.same s19
      have pp9 : Pot H9 p0 := by
        obtain ⟨u, v, q⟩ := pp1
        exact ⟨u, v, s19 _ _ q⟩
      clear hli1 ali1 s7 q7 sA pA sAA hm0 hf0 fr9 s79 s19 hlp1 hlm1 hW1 s01 hlt1 il1 pp1
      refine fun x dxx hx hdxx nx => ?_
      have sB : Same H9 (upd (upd H9 dxx (.own x)) x (.ins cQ dxx [])) := smT (same_new hdxx) (same_new (by rw [upd_ne (Ne.symm nx)]; exact hx))
      have xB : (upd (upd H9 dxx (.own x)) x (.ins cQ dxx [])) x = some (.ins cQ dxx []) := upd_same
      generalize upd (upd H9 dxx (.own x)) x (.ins cQ dxx []) = HB at sB xB
      have npx : p ≠ x := by
        obtain ⟨dp, hp9⟩ := hP.ob
        exact ne_of_none hp9 hx
      refine ⟨dxx, xB, m, f, inks, hP.same sB, iok, d0, by omega, npx, fun g H2 hg hQ2 fr2 => ?_⟩
      have s12 : Same H9 H2 := fun b o e => fr2 b o (ne_of_none e hx) (sB b o e)
      have ng : g ∉ dcs ids := fun mg => by
        obtain ⟨ks, hk⟩ := hW9.dict mg
        exact ne_of_none (sB _ _ hk) hg rfl
      have nxs : x ∉ ids.map Pid.x := fun mx => by
        obtain ⟨q, mq, rfl⟩ := List.mem_map.mp mx
        obtain ⟨j, e⟩ := List.mem_iff_getElem?.mp mq
        obtain ⟨g0, hq, _⟩ := hW9.pl j q e
        obtain ⟨dq, hq⟩ := hq.ob
        exact ne_of_none hq hx rfl
      have hlp2 := s12 _ _ hlp9
      have hlm2 := s12 _ _ hlm9
      have hW2 := hW9.same s12
      have s02 := smT s09 s12
      refine ⟨_, hlp2, by rw [List.length_map]; omega, ?_⟩
      have fr3 : ∀ b o, b ≠ lp → H2 b = some o → upd H2 lp (.lst ((ids.map fun q => V.ref q.x) ++ [V.ref x])) b = some o := fun b o n e => by rw [upd_ne n]; exact e
      have hlp3 : upd H2 lp (.lst ((ids.map fun q => V.ref q.x) ++ [V.ref x])) lp = some (.lst ((ids.map fun q => V.ref q.x) ++ [V.ref x])) := upd_same
      generalize upd H2 lp (.lst ((ids.map fun q => V.ref q.x) ++ [V.ref x])) = H3 at fr3 hlp3
      have hlm3 := fr3 _ _ (Ne.symm nlplm) hlm2
      have hlt3 := fr3 _ _ (Ne.symm nltlp) (s12 _ _ hlt9)
      have il3 := (il9.same s12).lst hlp2 (Ne.symm nlilp) fr3
      have ne : ∀ {F : Pid → V}, ids ≠ [] → ids.map F ≠ [] := fun h z => h (List.map_eq_nil_iff.mp z)
      have hW3 := hW2.lst em hlp2 ne (Ne.symm nlilp) (fun q m => (nms q m).1) fr3
      have hQ3 := hQ2.lst hlp2 nmlp fr3
      have s03 : Same H H3 := fun b o e => fr3 b o (ne_of_none e lp0) (s02 b o e)
      have pp3 : Pot H3 p0 := by
        obtain ⟨u, v, q⟩ := pp9
        exact ⟨u, v, fr3 _ _ (Ne.symm nlpp) (s12 _ _ q)⟩
      clear hW2 hQ2 s02 hlp2 hlm2 il9 hlt9 hlp9 hlm9 hg fr2 fr3 s09 pp9 hW9 sB xB s12 hP
      refine ⟨.inl ⟨rfl, _, SqL.of hlm3⟩, inks, il3, iok, fun mo rw H4 hmo hrw nmr s34 hM => ⟨_, s34 _ _ hlm3, by rw [List.length_map]; omega, ?_⟩⟩
      have fr5 : ∀ b o, b ≠ lm → H4 b = some o → upd H4 lm (.lst ((ids.map fun q => V.ref q.mo) ++ [V.ref mo])) b = some o := fun b o n e => by rw [upd_ne n]; exact e
      have hlm5 : upd H4 lm (.lst ((ids.map fun q => V.ref q.mo) ++ [V.ref mo])) lm = some (.lst ((ids.map fun q => V.ref q.mo) ++ [V.ref mo])) := upd_same
      generalize upd H4 lm (.lst ((ids.map fun q => V.ref q.mo) ++ [V.ref mo])) = H5 at fr5 hlm5
      have hlm4 := s34 _ _ hlm3
      have il5 := (il3.same s34).lst hlm4 (Ne.symm nlilm) fr5
      obtain ⟨ok0, em0⟩ := DOk0 (inks := inks) (wr := lives) d0 (by omega)
      refine ⟨?_, fun b o e => fr5 b o (ne_of_none e lm0) (s34 _ _ (s03 b o e)), fr5 _ _ (Ne.symm nltlm) (s34 _ _ hlt3), il5, ids ++ [⟨x, mo, rw, p, m, f⟩], ?_, ?_, ?_, setD D ids.length ⟨lives, inks.map fun i => (i.1, []), 0⟩, ?_, ?_, ?_, ?_⟩
      · obtain ⟨u, v, q⟩ := pp3
        exact ⟨u, v, fr5 _ _ (Ne.symm nlmp) (s34 _ _ q)⟩
      · rw [List.map_append]
        exact fr5 _ _ nlplm (s34 _ _ hlp3)
      · rw [List.map_append]
        exact hlm5
      · rw [List.length_append]
        show ids.length + 1 = i + 1
        omega
      · refine hW3.snoc (q := ⟨x, mo, rw, p, m, f⟩) (d := ⟨lives, inks.map fun i => (i.1, []), 0⟩) em s34 hlm3 ne (Ne.symm nlilm) (fun q m => (nms q m).2) nmlm fr5 hmo hrw nmr nxs nf hQ3 ng ?_
        exact hM H5 (fun b o h e => fr5 b o (fun z => by rw [z, hlm3] at h; cases h) e) il5
      · intro k' q' e'
        rcases getSnoc e' with ⟨c', e'⟩ | ⟨rfl, rfl⟩
        · rw [setD_ne _ _ (by omega)]
          exact dok k' q' e'
        · rw [setD_eq]
          exact ok0
      · intro k' q' e'
        rcases getSnoc e' with ⟨c', e'⟩ | ⟨rfl, rfl⟩
        · rw [setD_ne _ _ (by omega)]
          exact em k' q' e'
        · rw [setD_eq]
          exact em0
      · intro q' m'
        rcases List.mem_append.mp m' with m' | m'
        · exact nms q' m'
        · rw [List.mem_singleton.mp m']
          exact ⟨nmlp, nmlm⟩
    · clear hlt il6 hlp6 hlm6 s06 pp6
      rintro σ Ha ⟨a6, a7, ids, D, rfl, pp, s0a, hlt, il, hlp, hlm, hids, hW, dok, em, nms⟩
      have hids : ids.length = 3 := hids
      simp only [tSeq, tIfS, tTest, tOp, tUn, tVar, tC, rI, rI0, rU, rEq, rNe, rIxL, rIxT, rIxS, tCB, tCons, tNil, tRet, tRetN, tAsg, gTup, gCons, gNil, gName, gSub, rSetL, tNext, tDrop, tLst, tTup, tCall, tIf, tB, tAnd, tOr, tNot, tSl, tPart, tNoPart, tM1, tM0, tBM, tBM0, tLcE, tForE, iRng1, iRng2, iTup, iList, iStr, tYes, wipe, startDef, cxK, noxK, exists_and_left, exists_eq_left', exists_eq_left, exists_eq_right, Option.some.injEq, V.int.injEq, V.ref.injEq, V.str.injEq, V.bl.injEq, List.cons.injEq, and_true, true_and, List.append_nil, List.map_cons, List.map_nil, List.length_cons, List.length_nil, List.replicate, List.nil_append, List.cons_append, List.set_cons_zero, List.set_cons_succ, List.getElem?_cons_zero, List.getElem?_cons_succ, decide_eq_true_eq, exists_const, Nat.reduceAdd, Nat.reduceSub, List.replicate_succ, List.replicate_zero, exists_prop, and_assoc, List.set_nil, rLenK, rTupK, rLstK, rReprK, rEqD, rNeD, rIn, rAll, rAppend, rCat, ↓reduceIte, Bool.false_eq_true, iEnumT, rSortedPO, rIsi, rRep, rReverse, tLstRg, tTupRg, tRg1, tRg2, rSlL, rSlT, rSortedI, rSlF, rCatF, rMax, tLc2E, rSortedL, rSortedT, gUnl, tPar, rReprX, tChain, tDNewK, tDisp, tPairs, tAndV, tNotV, tFd, sFd, tMeth, tMake, tMakeK, gStar, iZipM, iItems, tLock, tSpread, tDcE, tDGet, sDPut, tPar3, tNever, rIxD, tChain, iEnum, tDIn, tDNotIn, gHd, spOi, spPalI, spPlI, spPLay, spPlP, spNamesP]
      have hsa := s0a.seq hs
      refine ⟨pp, inks, il, iok, by omega, hb, nlip, fun l2 inks2 H1 il2 nl2 ok2 pe1 pe2 s1 => ?_⟩
      obtain ⟨us2, hl2, al2⟩ := il2
      have fr1 : ∀ b o, b ≠ p0 → Ha b = some o → H1 b = some o := fun b o n e => s1.same b o (fun z => n (Option.some.inj z)) e
      have hW1 := hW.st pp s1
      have hlp1 := fr1 _ _ nlpp hlp
      have hlm1 := fr1 _ _ nlmp hlm
      have hlt1 := fr1 _ _ nltp hlt
      have s01 := stFresh s1 s0a np0
      obtain ⟨ua, va, pa⟩ := id pp
      have il1 := il.lst pa (Ne.symm nlip) fr1
      clear pa hlp hlm hlt il hW fr1 s1 s0a pp hsa
      refine fun p dx hp hdx ndx => ?_
      have sA : Same H1 (upd (upd H1 dx (.own p)) p (.ins cP dx [])) := smT (same_new hdx) (same_new (by rw [upd_ne (Ne.symm ndx)]; exact hp))
      have pA : (upd (upd H1 dx (.own p)) p (.ins cP dx [])) p = some (.ins cP dx []) := upd_same
      generalize upd (upd H1 dx (.own p)) p (.ins cP dx []) = HA at sA pA
      refine ⟨dx, pA, us2, sA _ _ hl2, inks2, smDps sA (flat_lays inks2) al2, ok2, fun m f H2 hm0 hf0 hP fr2 => ?_⟩
      have s12 : Same H1 H2 := fun b o e => fr2 b o (ne_of_none e hp) (sA b o e)
      have nfd : f ∉ dcs ids := fun mg => by
        obtain ⟨ks, hk⟩ := hW1.dict mg
        exact ne_of_none (sA _ _ hk) hf0 rfl
      have npd : p ∉ ids.map Pid.x := fun mx => by
        obtain ⟨q, mq, rfl⟩ := List.mem_map.mp mx
        obtain ⟨j, e⟩ := List.mem_iff_getElem?.mp mq
        obtain ⟨g0, hq, _⟩ := hW1.pl j q e
        obtain ⟨dq, hq⟩ := hq.ob
        exact ne_of_none hq hp rfl
      have hW2 := hW1.same s12
      refine fun x dxx hx hdxx nx => ?_
      have sB : Same H2 (upd (upd H2 dxx (.own x)) x (.ins cQ dxx [])) := smT (same_new hdxx) (same_new (by rw [upd_ne (Ne.symm nx)]; exact hx))
      have xB : (upd (upd H2 dxx (.own x)) x (.ins cQ dxx [])) x = some (.ins cQ dxx []) := upd_same
      generalize upd (upd H2 dxx (.own x)) x (.ins cQ dxx []) = HB at sB xB
      have npx : p ≠ x := by
        obtain ⟨dp, hp9⟩ := hP.ob
        exact ne_of_none hp9 hx
      refine ⟨dxx, xB, m, f, inks2, hP.same sB, ok2, by decide, by decide, npx, fun g H3 hg hQ3 fr3 => ?_⟩
      have s23 : Same H2 H3 := fun b o e => fr3 b o (ne_of_none e hx) (sB b o e)
      have ngd : g ∉ dcs ids := fun mg => by
        obtain ⟨ks, hk⟩ := hW2.dict mg
        exact ne_of_none (sB _ _ hk) hg rfl
      have nxd : x ∉ ids.map Pid.x := fun mx => by
        obtain ⟨q, mq, rfl⟩ := List.mem_map.mp mx
        obtain ⟨j, e⟩ := List.mem_iff_getElem?.mp mq
        obtain ⟨g0, hq, _⟩ := hW2.pl j q e
        obtain ⟨dq, hq⟩ := hq.ob
        exact ne_of_none hq hx rfl
      have s13 := smT s12 s23
      obtain ⟨dq, hx3⟩ := hQ3.ob
      obtain ⟨dpq, hp3⟩ := hQ3.pal.ob
      have pos2 := ok2.pos
      have most2 := ok2.most
      have e0 : inks2[0]? = some inks2[0] := List.getElem?_eq_getElem (by omega)
      generalize inks2[0] = lay0 at e0
      have mr0 : ((lay0.1, []) : Str × List Lyr) ∈ inks2.map fun i => (i.1, []) := List.mem_map.mpr ⟨lay0, List.mem_of_getElem? e0, rfl⟩
      have plok : PlOk inks2 (inks2.map fun i => (i.1, [])) := ⟨ok2, by rw [List.map_map]; rfl, fun r m => by
        obtain ⟨i, _, rfl⟩ := List.mem_map.mp m
        exact Nat.zero_le _⟩
      have et : tgs[0]? = some tgs[0] := List.getElem?_eq_getElem (by omega)
      generalize tgs[0] = t0 at et
      have et2 : (tgs.map V.str)[0]? = some (.str t0) := by rw [List.getElem?_map, et]; rfl
      have tn0 := tn t0 (List.mem_of_getElem? et)
      have hlt3 := s13 _ _ hlt1
      have enm : ((inks2.map (·.1)).map V.str)[0]? = some (.str lay0.1) := by rw [List.getElem?_map, List.getElem?_map, e0]; rfl
      clear sA pA hm0 hf0 fr2 sB xB hg fr3 s23 hP hW2 hl2 al2
      refine ⟨dq, _, hx3, by rfl, dq, _, hx3, by rfl, p, m, f, g, inks2, 3, _, 0, hQ3, dpq, _, hp3, by rfl, m, f, inks2, hQ3.pal, by omega, fun q H4 hq s34 hl4 => ⟨_, SqL.of hl4, _, atI_nat (j := 0) enm, _, SqL.of (s34 _ _ hlt3), _, atI_nat (j := 0) et2, ?_⟩⟩
      refine ⟨p, m, f, g, inks2, 3, _, 0, (lay0.1, []), rfl, t0, rfl, hQ3.same s34, plok, mr0, tn0, by decide, fun g5 H5 hg5 hQ5 fr5 => ?_⟩
      have s15 : Same H1 H5 := fun b o e => fr5 b o (ne_of_none (s12 _ _ e) hx) (s34 _ _ (s13 _ _ e))
      have ng5 : g5 ∉ dcs ids := fun mg => by
        rcases hg5 with hg5 | rfl
        · obtain ⟨ks, hk⟩ := hW1.dict mg
          exact ne_of_none (s34 _ _ (s13 _ _ hk)) hg5 rfl
        · exact ngd mg
      have far : Far K cP cQ H5 ids x p m f g5 inks2 3 (layP (inks2.map fun i => (i.1, [])) lay0.1 (0, t0, 5)) 1 := ⟨hQ5, nxd, npd, nfd, ng5⟩
      have mrF : ((lay0.1, [((0 : Nat), t0, (5 : Int))]) : Str × List Lyr) ∈ layP (inks2.map fun i => (i.1, [])) lay0.1 (0, t0, 5) := List.mem_map.mpr ⟨(lay0.1, []), mr0, if_pos rfl⟩
      have plF : PlOk inks2 (layP (inks2.map fun i => (i.1, [])) lay0.1 (0, t0, 5)) := ⟨ok2, by rw [layP_names]; exact plok.nms, fun r mr => by
        obtain ⟨s', ms, e⟩ := List.mem_map.mp mr
        obtain ⟨i, _, rfl⟩ := List.mem_map.mp ms
        rw [← e]
        by_cases c : i.1 = lay0.1
        · show (if _ then _ else _ : Str × List Lyr).2.length ≤ 500
          rw [if_pos c]
          show 1 ≤ 500
          decide
        · show (if _ then _ else _ : Str × List Lyr).2.length ≤ 500
          rw [if_neg c]
          exact Nat.zero_le _⟩
      generalize layP (inks2.map fun i => (i.1, [])) lay0.1 (0, t0, 5) = grF at far mrF plF
      have hsa := (smT s01 s15).seq hs
      have hW5 := hW1.same s15
      have hlp5 := s15 _ _ hlp1
      have hlm5 := s15 _ _ hlm1
      have hlt5 := s15 _ _ hlt1
      have il5 := il1.same s15
      clear hQ5 hQ3 nxd npd nfd ng5 hg5 fr5 s34 hl4 hq s13 hx3 hp3 ngd s12 s15 hlp1 hlm1 hlt1 il1 hW1 s01 hx hp hlt3 mr0 plok em nms hs
      have nm : (ns.map V.int).length = ns.length := List.length_map ..
      refine ⟨_, .inl hsa, by decide, by decide, by rw [nm]; split <;> split <;> omega, by rw [nm]; split <;> split <;> omega, ?_⟩
      generalize eN2 : Int.toNat _ = N
      have hN : N ≤ 30 := by
        rw [← eN2, nm]
        split <;> split <;> omega
      refine forRng (fun i σ H' => ∃ (a1 a6 a7 : Option V) (D : Nat → Dat), σ = [some (.ref a), a1, some (.ref li), some (.ref lp), some (.ref lm), some (.ref lt), a6, a7, some (.ref x), none, none] ∧ SqL K H' a (ns.map V.int) ∧
        H' lt = some (.lst (tgs.map V.str)) ∧ H' lp = some (.lst (ids.map fun q => V.ref q.x)) ∧ H' lm = some (.lst (ids.map fun q => V.ref q.mo)) ∧ InksL K H' li inks ∧ Wd K cP cQ H' li inks ids D D ∧ (∀ (k : Nat) (q : Pid), ids[k]? = some q → DOk inks i (D k)) ∧
        Far K cP cQ H' ids x p m f g5 inks2 3 grF 1)
        ⟨_, _, _, D, rfl, hsa, hlt5, hlp5, hlm5, il5, hW5, dok, far⟩ ?_ ?_
      · clear hsa hlt5 hlp5 hlm5 il5 hW5 dok far D
        rintro i σ Hb hi ⟨a1, a6, a7, D, rfl, hsb, hlt, hlp, hlm, il, hW, dok, far⟩
        rw [show (1 : Int) + (i : Int) = ((1 + i : Nat) : Int) by omega]
        simp only [tSeq, tIfS, tTest, tOp, tUn, tVar, tC, rI, rI0, rU, rEq, rNe, rIxL, rIxT, rIxS, tCB, tCons, tNil, tRet, tRetN, tAsg, gTup, gCons, gNil, gName, gSub, rSetL, tNext, tDrop, tLst, tTup, tCall, tIf, tB, tAnd, tOr, tNot, tSl, tPart, tNoPart, tM1, tM0, tBM, tBM0, tLcE, tForE, iRng1, iRng2, iTup, iList, iStr, tYes, wipe, startDef, cxK, noxK, exists_and_left, exists_eq_left', exists_eq_left, exists_eq_right, Option.some.injEq, V.int.injEq, V.ref.injEq, V.str.injEq, V.bl.injEq, List.cons.injEq, and_true, true_and, List.append_nil, List.map_cons, List.map_nil, List.length_cons, List.length_nil, List.replicate, List.nil_append, List.cons_append, List.set_cons_zero, List.set_cons_succ, List.getElem?_cons_zero, List.getElem?_cons_succ, decide_eq_true_eq, exists_const, Nat.reduceAdd, Nat.reduceSub, List.replicate_succ, List.replicate_zero, exists_prop, and_assoc, List.set_nil, rLenK, rTupK, rLstK, rReprK, rEqD, rNeD, rIn, rAll, rAppend, rCat, ↓reduceIte, Bool.false_eq_true, iEnumT, rSortedPO, rIsi, rRep, rReverse, tLstRg, tTupRg, tRg1, tRg2, rSlL, rSlT, rSortedI, rSlF, rCatF, rMax, tLc2E, rSortedL, rSortedT, gUnl, tPar, rReprX, tChain, tDNewK, tDisp, tPairs, tAndV, tNotV, tFd, sFd, tMeth, tMake, tMakeK, gStar, iZipM, iItems, tLock, tSpread, tDcE, tDGet, sDPut, tPar3, tNever, rIxD, tChain, iEnum, tDIn, tDNotIn, gHd, spAt, spPot, spStep, spIsR]
        refine ⟨ns, 1 + i, rfl, hsb, fun c => ⟨.inl (by decide), fun pt H1 np s1 pp1 => ?_⟩⟩
        have hW1 := hW.same s1
        refine ⟨pp1, li, inks, ids, D, hW1, iok, s1 _ _ hlp, s1 _ _ hlm, ne_of_none hlp np, ne_of_none hlm np, hids, i, dok, by omega, tgs, s1 _ _ hlt, ne_of_none hlt np, by omega, by omega, tn, fun H2 D2 hW2 dok2 pp2 fr2 => ?_⟩
        rw [if_neg (by decide)]
        have ch : Chg (ids.map Pid.x ++ dcs ids) Hb H2 := chgW hW fun b o nq e => fr2 b o (ne_of_none e np) nq (s1 _ _ e)
        have far2 := far.chg hW ch
        have hlp2 := ch.lst hlp
        have hlm2 := ch.lst hlm
        have hlt2 := ch.lst hlt
        have hs2 := ch.seqL hsb
        have il2 := il.chg ch
        clear ch fr2 hW1 hsb hlt hlp hlm hW dok s1 np pp1 far il pp2 D
        have el : ((1 + i : Nat) : Int) % 3 = (((1 + i) % 3 : Nat) : Int) := by omega
        rw [el]
        have ej : ids[(1 + i) % 3]? = some ids[(1 + i) % 3] := List.getElem?_eq_getElem (by omega)
        generalize ids[(1 + i) % 3] = qj at ej
        have xj : (ids.map fun q => V.ref q.x)[(1 + i) % 3]? = some (.ref qj.x) := by rw [List.getElem?_map, ej]; rfl
        obtain ⟨gj, hQj, _⟩ := hW2.pl _ qj ej
        have dj := dok2 _ qj ej
        have gdj := dj.gd iok (by omega)
        refine ⟨by decide, _, SqL.of hlp2, _, atI_nat xj, qj.x, rfl, qj.p, qj.m, qj.f, gj, p, m, f, g5, inks, inks2, _, 3, _, grF, _, hQj, 1, far2.pl, gdj.toPlOk, plF, pe2, fun H3 s3 => ?_⟩
        refine ⟨by decide, _, SqL.of (s3 _ _ hlp2), _, atI_nat xj, qj.x, rfl, p, m, f, g5, qj.p, qj.m, qj.f, gj, inks2, inks, 3, _, grF, _, 1, far2.pl.same s3, _, hQj.same s3, plF, gdj.toPlOk, pe1, fun H4 s4 => ?_⟩
        have s24 := smT s3 s4
        rw [if_neg (by decide)]
        exact ⟨s24.seq hs2, s24 _ _ hlt2, s24 _ _ hlp2, s24 _ _ hlm2, il2.same s24, D2, hW2.same s24, dok2, far2.same s24⟩
      · clear hsa hlt5 hlp5 hlm5 il5 hW5 dok far D
        rintro σ Hb ⟨a1, a6, a7, D, rfl, hsb, hlt, hlp, hlm, il, hW, dok, far⟩
        unfold iZip
        simp only [tSeq, tIfS, tTest, tOp, tUn, tVar, tC, rI, rI0, rU, rEq, rNe, rIxL, rIxT, rIxS, tCB, tCons, tNil, tRet, tRetN, tAsg, gTup, gCons, gNil, gName, gSub, rSetL, tNext, tDrop, tLst, tTup, tCall, tIf, tB, tAnd, tOr, tNot, tSl, tPart, tNoPart, tM1, tM0, tBM, tBM0, tLcE, tForE, iRng1, iRng2, iTup, iList, iStr, tYes, wipe, startDef, cxK, noxK, exists_and_left, exists_eq_left', exists_eq_left, exists_eq_right, Option.some.injEq, V.int.injEq, V.ref.injEq, V.str.injEq, V.bl.injEq, List.cons.injEq, and_true, true_and, List.append_nil, List.map_cons, List.map_nil, List.length_cons, List.length_nil, List.replicate, List.nil_append, List.cons_append, List.set_cons_zero, List.set_cons_succ, List.getElem?_cons_zero, List.getElem?_cons_succ, decide_eq_true_eq, exists_const, Nat.reduceAdd, Nat.reduceSub, List.replicate_succ, List.replicate_zero, exists_prop, and_assoc, List.set_nil, rLenK, rTupK, rLstK, rReprK, rEqD, rNeD, rIn, rAll, rAppend, rCat, ↓reduceIte, Bool.false_eq_true, iEnumT, rSortedPO, rIsi, rRep, rReverse, tLstRg, tTupRg, tRg1, tRg2, rSlL, rSlT, rSortedI, rSlF, rCatF, rMax, tLc2E, rSortedL, rSortedT, gUnl, tPar, rReprX, tChain, tDNewK, tDisp, tPairs, tAndV, tNotV, tFd, sFd, tMeth, tMake, tMakeK, gStar, iZipM, iItems, tLock, tSpread, tDcE, tDGet, sDPut, tPar3, tNever, rIxD, tChain, iEnum, tDIn, tDNotIn, gHd]
        refine ⟨_, SqL.of hlp, _, SqL.of hlm, ?_⟩
        refine forZip (J := 3) (xs := ids.map fun q => V.ref q.x) (ys := ids.map fun q => V.ref q.mo) (by rw [List.length_map, List.length_map, hids]; rfl) (fun i σ H' => ∃ (a9 a10 : Option V) (dp : Nat → Dat), σ = [some (.ref a), a1, some (.ref li), some (.ref lp), some (.ref lm), some (.ref lt), a6, a7, some (.ref x), a9, a10] ∧
          H' lt = some (.lst (tgs.map V.str)) ∧ H' lp = some (.lst (ids.map fun q => V.ref q.x)) ∧ H' lm = some (.lst (ids.map fun q => V.ref q.mo)) ∧ InksL K H' li inks ∧ Wd K cP cQ H' li inks ids dp D ∧ (∀ (k : Nat) (q : Pid), ids[k]? = some q → i ≤ k → dp k = D k) ∧
          Far K cP cQ H' ids x p m f g5 inks2 3 grF 1)
          ⟨_, _, D, rfl, hlt, hlp, hlm, il, hW, fun _ _ _ _ => rfl, far⟩ (fun i σ H' _ h => ?_) ?_ ?_
        · obtain ⟨a9, a10, dp, _, _, h1, h2, _⟩ := h
          exact ⟨SqL.of h1, SqL.of h2⟩
        · clear hsb hlt hlp hlm il hW far
          rintro i x1 x2 T σ Hc e1 e2 ⟨a9, a10, dp, rfl, hlt, hlp, hlm, il, hW, same, far⟩ nT
          have hi : i < ids.length := by
            rw [List.getElem?_map] at e1
            cases c : ids[i]? with
            | none => rw [c] at e1; cases e1
            | some q => exact (List.getElem?_eq_some_iff.mp c).1
          have ej : ids[i]? = some ids[i] := List.getElem?_eq_getElem hi
          generalize ids[i] = q at ej
          rw [List.getElem?_map, ej] at e1 e2
          cases e1
          cases e2
          have sT : Same Hc (upd Hc T (.tup [.ref q.x, .ref q.mo])) := same_new nT
          have tT : (upd Hc T (.tup [.ref q.x, .ref q.mo])) T = some (.tup [.ref q.x, .ref q.mo]) := upd_same
          generalize upd Hc T (.tup [.ref q.x, .ref q.mo]) = Hd at sT tT
          simp only [tSeq, tIfS, tTest, tOp, tUn, tVar, tC, rI, rI0, rU, rEq, rNe, rIxL, rIxT, rIxS, tCB, tCons, tNil, tRet, tRetN, tAsg, gTup, gCons, gNil, gName, gSub, rSetL, tNext, tDrop, tLst, tTup, tCall, tIf, tB, tAnd, tOr, tNot, tSl, tPart, tNoPart, tM1, tM0, tBM, tBM0, tLcE, tForE, iRng1, iRng2, iTup, iList, iStr, tYes, wipe, startDef, cxK, noxK, exists_and_left, exists_eq_left', exists_eq_left, exists_eq_right, Option.some.injEq, V.int.injEq, V.ref.injEq, V.str.injEq, V.bl.injEq, List.cons.injEq, and_true, true_and, List.append_nil, List.map_cons, List.map_nil, List.length_cons, List.length_nil, List.replicate, List.nil_append, List.cons_append, List.set_cons_zero, List.set_cons_succ, List.getElem?_cons_zero, List.getElem?_cons_succ, decide_eq_true_eq, exists_const, Nat.reduceAdd, Nat.reduceSub, List.replicate_succ, List.replicate_zero, exists_prop, and_assoc, List.set_nil, rLenK, rTupK, rLstK, rReprK, rEqD, rNeD, rIn, rAll, rAppend, rCat, ↓reduceIte, Bool.false_eq_true, iEnumT, rSortedPO, rIsi, rRep, rReverse, tLstRg, tTupRg, tRg1, tRg2, rSlL, rSlT, rSortedI, rSlF, rCatF, rMax, tLc2E, rSortedL, rSortedT, gUnl, tPar, rReprX, tChain, tDNewK, tDisp, tPairs, tAndV, tNotV, tFd, sFd, tMeth, tMake, tMakeK, gStar, iZipM, iItems, tLock, tSpread, tDcE, tDGet, sDPut, tPar3, tNever, rIxD, tChain, iEnum, tDIn, tDNotIn, gHd, spPLay]
          have hWd := hW.same sT
          obtain ⟨gj, hQj, ngj⟩ := hWd.pl i q ej
          obtain ⟨dx, hx⟩ := hQj.ob
          have dj := dok i q ej
          rw [same i q ej (Nat.le_refl _)] at hQj
          obtain ⟨us1, hli, ali⟩ := il.same sT
          have len1 := lays_len ali
          have ex : us1[0]? = some us1[0] := List.getElem?_eq_getElem (by omega)
          obtain ⟨lay, b, e3, e4, sq, _⟩ := lays_get ali ex
          have mink : lay.1 ∈ (D i).gr.map (·.1) := by
            rw [dj.nms]
            exact List.mem_map.mpr ⟨lay, List.mem_of_getElem? e3, rfl⟩
          obtain ⟨r, mr, er⟩ := List.mem_map.mp mink
          refine ⟨_, SqT.of tT, rfl, _, _, rfl, _, _, rfl, rfl, q.x, rfl, dx, _, hx, by rfl, _, SqL.of hli, _, atI_nat (j := 0) ex, b, e4, _, sq, _, atI_nat (j := 0) rfl, _, SqL.of (sT _ _ hlt), _, atI_nat (j := 0) et2, _, rfl, q.p, q.m, q.f, gj, inks, (D i).wr, (D i).gr, (D i).n, r, by rw [er], t0, rfl, hQj, (dj.gd iok (by omega)).toPlOk, mr, tn0, by decide, fun g' H7 hg' hQ7 fr7 => ?_⟩
          have ch : Chg [q.x] Hd H7 := chgIns hx fr7
          have hM7 := (hWd.md i q ej).chg ch (fun z => ne_of (hWd.md i q ej).ob hx (by intro z; cases z) (List.mem_singleton.mp z)) (fun z => by
            obtain ⟨ks, hr, _⟩ := (hWd.md i q ej).rows
            exact ne_of hr hx (by intro z; cases z) (List.mem_singleton.mp z))
          have g3 := DGet.k (k := (Sum.inr "next" : L2.Key)) hM7.ob
          rw [mk_next] at g3
          have nn := dj.nn
          have ni : Nice (.int ((D i).n : Int)) := (niceW_int (by omega)).nice (by decide)
          refine ⟨_, .int _, ni, _, rfl, _, g3, _, .int _, ni, rfl, ?_⟩
          rw [if_neg (by simp)]
          have ch2 : Chg (ids.map Pid.x ++ dcs ids) Hd H7 := chgW hWd fun b o nq e => fr7 b o (nq i q ej).1 e
          refine ⟨ch2.lst (sT _ _ hlt), ch2.lst (sT _ _ hlp), ch2.lst (sT _ _ hlm), (il.same sT).chg ch2, _, hWd.place ej ngj (d := ⟨(D i).wr, layP (D i).gr r.1 ((D i).n, t0, 1), (D i).n + 1⟩) hQ7 hg' fr7, fun k' q' e' hk' => ?_, (far.same sT).chg hWd ch2⟩
          rw [setD_ne _ _ (by omega)]
          exact same k' q' e' (by omega)
        · rintro σ Hc ⟨a9, a10, dp, rfl, hlt, hlp, hlm, il, hW, _, far⟩
          simp only [tSeq, tIfS, tTest, tOp, tUn, tVar, tC, rI, rI0, rU, rEq, rNe, rIxL, rIxT, rIxS, tCB, tCons, tNil, tRet, tRetN, tAsg, gTup, gCons, gNil, gName, gSub, rSetL, tNext, tDrop, tLst, tTup, tCall, tIf, tB, tAnd, tOr, tNot, tSl, tPart, tNoPart, tM1, tM0, tBM, tBM0, tLcE, tForE, iRng1, iRng2, iTup, iList, iStr, tYes, wipe, startDef, cxK, noxK, exists_and_left, exists_eq_left', exists_eq_left, exists_eq_right, Option.some.injEq, V.int.injEq, V.ref.injEq, V.str.injEq, V.bl.injEq, List.cons.injEq, and_true, true_and, List.append_nil, List.map_cons, List.map_nil, List.length_cons, List.length_nil, List.replicate, List.nil_append, List.cons_append, List.set_cons_zero, List.set_cons_succ, List.getElem?_cons_zero, List.getElem?_cons_succ, decide_eq_true_eq, exists_const, Nat.reduceAdd, Nat.reduceSub, List.replicate_succ, List.replicate_zero, exists_prop, and_assoc, List.set_nil, rLenK, rTupK, rLstK, rReprK, rEqD, rNeD, rIn, rAll, rAppend, rCat, ↓reduceIte, Bool.false_eq_true, iEnumT, rSortedPO, rIsi, rRep, rReverse, tLstRg, tTupRg, tRg1, tRg2, rSlL, rSlT, rSortedI, rSlF, rCatF, rMax, tLc2E, rSortedL, rSortedT, gUnl, tPar, rReprX, tChain, tDNewK, tDisp, tPairs, tAndV, tNotV, tFd, sFd, tMeth, tMake, tMakeK, gStar, iZipM, iItems, tLock, tSpread, tDcE, tDGet, sDPut, tPar3, tNever, rIxD, tChain, iEnum, tDIn, tDNotIn, gHd, spPlP, spNamesP, spPMarks]
          obtain ⟨dq, hx3⟩ := far.pl.ob
          obtain ⟨dpq, hp3⟩ := far.pl.pal.ob
          refine ⟨dq, _, hx3, by rfl, dq, _, hx3, by rfl, p, m, f, g5, inks2, 3, grF, 1, far.pl, dpq, _, hp3, by rfl, m, f, inks2, far.pl.pal, by omega, fun q H4 hq s34 hl4 => ⟨_, SqL.of hl4, _, atI_nat (j := 0) enm, ?_⟩⟩
          refine ⟨p, m, f, g5, inks2, 3, grF, 1, (lay0.1, [(0, t0, 5)]), rfl, far.pl.same s34, plF, mrF, fun q2 H5 hq2 s45 hl5 => ⟨by decide, fun q3 hq3 => ?_⟩⟩
          have sq3 : Same H5 (upd H5 q3 (.lst [.int 0])) := same_new hq3
          refine ⟨.list [.int 0], .lst (SqL.of (sq3 _ _ hl5)) (.cons (.int _) .nil), .list [.int 0], .lst (SqL.of upd_same) (.cons (.int _) .nil), by decide, by decide, ?_⟩
          rw [show (PyData.list [.int 0]).eqv (.list [.int 0]) = true by decide]
          exact k _
end

/-! ### what the top has written; the law by its head -/
set_option maxHeartbeats 0 in
theorem all_mk {l : PySem.W.OpenLaw} (w : World) {K : PySem.W.Frag} {h : Heap} {mg : Str → Option Value} {fa cP cQ cW fW cU kd : Addr} (X : K.In h) (G : h.Ns mainGlobals mg) (hfa : mg "law" = some (.ref fa))
    {ocW kvW dcW pmW cdW ctW : Value} {odW anW toW : Option Addr} {slW tsW : Array (Option Value)} {tW : Addr} {tnW : Nat} {tkW : Tok}
    {cNoInk : Addr}
    {cNoTag : Addr}
    {cNoAmount : Addr}
    {cNoWear : Addr}
    {cNoDeed : Addr}
    {cNoPalette : Addr}
    {cNoPlaces : Addr}
    {cNoText : Addr}
    {cNoRow : Addr}
    {cNoBook : Addr}
    {cHalted : Addr}
    {cNoLayer : Addr}
    {cNoName : Addr}
    {cFadeError : Addr}
    (aW : PySem.W.nsIn K mainGlobals "Worn" = some (some (.ref cW)))
    (wi : PySem.W.excInitIn K cW [.type "RuntimeError", .type "Exception", .type "BaseException", .type "object"] "RuntimeError.__new__" = true)
    (wo : PySem.W.excOver K cW [.type "RuntimeError", .type "Exception", .type "BaseException", .type "object"] = true)
    (wsa : PySem.W.findIn K (.ref cW) "__setattr__" = some (some (.builtin "object.__setattr__")))
    (wsb : PySem.W.mroIn K cW (.type "BaseException") = some true)
    (wty : PySem.W.typeIn K (.ref cW) = some (.type "type"))
    (wkp : PySem.W.keepIn K (.ref cW) = true)
    (whd : PySem.W.hasDictIn K cW = true)
    (wat : PySem.W.findIn K (.ref cW) "at" = some none)
    (win : PySem.W.findIn K (.ref cW) "__init__" = some (some (.ref fW)))
    (wft : PySem.W.typeIn K (.ref fW) = some (.type "function"))
    (wl : K.lookup fW = some ⟨ocW, odW, .func (PySem.W.fnOf "__init__" "Worn.__init__" (defArgs s_Worn_init) (defBody s_Worn_init) (defScope s_Worn_init) (.ref tW) kvW dcW pmW anW cdW ctW), slW⟩)
    (wc : PySem.W.codeIn K cdW "Worn.__init__" = true)
    (wk : PySem.W.keepIn K (.ref fW) = true)
    (wd : K.lookup tW = some ⟨.type "tuple", toW, .seq #[.int 0 tkW] tnW, tsW⟩)
    (wss : PySem.W.mroIn K cW (.ref cW) = some true)
    (uaU : PySem.W.nsIn K mainGlobals "Unlike" = some (some (.ref cU)))
    (uex : PySem.W.excIn K cU [.type "ValueError", .type "Exception", .type "BaseException", .type "object"] "ValueError.__new__" = true)
    (ukp : PySem.W.keepIn K (.ref cU) = true)
    (usb : PySem.W.mroIn K cU (.type "BaseException") = some true)
    (uty : PySem.W.typeIn K (.ref cU) = some (.type "type"))
    (uhd : PySem.W.hasDictIn K cU = true)
    (uga : PySem.W.findIn K (.ref cU) "__getattribute__" = some (some (.builtin "BaseException.__getattribute__")))
    (ugt : PySem.W.findIn K (.ref cU) "__getattr__" = some none)
    (uca : PySem.W.findIn K (.ref cU) "__class__" = some (some (.builtin "object.__class__")))
    (usp : PySem.W.specialIn K (.builtin "object.__class__") "__get__" = some (some (.builtin "getset_descriptor.__get__")))
    (utk : PySem.W.takesIn K (.builtin "object.__class__") = some true)
    (umr : PySem.W.mroIn K cU (.type "object") = some true)
    (gaNoInk : PySem.W.nsIn K mainGlobals "NoInk" = some (some (.ref cNoInk)))
    (kiNoInk : PySem.W.kitOne K (.ref cU) (.ref cNoInk) = some false)
    (gaNoTag : PySem.W.nsIn K mainGlobals "NoTag" = some (some (.ref cNoTag)))
    (kiNoTag : PySem.W.kitOne K (.ref cU) (.ref cNoTag) = some false)
    (gaNoAmount : PySem.W.nsIn K mainGlobals "NoAmount" = some (some (.ref cNoAmount)))
    (kiNoAmount : PySem.W.kitOne K (.ref cU) (.ref cNoAmount) = some false)
    (gaNoWear : PySem.W.nsIn K mainGlobals "NoWear" = some (some (.ref cNoWear)))
    (kiNoWear : PySem.W.kitOne K (.ref cU) (.ref cNoWear) = some false)
    (gaNoDeed : PySem.W.nsIn K mainGlobals "NoDeed" = some (some (.ref cNoDeed)))
    (kiNoDeed : PySem.W.kitOne K (.ref cU) (.ref cNoDeed) = some false)
    (gaNoPalette : PySem.W.nsIn K mainGlobals "NoPalette" = some (some (.ref cNoPalette)))
    (kiNoPalette : PySem.W.kitOne K (.ref cU) (.ref cNoPalette) = some false)
    (gaNoPlaces : PySem.W.nsIn K mainGlobals "NoPlaces" = some (some (.ref cNoPlaces)))
    (kiNoPlaces : PySem.W.kitOne K (.ref cU) (.ref cNoPlaces) = some false)
    (gaNoText : PySem.W.nsIn K mainGlobals "NoText" = some (some (.ref cNoText)))
    (kiNoText : PySem.W.kitOne K (.ref cU) (.ref cNoText) = some false)
    (gaNoRow : PySem.W.nsIn K mainGlobals "NoRow" = some (some (.ref cNoRow)))
    (kiNoRow : PySem.W.kitOne K (.ref cU) (.ref cNoRow) = some false)
    (gaNoBook : PySem.W.nsIn K mainGlobals "NoBook" = some (some (.ref cNoBook)))
    (kiNoBook : PySem.W.kitOne K (.ref cU) (.ref cNoBook) = some false)
    (gaHalted : PySem.W.nsIn K mainGlobals "Halted" = some (some (.ref cHalted)))
    (kiHalted : PySem.W.kitOne K (.ref cU) (.ref cHalted) = some false)
    (gaNoLayer : PySem.W.nsIn K mainGlobals "NoLayer" = some (some (.ref cNoLayer)))
    (kiNoLayer : PySem.W.kitOne K (.ref cU) (.ref cNoLayer) = some false)
    (gaNoName : PySem.W.nsIn K mainGlobals "NoName" = some (some (.ref cNoName)))
    (kiNoName : PySem.W.kitOne K (.ref cU) (.ref cNoName) = some false)
    (gaFadeError : PySem.W.nsIn K mainGlobals "FadeError" = some (some (.ref cFadeError)))
    (kiFadeError : PySem.W.kitOne K (.ref cU) (.ref cFadeError) = some true)
    (kiWorn : PySem.W.kitOne K (.ref cU) (.ref cW) = some false)
    (zbValueError : PySem.W.nsIn K mainGlobals "ValueError" = some none)
    (kbValueError : PySem.W.kitOne K (.ref cU) (.type "ValueError") = some true)
    (zbLookupError : PySem.W.nsIn K mainGlobals "LookupError" = some none)
    (kbLookupError : PySem.W.kitOne K (.ref cU) (.type "LookupError") = some false)
    (zbArithmeticError : PySem.W.nsIn K mainGlobals "ArithmeticError" = some none)
    (kbArithmeticError : PySem.W.kitOne K (.ref cU) (.type "ArithmeticError") = some false)
    (zbRuntimeError : PySem.W.nsIn K mainGlobals "RuntimeError" = some none)
    (kbRuntimeError : PySem.W.kitOne K (.ref cU) (.type "RuntimeError") = some false)
    (xbFadeError : PySem.W.mroIn K cFadeError (.type "BaseException") = some true)
    (xdFadeError : PySem.W.hasDictIn K cFadeError = true)
    (xtFadeError : PySem.W.typeIn K (.ref cFadeError) = some (.type "type"))
    (xsFadeError : PySem.W.mroIn K cU (.ref cFadeError) = some true)
    (xbNoInk : PySem.W.mroIn K cNoInk (.type "BaseException") = some true)
    (xdNoInk : PySem.W.hasDictIn K cNoInk = true)
    (xtNoInk : PySem.W.typeIn K (.ref cNoInk) = some (.type "type"))
    (xsNoInk : PySem.W.mroIn K cU (.ref cNoInk) = some false)
    (xbNoAmount : PySem.W.mroIn K cNoAmount (.type "BaseException") = some true)
    (xdNoAmount : PySem.W.hasDictIn K cNoAmount = true)
    (xtNoAmount : PySem.W.typeIn K (.ref cNoAmount) = some (.type "type"))
    (xsNoAmount : PySem.W.mroIn K cU (.ref cNoAmount) = some false)
    (xsWorn : PySem.W.mroIn K cU (.ref cW) = some false)
    (aC_Palette : PySem.W.nsIn K mainGlobals "Palette" = some (some (.ref cP)))
    (pg_Palette : PySem.W.plainGet K cP Str.empty = true)
    (hd_Palette : PySem.W.hasDictIn K cP = true)
    (po_Palette : PySem.W.plainOver K cP = true)
    (sa_Palette : PySem.W.findIn K (.ref cP) "__setattr__" = some (some (.builtin "object.__setattr__")))
    (mk_Palette : PySem.W.makesIn K cP = true)
    (kc_Palette : PySem.W.keepIn K (.ref cP) = true)
    (n_Palette_made : PySem.W.findIn K (.ref cP) "_made" = some none)
    (n_Palette_fades : PySem.W.findIn K (.ref cP) "_fades" = some none)
    (iha_Palette : PySem.W.findIn K (.ref cP) "__class__" = some (some (.builtin "object.__class__")))
    (ihn_Palette : PySem.W.specialIn K (.builtin "object.__class__") "__get__" = some (some (.builtin "getset_descriptor.__get__")))
    (ihk_Palette : PySem.W.takesIn K (.builtin "object.__class__") = some true)
    (ihm_Palette : PySem.W.mroIn K cP (.type "object") = some true)
    (aC_Place : PySem.W.nsIn K mainGlobals "Place" = some (some (.ref cQ)))
    (pg_Place : PySem.W.plainGet K cQ Str.empty = true)
    (hd_Place : PySem.W.hasDictIn K cQ = true)
    (po_Place : PySem.W.plainOver K cQ = true)
    (sa_Place : PySem.W.findIn K (.ref cQ) "__setattr__" = some (some (.builtin "object.__setattr__")))
    (mk_Place : PySem.W.makesIn K cQ = true)
    (kc_Place : PySem.W.keepIn K (.ref cQ) = true)
    (n_Place_palette : PySem.W.findIn K (.ref cQ) "_palette" = some none)
    (n_Place_wear : PySem.W.findIn K (.ref cQ) "_wear" = some none)
    (n_Place_ground : PySem.W.findIn K (.ref cQ) "_ground" = some none)
    (n_Place_next_mark : PySem.W.findIn K (.ref cQ) "_next_mark" = some none)
    (ne_Palette : PySem.W.findIn K (.ref cP) "__ne__" = some (some (.builtin "object.__ne__")))
    {f_is_whole : Addr} {od_is_whole an_is_whole : Option Addr} {sl_is_whole : Array (Option Value)} {oc_is_whole kv_is_whole dc_is_whole pm_is_whole cd_is_whole ct_is_whole : Value}
    (a_is_whole : PySem.W.nsIn K mainGlobals "is_whole" = some (some (.ref f_is_whole)))
    (l_is_whole : K.lookup f_is_whole = some ⟨oc_is_whole, od_is_whole, .func (PySem.W.fnOf "is_whole" "is_whole" (defArgs s_is_whole) (defBody s_is_whole) (defScope s_is_whole) .none kv_is_whole dc_is_whole pm_is_whole an_is_whole cd_is_whole ct_is_whole), sl_is_whole⟩)
    (c_is_whole : PySem.W.codeIn K cd_is_whole "is_whole" = true)
    (k_is_whole : PySem.W.keepIn K (.ref f_is_whole) = true)
    {f_is_name : Addr} {od_is_name an_is_name : Option Addr} {sl_is_name : Array (Option Value)} {oc_is_name kv_is_name dc_is_name pm_is_name cd_is_name ct_is_name : Value}
    (a_is_name : PySem.W.nsIn K mainGlobals "is_name" = some (some (.ref f_is_name)))
    (l_is_name : K.lookup f_is_name = some ⟨oc_is_name, od_is_name, .func (PySem.W.fnOf "is_name" "is_name" (defArgs s_is_name) (defBody s_is_name) (defScope s_is_name) .none kv_is_name dc_is_name pm_is_name an_is_name cd_is_name ct_is_name), sl_is_name⟩)
    (c_is_name : PySem.W.codeIn K cd_is_name "is_name" = true)
    (k_is_name : PySem.W.keepIn K (.ref f_is_name) = true)
    {f_is_amount : Addr} {od_is_amount an_is_amount : Option Addr} {sl_is_amount : Array (Option Value)} {oc_is_amount kv_is_amount dc_is_amount pm_is_amount cd_is_amount ct_is_amount : Value}
    (a_is_amount : PySem.W.nsIn K mainGlobals "is_amount" = some (some (.ref f_is_amount)))
    (l_is_amount : K.lookup f_is_amount = some ⟨oc_is_amount, od_is_amount, .func (PySem.W.fnOf "is_amount" "is_amount" (defArgs s_is_amount) (defBody s_is_amount) (defScope s_is_amount) .none kv_is_amount dc_is_amount pm_is_amount an_is_amount cd_is_amount ct_is_amount), sl_is_amount⟩)
    (c_is_amount : PySem.W.codeIn K cd_is_amount "is_amount" = true)
    (k_is_amount : PySem.W.keepIn K (.ref f_is_amount) = true)
    {f_is_ink : Addr} {od_is_ink an_is_ink : Option Addr} {sl_is_ink : Array (Option Value)} {oc_is_ink kv_is_ink dc_is_ink pm_is_ink cd_is_ink ct_is_ink : Value}
    (a_is_ink : PySem.W.nsIn K mainGlobals "is_ink" = some (some (.ref f_is_ink)))
    (l_is_ink : K.lookup f_is_ink = some ⟨oc_is_ink, od_is_ink, .func (PySem.W.fnOf "is_ink" "is_ink" (defArgs s_is_ink) (defBody s_is_ink) (defScope s_is_ink) .none kv_is_ink dc_is_ink pm_is_ink an_is_ink cd_is_ink ct_is_ink), sl_is_ink⟩)
    (c_is_ink : PySem.W.codeIn K cd_is_ink "is_ink" = true)
    (k_is_ink : PySem.W.keepIn K (.ref f_is_ink) = true)
    {f_Palette_init : Addr} {od_Palette_init an_Palette_init : Option Addr} {sl_Palette_init : Array (Option Value)} {oc_Palette_init kv_Palette_init dc_Palette_init pm_Palette_init cd_Palette_init ct_Palette_init : Value}
    (m_Palette_init : PySem.W.findIn K (.ref cP) "__init__" = some (some (.ref f_Palette_init)))
    (i_Palette_init : PySem.W.isFn K (.ref f_Palette_init) = true)
    (l_Palette_init : K.lookup f_Palette_init = some ⟨oc_Palette_init, od_Palette_init, .func (PySem.W.fnOf "__init__" "Palette.__init__" (defArgs s_Palette_init) (defBody s_Palette_init) (defScope s_Palette_init) .none kv_Palette_init dc_Palette_init pm_Palette_init an_Palette_init cd_Palette_init ct_Palette_init), sl_Palette_init⟩)
    (c_Palette_init : PySem.W.codeIn K cd_Palette_init "Palette.__init__" = true)
    (k_Palette_init : PySem.W.keepIn K (.ref f_Palette_init) = true)
    {f_Palette_names : Addr} {od_Palette_names an_Palette_names : Option Addr} {sl_Palette_names : Array (Option Value)} {oc_Palette_names kv_Palette_names dc_Palette_names pm_Palette_names cd_Palette_names ct_Palette_names : Value}
    (m_Palette_names : PySem.W.findIn K (.ref cP) "names" = some (some (.ref f_Palette_names)))
    (i_Palette_names : PySem.W.isFn K (.ref f_Palette_names) = true)
    (l_Palette_names : K.lookup f_Palette_names = some ⟨oc_Palette_names, od_Palette_names, .func (PySem.W.fnOf "names" "Palette.names" (defArgs s_Palette_names) (defBody s_Palette_names) (defScope s_Palette_names) .none kv_Palette_names dc_Palette_names pm_Palette_names an_Palette_names cd_Palette_names ct_Palette_names), sl_Palette_names⟩)
    (c_Palette_names : PySem.W.codeIn K cd_Palette_names "Palette.names" = true)
    (k_Palette_names : PySem.W.keepIn K (.ref f_Palette_names) = true)
    {f_Palette_inks : Addr} {od_Palette_inks an_Palette_inks : Option Addr} {sl_Palette_inks : Array (Option Value)} {oc_Palette_inks kv_Palette_inks dc_Palette_inks pm_Palette_inks cd_Palette_inks ct_Palette_inks : Value}
    (m_Palette_inks : PySem.W.findIn K (.ref cP) "inks" = some (some (.ref f_Palette_inks)))
    (i_Palette_inks : PySem.W.isFn K (.ref f_Palette_inks) = true)
    (l_Palette_inks : K.lookup f_Palette_inks = some ⟨oc_Palette_inks, od_Palette_inks, .func (PySem.W.fnOf "inks" "Palette.inks" (defArgs s_Palette_inks) (defBody s_Palette_inks) (defScope s_Palette_inks) .none kv_Palette_inks dc_Palette_inks pm_Palette_inks an_Palette_inks cd_Palette_inks ct_Palette_inks), sl_Palette_inks⟩)
    (c_Palette_inks : PySem.W.codeIn K cd_Palette_inks "Palette.inks" = true)
    (k_Palette_inks : PySem.W.keepIn K (.ref f_Palette_inks) = true)
    {f_Palette_has : Addr} {od_Palette_has an_Palette_has : Option Addr} {sl_Palette_has : Array (Option Value)} {oc_Palette_has kv_Palette_has dc_Palette_has pm_Palette_has cd_Palette_has ct_Palette_has : Value}
    (m_Palette_has : PySem.W.findIn K (.ref cP) "has" = some (some (.ref f_Palette_has)))
    (i_Palette_has : PySem.W.isFn K (.ref f_Palette_has) = true)
    (l_Palette_has : K.lookup f_Palette_has = some ⟨oc_Palette_has, od_Palette_has, .func (PySem.W.fnOf "has" "Palette.has" (defArgs s_Palette_has) (defBody s_Palette_has) (defScope s_Palette_has) .none kv_Palette_has dc_Palette_has pm_Palette_has an_Palette_has cd_Palette_has ct_Palette_has), sl_Palette_has⟩)
    (c_Palette_has : PySem.W.codeIn K cd_Palette_has "Palette.has" = true)
    (k_Palette_has : PySem.W.keepIn K (.ref f_Palette_has) = true)
    {f_Palette_fade : Addr} {od_Palette_fade an_Palette_fade : Option Addr} {sl_Palette_fade : Array (Option Value)} {oc_Palette_fade kv_Palette_fade dc_Palette_fade pm_Palette_fade cd_Palette_fade ct_Palette_fade : Value}
    (m_Palette_fade : PySem.W.findIn K (.ref cP) "fade" = some (some (.ref f_Palette_fade)))
    (i_Palette_fade : PySem.W.isFn K (.ref f_Palette_fade) = true)
    (l_Palette_fade : K.lookup f_Palette_fade = some ⟨oc_Palette_fade, od_Palette_fade, .func (PySem.W.fnOf "fade" "Palette.fade" (defArgs s_Palette_fade) (defBody s_Palette_fade) (defScope s_Palette_fade) .none kv_Palette_fade dc_Palette_fade pm_Palette_fade an_Palette_fade cd_Palette_fade ct_Palette_fade), sl_Palette_fade⟩)
    (c_Palette_fade : PySem.W.codeIn K cd_Palette_fade "Palette.fade" = true)
    (k_Palette_fade : PySem.W.keepIn K (.ref f_Palette_fade) = true)
    {f_Palette_eq : Addr} {od_Palette_eq an_Palette_eq : Option Addr} {sl_Palette_eq : Array (Option Value)} {oc_Palette_eq kv_Palette_eq dc_Palette_eq pm_Palette_eq cd_Palette_eq ct_Palette_eq : Value}
    (m_Palette_eq : PySem.W.findIn K (.ref cP) "__eq__" = some (some (.ref f_Palette_eq)))
    (i_Palette_eq : PySem.W.isFn K (.ref f_Palette_eq) = true)
    (l_Palette_eq : K.lookup f_Palette_eq = some ⟨oc_Palette_eq, od_Palette_eq, .func (PySem.W.fnOf "__eq__" "Palette.__eq__" (defArgs s_Palette_eq) (defBody s_Palette_eq) (defScope s_Palette_eq) .none kv_Palette_eq dc_Palette_eq pm_Palette_eq an_Palette_eq cd_Palette_eq ct_Palette_eq), sl_Palette_eq⟩)
    (c_Palette_eq : PySem.W.codeIn K cd_Palette_eq "Palette.__eq__" = true)
    (k_Palette_eq : PySem.W.keepIn K (.ref f_Palette_eq) = true)
    {f_refuse_unlike : Addr} {od_refuse_unlike an_refuse_unlike : Option Addr} {sl_refuse_unlike : Array (Option Value)} {oc_refuse_unlike kv_refuse_unlike dc_refuse_unlike pm_refuse_unlike cd_refuse_unlike ct_refuse_unlike : Value}
    (a_refuse_unlike : PySem.W.nsIn K mainGlobals "refuse_unlike" = some (some (.ref f_refuse_unlike)))
    (l_refuse_unlike : K.lookup f_refuse_unlike = some ⟨oc_refuse_unlike, od_refuse_unlike, .func (PySem.W.fnOf "refuse_unlike" "refuse_unlike" (defArgs s_refuse_unlike) (defBody s_refuse_unlike) (defScope s_refuse_unlike) .none kv_refuse_unlike dc_refuse_unlike pm_refuse_unlike an_refuse_unlike cd_refuse_unlike ct_refuse_unlike), sl_refuse_unlike⟩)
    (c_refuse_unlike : PySem.W.codeIn K cd_refuse_unlike "refuse_unlike" = true)
    (k_refuse_unlike : PySem.W.keepIn K (.ref f_refuse_unlike) = true)
    {f_wears : Addr} {od_wears an_wears : Option Addr} {sl_wears : Array (Option Value)} {oc_wears kv_wears dc_wears pm_wears cd_wears ct_wears : Value}
    (a_wears : PySem.W.nsIn K mainGlobals "wears" = some (some (.ref f_wears)))
    (l_wears : K.lookup f_wears = some ⟨oc_wears, od_wears, .func (PySem.W.fnOf "wears" "wears" (defArgs s_wears) (defBody s_wears) (defScope s_wears) .none kv_wears dc_wears pm_wears an_wears cd_wears ct_wears), sl_wears⟩)
    (c_wears : PySem.W.codeIn K cd_wears "wears" = true)
    (k_wears : PySem.W.keepIn K (.ref f_wears) = true)
    {f_is_kind : Addr} {od_is_kind an_is_kind : Option Addr} {sl_is_kind : Array (Option Value)} {oc_is_kind kv_is_kind dc_is_kind pm_is_kind cd_is_kind ct_is_kind : Value}
    (a_is_kind : PySem.W.nsIn K mainGlobals "_is_kind" = some (some (.ref f_is_kind)))
    (l_is_kind : K.lookup f_is_kind = some ⟨oc_is_kind, od_is_kind, .func (PySem.W.fnOf "_is_kind" "_is_kind" (defArgs s_is_kind) (defBody s_is_kind) (defScope s_is_kind) .none kv_is_kind dc_is_kind pm_is_kind an_is_kind cd_is_kind ct_is_kind), sl_is_kind⟩)
    (c_is_kind : PySem.W.codeIn K cd_is_kind "_is_kind" = true)
    (k_is_kind : PySem.W.keepIn K (.ref f_is_kind) = true)
    {f_checked : Addr} {od_checked an_checked : Option Addr} {sl_checked : Array (Option Value)} {oc_checked kv_checked dc_checked pm_checked cd_checked ct_checked : Value}
    (a_checked : PySem.W.nsIn K mainGlobals "checked" = some (some (.ref f_checked)))
    (l_checked : K.lookup f_checked = some ⟨oc_checked, od_checked, .func (PySem.W.fnOf "checked" "checked" (defArgs s_checked) (defBody s_checked) (defScope s_checked) .none kv_checked dc_checked pm_checked an_checked cd_checked ct_checked), sl_checked⟩)
    (c_checked : PySem.W.codeIn K cd_checked "checked" = true)
    (k_checked : PySem.W.keepIn K (.ref f_checked) = true)
    {f_ranked : Addr} {od_ranked an_ranked : Option Addr} {sl_ranked : Array (Option Value)} {oc_ranked kv_ranked dc_ranked pm_ranked cd_ranked ct_ranked : Value}
    (a_ranked : PySem.W.nsIn K mainGlobals "ranked" = some (some (.ref f_ranked)))
    (l_ranked : K.lookup f_ranked = some ⟨oc_ranked, od_ranked, .func (PySem.W.fnOf "ranked" "ranked" (defArgs s_ranked) (defBody s_ranked) (defScope s_ranked) .none kv_ranked dc_ranked pm_ranked an_ranked cd_ranked ct_ranked), sl_ranked⟩)
    (c_ranked : PySem.W.codeIn K cd_ranked "ranked" = true)
    (k_ranked : PySem.W.keepIn K (.ref f_ranked) = true)
    {f_first : Addr} {od_first an_first : Option Addr} {sl_first : Array (Option Value)} {oc_first kv_first dc_first pm_first cd_first ct_first : Value}
    (a_first : PySem.W.nsIn K mainGlobals "first" = some (some (.ref f_first)))
    (l_first : K.lookup f_first = some ⟨oc_first, od_first, .func (PySem.W.fnOf "first" "first" (defArgs s_first) (defBody s_first) (defScope s_first) .none kv_first dc_first pm_first an_first cd_first ct_first), sl_first⟩)
    (c_first : PySem.W.codeIn K cd_first "first" = true)
    (k_first : PySem.W.keepIn K (.ref f_first) = true)
    {f_left : Addr} {od_left an_left : Option Addr} {sl_left : Array (Option Value)} {oc_left kv_left dc_left pm_left cd_left ct_left : Value}
    (a_left : PySem.W.nsIn K mainGlobals "_left" = some (some (.ref f_left)))
    (l_left : K.lookup f_left = some ⟨oc_left, od_left, .func (PySem.W.fnOf "_left" "_left" (defArgs s_left) (defBody s_left) (defScope s_left) .none kv_left dc_left pm_left an_left cd_left ct_left), sl_left⟩)
    (c_left : PySem.W.codeIn K cd_left "_left" = true)
    (k_left : PySem.W.keepIn K (.ref f_left) = true)
    {f_weaker : Addr} {od_weaker an_weaker : Option Addr} {sl_weaker : Array (Option Value)} {oc_weaker kv_weaker dc_weaker pm_weaker cd_weaker ct_weaker : Value}
    (a_weaker : PySem.W.nsIn K mainGlobals "weaker" = some (some (.ref f_weaker)))
    (l_weaker : K.lookup f_weaker = some ⟨oc_weaker, od_weaker, .func (PySem.W.fnOf "weaker" "weaker" (defArgs s_weaker) (defBody s_weaker) (defScope s_weaker) .none kv_weaker dc_weaker pm_weaker an_weaker cd_weaker ct_weaker), sl_weaker⟩)
    (c_weaker : PySem.W.codeIn K cd_weaker "weaker" = true)
    (k_weaker : PySem.W.keepIn K (.ref f_weaker) = true)
    {f_stronger : Addr} {od_stronger an_stronger : Option Addr} {sl_stronger : Array (Option Value)} {oc_stronger kv_stronger dc_stronger pm_stronger cd_stronger ct_stronger : Value}
    (a_stronger : PySem.W.nsIn K mainGlobals "stronger" = some (some (.ref f_stronger)))
    (l_stronger : K.lookup f_stronger = some ⟨oc_stronger, od_stronger, .func (PySem.W.fnOf "stronger" "stronger" (defArgs s_stronger) (defBody s_stronger) (defScope s_stronger) .none kv_stronger dc_stronger pm_stronger an_stronger cd_stronger ct_stronger), sl_stronger⟩)
    (c_stronger : PySem.W.codeIn K cd_stronger "stronger" = true)
    (k_stronger : PySem.W.keepIn K (.ref f_stronger) = true)
    {f_rubbed : Addr} {od_rubbed an_rubbed : Option Addr} {sl_rubbed : Array (Option Value)} {oc_rubbed kv_rubbed dc_rubbed pm_rubbed cd_rubbed ct_rubbed : Value}
    (a_rubbed : PySem.W.nsIn K mainGlobals "rubbed" = some (some (.ref f_rubbed)))
    (l_rubbed : K.lookup f_rubbed = some ⟨oc_rubbed, od_rubbed, .func (PySem.W.fnOf "rubbed" "rubbed" (defArgs s_rubbed) (defBody s_rubbed) (defScope s_rubbed) .none kv_rubbed dc_rubbed pm_rubbed an_rubbed cd_rubbed ct_rubbed), sl_rubbed⟩)
    (c_rubbed : PySem.W.codeIn K cd_rubbed "rubbed" = true)
    (k_rubbed : PySem.W.keepIn K (.ref f_rubbed) = true)
    {f_scraped : Addr} {od_scraped an_scraped : Option Addr} {sl_scraped : Array (Option Value)} {oc_scraped kv_scraped dc_scraped pm_scraped cd_scraped ct_scraped : Value}
    (a_scraped : PySem.W.nsIn K mainGlobals "scraped" = some (some (.ref f_scraped)))
    (l_scraped : K.lookup f_scraped = some ⟨oc_scraped, od_scraped, .func (PySem.W.fnOf "scraped" "scraped" (defArgs s_scraped) (defBody s_scraped) (defScope s_scraped) .none kv_scraped dc_scraped pm_scraped an_scraped cd_scraped ct_scraped), sl_scraped⟩)
    (c_scraped : PySem.W.codeIn K cd_scraped "scraped" = true)
    (k_scraped : PySem.W.keepIn K (.ref f_scraped) = true)
    {f_bare_ground : Addr} {od_bare_ground an_bare_ground : Option Addr} {sl_bare_ground : Array (Option Value)} {oc_bare_ground kv_bare_ground dc_bare_ground pm_bare_ground cd_bare_ground ct_bare_ground : Value}
    (a_bare_ground : PySem.W.nsIn K mainGlobals "bare_ground" = some (some (.ref f_bare_ground)))
    (l_bare_ground : K.lookup f_bare_ground = some ⟨oc_bare_ground, od_bare_ground, .func (PySem.W.fnOf "bare_ground" "bare_ground" (defArgs s_bare_ground) (defBody s_bare_ground) (defScope s_bare_ground) .none kv_bare_ground dc_bare_ground pm_bare_ground an_bare_ground cd_bare_ground ct_bare_ground), sl_bare_ground⟩)
    (c_bare_ground : PySem.W.codeIn K cd_bare_ground "bare_ground" = true)
    (k_bare_ground : PySem.W.keepIn K (.ref f_bare_ground) = true)
    {f_seen_on : Addr} {od_seen_on an_seen_on : Option Addr} {sl_seen_on : Array (Option Value)} {oc_seen_on kv_seen_on dc_seen_on pm_seen_on cd_seen_on ct_seen_on : Value}
    (a_seen_on : PySem.W.nsIn K mainGlobals "seen_on" = some (some (.ref f_seen_on)))
    (l_seen_on : K.lookup f_seen_on = some ⟨oc_seen_on, od_seen_on, .func (PySem.W.fnOf "seen_on" "seen_on" (defArgs s_seen_on) (defBody s_seen_on) (defScope s_seen_on) .none kv_seen_on dc_seen_on pm_seen_on an_seen_on cd_seen_on ct_seen_on), sl_seen_on⟩)
    (c_seen_on : PySem.W.codeIn K cd_seen_on "seen_on" = true)
    (k_seen_on : PySem.W.keepIn K (.ref f_seen_on) = true)
    {f_wear_behind : Addr} {od_wear_behind an_wear_behind : Option Addr} {sl_wear_behind : Array (Option Value)} {oc_wear_behind kv_wear_behind dc_wear_behind pm_wear_behind cd_wear_behind ct_wear_behind : Value}
    (a_wear_behind : PySem.W.nsIn K mainGlobals "wear_behind" = some (some (.ref f_wear_behind)))
    (l_wear_behind : K.lookup f_wear_behind = some ⟨oc_wear_behind, od_wear_behind, .func (PySem.W.fnOf "wear_behind" "wear_behind" (defArgs s_wear_behind) (defBody s_wear_behind) (defScope s_wear_behind) .none kv_wear_behind dc_wear_behind pm_wear_behind an_wear_behind cd_wear_behind ct_wear_behind), sl_wear_behind⟩)
    (c_wear_behind : PySem.W.codeIn K cd_wear_behind "wear_behind" = true)
    (k_wear_behind : PySem.W.keepIn K (.ref f_wear_behind) = true)
    {f_row_behind : Addr} {od_row_behind an_row_behind : Option Addr} {sl_row_behind : Array (Option Value)} {oc_row_behind kv_row_behind dc_row_behind pm_row_behind cd_row_behind ct_row_behind : Value}
    (a_row_behind : PySem.W.nsIn K mainGlobals "_row_behind" = some (some (.ref f_row_behind)))
    (l_row_behind : K.lookup f_row_behind = some ⟨oc_row_behind, od_row_behind, .func (PySem.W.fnOf "_row_behind" "_row_behind" (defArgs s_row_behind) (defBody s_row_behind) (defScope s_row_behind) .none kv_row_behind dc_row_behind pm_row_behind an_row_behind cd_row_behind ct_row_behind), sl_row_behind⟩)
    (c_row_behind : PySem.W.codeIn K cd_row_behind "_row_behind" = true)
    (k_row_behind : PySem.W.keepIn K (.ref f_row_behind) = true)
    {f_ground_behind : Addr} {od_ground_behind an_ground_behind : Option Addr} {sl_ground_behind : Array (Option Value)} {oc_ground_behind kv_ground_behind dc_ground_behind pm_ground_behind cd_ground_behind ct_ground_behind : Value}
    (a_ground_behind : PySem.W.nsIn K mainGlobals "ground_behind" = some (some (.ref f_ground_behind)))
    (l_ground_behind : K.lookup f_ground_behind = some ⟨oc_ground_behind, od_ground_behind, .func (PySem.W.fnOf "ground_behind" "ground_behind" (defArgs s_ground_behind) (defBody s_ground_behind) (defScope s_ground_behind) .none kv_ground_behind dc_ground_behind pm_ground_behind an_ground_behind cd_ground_behind ct_ground_behind), sl_ground_behind⟩)
    (c_ground_behind : PySem.W.codeIn K cd_ground_behind "ground_behind" = true)
    (k_ground_behind : PySem.W.keepIn K (.ref f_ground_behind) = true)
    {f_pressed : Addr} {od_pressed an_pressed : Option Addr} {sl_pressed : Array (Option Value)} {oc_pressed kv_pressed dc_pressed pm_pressed cd_pressed ct_pressed : Value}
    (a_pressed : PySem.W.nsIn K mainGlobals "pressed" = some (some (.ref f_pressed)))
    (l_pressed : K.lookup f_pressed = some ⟨oc_pressed, od_pressed, .func (PySem.W.fnOf "pressed" "pressed" (defArgs s_pressed) (defBody s_pressed) (defScope s_pressed) .none kv_pressed dc_pressed pm_pressed an_pressed cd_pressed ct_pressed), sl_pressed⟩)
    (c_pressed : PySem.W.codeIn K cd_pressed "pressed" = true)
    (k_pressed : PySem.W.keepIn K (.ref f_pressed) = true)
    {f_checked_wear : Addr} {od_checked_wear an_checked_wear : Option Addr} {sl_checked_wear : Array (Option Value)} {oc_checked_wear kv_checked_wear dc_checked_wear pm_checked_wear cd_checked_wear ct_checked_wear : Value}
    (a_checked_wear : PySem.W.nsIn K mainGlobals "checked_wear" = some (some (.ref f_checked_wear)))
    (l_checked_wear : K.lookup f_checked_wear = some ⟨oc_checked_wear, od_checked_wear, .func (PySem.W.fnOf "checked_wear" "checked_wear" (defArgs s_checked_wear) (defBody s_checked_wear) (defScope s_checked_wear) .none kv_checked_wear dc_checked_wear pm_checked_wear an_checked_wear cd_checked_wear ct_checked_wear), sl_checked_wear⟩)
    (c_checked_wear : PySem.W.codeIn K cd_checked_wear "checked_wear" = true)
    (k_checked_wear : PySem.W.keepIn K (.ref f_checked_wear) = true)
    {f_Place_init : Addr} {od_Place_init an_Place_init : Option Addr} {sl_Place_init : Array (Option Value)} {oc_Place_init  dc_Place_init pm_Place_init cd_Place_init ct_Place_init : Value} {kD_Place_init : Addr}
    (m_Place_init : PySem.W.findIn K (.ref cQ) "__init__" = some (some (.ref f_Place_init)))
    (i_Place_init : PySem.W.isFn K (.ref f_Place_init) = true)
    (l_Place_init : K.lookup f_Place_init = some ⟨oc_Place_init, od_Place_init, .func (PySem.W.fnOf "__init__" "Place.__init__" (defArgs s_Place_init) (defBody s_Place_init) (defScope s_Place_init) .none (.ref kD_Place_init) dc_Place_init pm_Place_init an_Place_init cd_Place_init ct_Place_init), sl_Place_init⟩)
    {tkD_Place_init_wear : Tok}
    (kw_Place_init_wear : PySem.W.nsIn K kD_Place_init "wear" = some (some (.int 3 tkD_Place_init_wear)))
    (c_Place_init : PySem.W.codeIn K cd_Place_init "Place.__init__" = true)
    (k_Place_init : PySem.W.keepIn K (.ref f_Place_init) = true)
    {f_Place_palette : Addr} {od_Place_palette an_Place_palette : Option Addr} {sl_Place_palette : Array (Option Value)} {oc_Place_palette kv_Place_palette dc_Place_palette pm_Place_palette cd_Place_palette ct_Place_palette : Value}
    (m_Place_palette : PySem.W.findIn K (.ref cQ) "palette" = some (some (.ref f_Place_palette)))
    (i_Place_palette : PySem.W.isFn K (.ref f_Place_palette) = true)
    (l_Place_palette : K.lookup f_Place_palette = some ⟨oc_Place_palette, od_Place_palette, .func (PySem.W.fnOf "palette" "Place.palette" (defArgs s_Place_palette) (defBody s_Place_palette) (defScope s_Place_palette) .none kv_Place_palette dc_Place_palette pm_Place_palette an_Place_palette cd_Place_palette ct_Place_palette), sl_Place_palette⟩)
    (c_Place_palette : PySem.W.codeIn K cd_Place_palette "Place.palette" = true)
    (k_Place_palette : PySem.W.keepIn K (.ref f_Place_palette) = true)
    {f_Place_wear : Addr} {od_Place_wear an_Place_wear : Option Addr} {sl_Place_wear : Array (Option Value)} {oc_Place_wear kv_Place_wear dc_Place_wear pm_Place_wear cd_Place_wear ct_Place_wear : Value}
    (m_Place_wear : PySem.W.findIn K (.ref cQ) "wear" = some (some (.ref f_Place_wear)))
    (i_Place_wear : PySem.W.isFn K (.ref f_Place_wear) = true)
    (l_Place_wear : K.lookup f_Place_wear = some ⟨oc_Place_wear, od_Place_wear, .func (PySem.W.fnOf "wear" "Place.wear" (defArgs s_Place_wear) (defBody s_Place_wear) (defScope s_Place_wear) .none kv_Place_wear dc_Place_wear pm_Place_wear an_Place_wear cd_Place_wear ct_Place_wear), sl_Place_wear⟩)
    (c_Place_wear : PySem.W.codeIn K cd_Place_wear "Place.wear" = true)
    (k_Place_wear : PySem.W.keepIn K (.ref f_Place_wear) = true)
    {f_Place_marked_row : Addr} {od_Place_marked_row an_Place_marked_row : Option Addr} {sl_Place_marked_row : Array (Option Value)} {oc_Place_marked_row kv_Place_marked_row dc_Place_marked_row pm_Place_marked_row cd_Place_marked_row ct_Place_marked_row : Value}
    (m_Place_marked_row : PySem.W.findIn K (.ref cQ) "_marked_row" = some (some (.ref f_Place_marked_row)))
    (i_Place_marked_row : PySem.W.isFn K (.ref f_Place_marked_row) = true)
    (l_Place_marked_row : K.lookup f_Place_marked_row = some ⟨oc_Place_marked_row, od_Place_marked_row, .func (PySem.W.fnOf "_marked_row" "Place._marked_row" (defArgs s_Place_marked_row) (defBody s_Place_marked_row) (defScope s_Place_marked_row) .none kv_Place_marked_row dc_Place_marked_row pm_Place_marked_row an_Place_marked_row cd_Place_marked_row ct_Place_marked_row), sl_Place_marked_row⟩)
    (c_Place_marked_row : PySem.W.codeIn K cd_Place_marked_row "Place._marked_row" = true)
    (k_Place_marked_row : PySem.W.keepIn K (.ref f_Place_marked_row) = true)
    {f_Place_row : Addr} {od_Place_row an_Place_row : Option Addr} {sl_Place_row : Array (Option Value)} {oc_Place_row kv_Place_row dc_Place_row pm_Place_row cd_Place_row ct_Place_row : Value}
    (m_Place_row : PySem.W.findIn K (.ref cQ) "row" = some (some (.ref f_Place_row)))
    (i_Place_row : PySem.W.isFn K (.ref f_Place_row) = true)
    (l_Place_row : K.lookup f_Place_row = some ⟨oc_Place_row, od_Place_row, .func (PySem.W.fnOf "row" "Place.row" (defArgs s_Place_row) (defBody s_Place_row) (defScope s_Place_row) .none kv_Place_row dc_Place_row pm_Place_row an_Place_row cd_Place_row ct_Place_row), sl_Place_row⟩)
    (c_Place_row : PySem.W.codeIn K cd_Place_row "Place.row" = true)
    (k_Place_row : PySem.W.keepIn K (.ref f_Place_row) = true)
    {f_Place_marks : Addr} {od_Place_marks an_Place_marks : Option Addr} {sl_Place_marks : Array (Option Value)} {oc_Place_marks kv_Place_marks dc_Place_marks pm_Place_marks cd_Place_marks ct_Place_marks : Value}
    (m_Place_marks : PySem.W.findIn K (.ref cQ) "marks" = some (some (.ref f_Place_marks)))
    (i_Place_marks : PySem.W.isFn K (.ref f_Place_marks) = true)
    (l_Place_marks : K.lookup f_Place_marks = some ⟨oc_Place_marks, od_Place_marks, .func (PySem.W.fnOf "marks" "Place.marks" (defArgs s_Place_marks) (defBody s_Place_marks) (defScope s_Place_marks) .none kv_Place_marks dc_Place_marks pm_Place_marks an_Place_marks cd_Place_marks ct_Place_marks), sl_Place_marks⟩)
    (c_Place_marks : PySem.W.codeIn K cd_Place_marks "Place.marks" = true)
    (k_Place_marks : PySem.W.keepIn K (.ref f_Place_marks) = true)
    {f_Place_seen : Addr} {od_Place_seen an_Place_seen : Option Addr} {sl_Place_seen : Array (Option Value)} {oc_Place_seen kv_Place_seen dc_Place_seen pm_Place_seen cd_Place_seen ct_Place_seen : Value}
    (m_Place_seen : PySem.W.findIn K (.ref cQ) "seen" = some (some (.ref f_Place_seen)))
    (i_Place_seen : PySem.W.isFn K (.ref f_Place_seen) = true)
    (l_Place_seen : K.lookup f_Place_seen = some ⟨oc_Place_seen, od_Place_seen, .func (PySem.W.fnOf "seen" "Place.seen" (defArgs s_Place_seen) (defBody s_Place_seen) (defScope s_Place_seen) .none kv_Place_seen dc_Place_seen pm_Place_seen an_Place_seen cd_Place_seen ct_Place_seen), sl_Place_seen⟩)
    (c_Place_seen : PySem.W.codeIn K cd_Place_seen "Place.seen" = true)
    (k_Place_seen : PySem.W.keepIn K (.ref f_Place_seen) = true)
    {f_Place_seen_mark : Addr} {od_Place_seen_mark an_Place_seen_mark : Option Addr} {sl_Place_seen_mark : Array (Option Value)} {oc_Place_seen_mark kv_Place_seen_mark dc_Place_seen_mark pm_Place_seen_mark cd_Place_seen_mark ct_Place_seen_mark : Value}
    (m_Place_seen_mark : PySem.W.findIn K (.ref cQ) "seen_mark" = some (some (.ref f_Place_seen_mark)))
    (i_Place_seen_mark : PySem.W.isFn K (.ref f_Place_seen_mark) = true)
    (l_Place_seen_mark : K.lookup f_Place_seen_mark = some ⟨oc_Place_seen_mark, od_Place_seen_mark, .func (PySem.W.fnOf "seen_mark" "Place.seen_mark" (defArgs s_Place_seen_mark) (defBody s_Place_seen_mark) (defScope s_Place_seen_mark) .none kv_Place_seen_mark dc_Place_seen_mark pm_Place_seen_mark an_Place_seen_mark cd_Place_seen_mark ct_Place_seen_mark), sl_Place_seen_mark⟩)
    (c_Place_seen_mark : PySem.W.codeIn K cd_Place_seen_mark "Place.seen_mark" = true)
    (k_Place_seen_mark : PySem.W.keepIn K (.ref f_Place_seen_mark) = true)
    {f_Place_take : Addr} {od_Place_take an_Place_take : Option Addr} {sl_Place_take : Array (Option Value)} {oc_Place_take kv_Place_take dc_Place_take pm_Place_take cd_Place_take ct_Place_take : Value}
    (m_Place_take : PySem.W.findIn K (.ref cQ) "_take" = some (some (.ref f_Place_take)))
    (i_Place_take : PySem.W.isFn K (.ref f_Place_take) = true)
    (l_Place_take : K.lookup f_Place_take = some ⟨oc_Place_take, od_Place_take, .func (PySem.W.fnOf "_take" "Place._take" (defArgs s_Place_take) (defBody s_Place_take) (defScope s_Place_take) .none kv_Place_take dc_Place_take pm_Place_take an_Place_take cd_Place_take ct_Place_take), sl_Place_take⟩)
    (c_Place_take : PySem.W.codeIn K cd_Place_take "Place._take" = true)
    (k_Place_take : PySem.W.keepIn K (.ref f_Place_take) = true)
    {f_Place_lay : Addr} {od_Place_lay an_Place_lay : Option Addr} {sl_Place_lay : Array (Option Value)} {oc_Place_lay kv_Place_lay dc_Place_lay pm_Place_lay cd_Place_lay ct_Place_lay : Value}
    (m_Place_lay : PySem.W.findIn K (.ref cQ) "lay" = some (some (.ref f_Place_lay)))
    (i_Place_lay : PySem.W.isFn K (.ref f_Place_lay) = true)
    (gf_Place_lay : PySem.W.specialIn K (.ref f_Place_lay) "__get__" = some (some (.builtin "function.__get__")))
    (tk_Place_lay : PySem.W.takesIn K (.ref f_Place_lay) = some false)
    (fi_Place_lay : PySem.W.fnIn K f_Place_lay = true)
    (l_Place_lay : K.lookup f_Place_lay = some ⟨oc_Place_lay, od_Place_lay, .func (PySem.W.fnOf "lay" "Place.lay" (defArgs s_Place_lay) (defBody s_Place_lay) (defScope s_Place_lay) .none kv_Place_lay dc_Place_lay pm_Place_lay an_Place_lay cd_Place_lay ct_Place_lay), sl_Place_lay⟩)
    (c_Place_lay : PySem.W.codeIn K cd_Place_lay "Place.lay" = true)
    (k_Place_lay : PySem.W.keepIn K (.ref f_Place_lay) = true)
    {f_Place_wash : Addr} {od_Place_wash an_Place_wash : Option Addr} {sl_Place_wash : Array (Option Value)} {oc_Place_wash kv_Place_wash dc_Place_wash pm_Place_wash cd_Place_wash ct_Place_wash : Value}
    (m_Place_wash : PySem.W.findIn K (.ref cQ) "wash" = some (some (.ref f_Place_wash)))
    (i_Place_wash : PySem.W.isFn K (.ref f_Place_wash) = true)
    (l_Place_wash : K.lookup f_Place_wash = some ⟨oc_Place_wash, od_Place_wash, .func (PySem.W.fnOf "wash" "Place.wash" (defArgs s_Place_wash) (defBody s_Place_wash) (defScope s_Place_wash) .none kv_Place_wash dc_Place_wash pm_Place_wash an_Place_wash cd_Place_wash ct_Place_wash), sl_Place_wash⟩)
    (c_Place_wash : PySem.W.codeIn K cd_Place_wash "Place.wash" = true)
    (k_Place_wash : PySem.W.keepIn K (.ref f_Place_wash) = true)
    {f_Place_press : Addr} {od_Place_press an_Place_press : Option Addr} {sl_Place_press : Array (Option Value)} {oc_Place_press kv_Place_press dc_Place_press pm_Place_press cd_Place_press ct_Place_press : Value}
    (m_Place_press : PySem.W.findIn K (.ref cQ) "press" = some (some (.ref f_Place_press)))
    (i_Place_press : PySem.W.isFn K (.ref f_Place_press) = true)
    (l_Place_press : K.lookup f_Place_press = some ⟨oc_Place_press, od_Place_press, .func (PySem.W.fnOf "press" "Place.press" (defArgs s_Place_press) (defBody s_Place_press) (defScope s_Place_press) .none kv_Place_press dc_Place_press pm_Place_press an_Place_press cd_Place_press ct_Place_press), sl_Place_press⟩)
    (c_Place_press : PySem.W.codeIn K cd_Place_press "Place.press" = true)
    (k_Place_press : PySem.W.keepIn K (.ref f_Place_press) = true)
    {f_at : Addr} {od_at an_at : Option Addr} {sl_at : Array (Option Value)} {oc_at kv_at dc_at pm_at cd_at ct_at : Value}
    (a_at : PySem.W.nsIn K mainGlobals "_law_at" = some (some (.ref f_at)))
    (l_at : K.lookup f_at = some ⟨oc_at, od_at, .func (PySem.W.fnOf "_law_at" "_law_at" (defArgs s_at) (defBody s_at) (defScope s_at) .none kv_at dc_at pm_at an_at cd_at ct_at), sl_at⟩)
    (c_at : PySem.W.codeIn K cd_at "_law_at" = true)
    (k_at : PySem.W.keepIn K (.ref f_at) = true)
    {f_pot : Addr} {od_pot an_pot : Option Addr} {sl_pot : Array (Option Value)} {oc_pot kv_pot dc_pot pm_pot cd_pot ct_pot : Value}
    (a_pot : PySem.W.nsIn K mainGlobals "_law_pot" = some (some (.ref f_pot)))
    (l_pot : K.lookup f_pot = some ⟨oc_pot, od_pot, .func (PySem.W.fnOf "_law_pot" "_law_pot" (defArgs s_pot) (defBody s_pot) (defScope s_pot) .none kv_pot dc_pot pm_pot an_pot cd_pot ct_pot), sl_pot⟩)
    (c_pot : PySem.W.codeIn K cd_pot "_law_pot" = true)
    (k_pot : PySem.W.keepIn K (.ref f_pot) = true)
    {f_take : Addr} {od_take an_take : Option Addr} {sl_take : Array (Option Value)} {oc_take kv_take dc_take pm_take cd_take ct_take : Value}
    (a_take : PySem.W.nsIn K mainGlobals "_law_take" = some (some (.ref f_take)))
    (l_take : K.lookup f_take = some ⟨oc_take, od_take, .func (PySem.W.fnOf "_law_take" "_law_take" (defArgs s_take) (defBody s_take) (defScope s_take) .none kv_take dc_take pm_take an_take cd_take ct_take), sl_take⟩)
    (c_take : PySem.W.codeIn K cd_take "_law_take" = true)
    (k_take : PySem.W.keepIn K (.ref f_take) = true)
    {f_word : Addr} {od_word an_word : Option Addr} {sl_word : Array (Option Value)} {oc_word kv_word dc_word pm_word cd_word ct_word : Value}
    (a_word : PySem.W.nsIn K mainGlobals "_law_word" = some (some (.ref f_word)))
    (l_word : K.lookup f_word = some ⟨oc_word, od_word, .func (PySem.W.fnOf "_law_word" "_law_word" (defArgs s_word) (defBody s_word) (defScope s_word) .none kv_word dc_word pm_word an_word cd_word ct_word), sl_word⟩)
    (c_word : PySem.W.codeIn K cd_word "_law_word" = true)
    (k_word : PySem.W.keepIn K (.ref f_word) = true)
    {f_words : Addr} {od_words an_words : Option Addr} {sl_words : Array (Option Value)} {oc_words kv_words dc_words pm_words cd_words ct_words : Value}
    (a_words : PySem.W.nsIn K mainGlobals "_law_words" = some (some (.ref f_words)))
    (l_words : K.lookup f_words = some ⟨oc_words, od_words, .func (PySem.W.fnOf "_law_words" "_law_words" (defArgs s_words) (defBody s_words) (defScope s_words) .none kv_words dc_words pm_words an_words cd_words ct_words), sl_words⟩)
    (c_words : PySem.W.codeIn K cd_words "_law_words" = true)
    (k_words : PySem.W.keepIn K (.ref f_words) = true)
    {f_amount : Addr} {od_amount an_amount : Option Addr} {sl_amount : Array (Option Value)} {oc_amount kv_amount dc_amount pm_amount cd_amount ct_amount : Value}
    (a_amount : PySem.W.nsIn K mainGlobals "_law_amount" = some (some (.ref f_amount)))
    (l_amount : K.lookup f_amount = some ⟨oc_amount, od_amount, .func (PySem.W.fnOf "_law_amount" "_law_amount" (defArgs s_amount) (defBody s_amount) (defScope s_amount) .none kv_amount dc_amount pm_amount an_amount cd_amount ct_amount), sl_amount⟩)
    (c_amount : PySem.W.codeIn K cd_amount "_law_amount" = true)
    (k_amount : PySem.W.keepIn K (.ref f_amount) = true)
    {f_inks : Addr} {od_inks an_inks : Option Addr} {sl_inks : Array (Option Value)} {oc_inks kv_inks dc_inks pm_inks cd_inks ct_inks : Value}
    (a_inks : PySem.W.nsIn K mainGlobals "_law_inks" = some (some (.ref f_inks)))
    (l_inks : K.lookup f_inks = some ⟨oc_inks, od_inks, .func (PySem.W.fnOf "_law_inks" "_law_inks" (defArgs s_inks) (defBody s_inks) (defScope s_inks) .none kv_inks dc_inks pm_inks an_inks cd_inks ct_inks), sl_inks⟩)
    (c_inks : PySem.W.codeIn K cd_inks "_law_inks" = true)
    (k_inks : PySem.W.keepIn K (.ref f_inks) = true)
    {f_model : Addr} {od_model an_model : Option Addr} {sl_model : Array (Option Value)} {oc_model kv_model dc_model pm_model cd_model ct_model : Value}
    (a_model : PySem.W.nsIn K mainGlobals "_law_model" = some (some (.ref f_model)))
    (l_model : K.lookup f_model = some ⟨oc_model, od_model, .func (PySem.W.fnOf "_law_model" "_law_model" (defArgs s_model) (defBody s_model) (defScope s_model) .none kv_model dc_model pm_model an_model cd_model ct_model), sl_model⟩)
    (c_model : PySem.W.codeIn K cd_model "_law_model" = true)
    (k_model : PySem.W.keepIn K (.ref f_model) = true)
    {f_put : Addr} {od_put an_put : Option Addr} {sl_put : Array (Option Value)} {oc_put kv_put dc_put pm_put cd_put ct_put : Value}
    (a_put : PySem.W.nsIn K mainGlobals "_law_put" = some (some (.ref f_put)))
    (l_put : K.lookup f_put = some ⟨oc_put, od_put, .func (PySem.W.fnOf "_law_put" "_law_put" (defArgs s_put) (defBody s_put) (defScope s_put) .none kv_put dc_put pm_put an_put cd_put ct_put), sl_put⟩)
    (c_put : PySem.W.codeIn K cd_put "_law_put" = true)
    (k_put : PySem.W.keepIn K (.ref f_put) = true)
    {f_lfirst : Addr} {od_lfirst an_lfirst : Option Addr} {sl_lfirst : Array (Option Value)} {oc_lfirst kv_lfirst dc_lfirst pm_lfirst cd_lfirst ct_lfirst : Value}
    (a_lfirst : PySem.W.nsIn K mainGlobals "_law_first" = some (some (.ref f_lfirst)))
    (l_lfirst : K.lookup f_lfirst = some ⟨oc_lfirst, od_lfirst, .func (PySem.W.fnOf "_law_first" "_law_first" (defArgs s_lfirst) (defBody s_lfirst) (defScope s_lfirst) .none kv_lfirst dc_lfirst pm_lfirst an_lfirst cd_lfirst ct_lfirst), sl_lfirst⟩)
    (c_lfirst : PySem.W.codeIn K cd_lfirst "_law_first" = true)
    (k_lfirst : PySem.W.keepIn K (.ref f_lfirst) = true)
    {f_top : Addr} {od_top an_top : Option Addr} {sl_top : Array (Option Value)} {oc_top kv_top dc_top pm_top cd_top ct_top : Value}
    (a_top : PySem.W.nsIn K mainGlobals "_law_top" = some (some (.ref f_top)))
    (l_top : K.lookup f_top = some ⟨oc_top, od_top, .func (PySem.W.fnOf "_law_top" "_law_top" (defArgs s_top) (defBody s_top) (defScope s_top) .none kv_top dc_top pm_top an_top cd_top ct_top), sl_top⟩)
    (c_top : PySem.W.codeIn K cd_top "_law_top" = true)
    (k_top : PySem.W.keepIn K (.ref f_top) = true)
    {f_seen : Addr} {od_seen an_seen : Option Addr} {sl_seen : Array (Option Value)} {oc_seen kv_seen dc_seen pm_seen cd_seen ct_seen : Value}
    (a_seen : PySem.W.nsIn K mainGlobals "_law_seen" = some (some (.ref f_seen)))
    (l_seen : K.lookup f_seen = some ⟨oc_seen, od_seen, .func (PySem.W.fnOf "_law_seen" "_law_seen" (defArgs s_seen) (defBody s_seen) (defScope s_seen) .none kv_seen dc_seen pm_seen an_seen cd_seen ct_seen), sl_seen⟩)
    (c_seen : PySem.W.codeIn K cd_seen "_law_seen" = true)
    (k_seen : PySem.W.keepIn K (.ref f_seen) = true)
    {f_stands : Addr} {od_stands an_stands : Option Addr} {sl_stands : Array (Option Value)} {oc_stands kv_stands dc_stands pm_stands cd_stands ct_stands : Value}
    (a_stands : PySem.W.nsIn K mainGlobals "_law_stands" = some (some (.ref f_stands)))
    (l_stands : K.lookup f_stands = some ⟨oc_stands, od_stands, .func (PySem.W.fnOf "_law_stands" "_law_stands" (defArgs s_stands) (defBody s_stands) (defScope s_stands) .none kv_stands dc_stands pm_stands an_stands cd_stands ct_stands), sl_stands⟩)
    (c_stands : PySem.W.codeIn K cd_stands "_law_stands" = true)
    (k_stands : PySem.W.keepIn K (.ref f_stands) = true)
    {f_less : Addr} {od_less an_less : Option Addr} {sl_less : Array (Option Value)} {oc_less kv_less dc_less pm_less cd_less ct_less : Value}
    (a_less : PySem.W.nsIn K mainGlobals "_law_less" = some (some (.ref f_less)))
    (l_less : K.lookup f_less = some ⟨oc_less, od_less, .func (PySem.W.fnOf "_law_less" "_law_less" (defArgs s_less) (defBody s_less) (defScope s_less) .none kv_less dc_less pm_less an_less cd_less ct_less), sl_less⟩)
    (c_less : PySem.W.codeIn K cd_less "_law_less" = true)
    (k_less : PySem.W.keepIn K (.ref f_less) = true)
    {f_sort : Addr} {od_sort an_sort : Option Addr} {sl_sort : Array (Option Value)} {oc_sort kv_sort dc_sort pm_sort cd_sort ct_sort : Value}
    (a_sort : PySem.W.nsIn K mainGlobals "_law_sort" = some (some (.ref f_sort)))
    (l_sort : K.lookup f_sort = some ⟨oc_sort, od_sort, .func (PySem.W.fnOf "_law_sort" "_law_sort" (defArgs s_sort) (defBody s_sort) (defScope s_sort) .none kv_sort dc_sort pm_sort an_sort cd_sort ct_sort), sl_sort⟩)
    (c_sort : PySem.W.codeIn K cd_sort "_law_sort" = true)
    (k_sort : PySem.W.keepIn K (.ref f_sort) = true)
    {f_lpressed : Addr} {od_lpressed an_lpressed : Option Addr} {sl_lpressed : Array (Option Value)} {oc_lpressed kv_lpressed dc_lpressed pm_lpressed cd_lpressed ct_lpressed : Value}
    (a_lpressed : PySem.W.nsIn K mainGlobals "_law_pressed" = some (some (.ref f_lpressed)))
    (l_lpressed : K.lookup f_lpressed = some ⟨oc_lpressed, od_lpressed, .func (PySem.W.fnOf "_law_pressed" "_law_pressed" (defArgs s_lpressed) (defBody s_lpressed) (defScope s_lpressed) .none kv_lpressed dc_lpressed pm_lpressed an_lpressed cd_lpressed ct_lpressed), sl_lpressed⟩)
    (c_lpressed : PySem.W.codeIn K cd_lpressed "_law_pressed" = true)
    (k_lpressed : PySem.W.keepIn K (.ref f_lpressed) = true)
    {f_other_inks : Addr} {od_other_inks an_other_inks : Option Addr} {sl_other_inks : Array (Option Value)} {oc_other_inks kv_other_inks dc_other_inks pm_other_inks cd_other_inks ct_other_inks : Value}
    (a_other_inks : PySem.W.nsIn K mainGlobals "_law_other_inks" = some (some (.ref f_other_inks)))
    (l_other_inks : K.lookup f_other_inks = some ⟨oc_other_inks, od_other_inks, .func (PySem.W.fnOf "_law_other_inks" "_law_other_inks" (defArgs s_other_inks) (defBody s_other_inks) (defScope s_other_inks) .none kv_other_inks dc_other_inks pm_other_inks an_other_inks cd_other_inks ct_other_inks), sl_other_inks⟩)
    (c_other_inks : PySem.W.codeIn K cd_other_inks "_law_other_inks" = true)
    (k_other_inks : PySem.W.keepIn K (.ref f_other_inks) = true)
    {f_is_refused : Addr} {od_is_refused an_is_refused : Option Addr} {sl_is_refused : Array (Option Value)} {oc_is_refused kv_is_refused dc_is_refused pm_is_refused cd_is_refused ct_is_refused : Value}
    (a_is_refused : PySem.W.nsIn K mainGlobals "_law_is_refused" = some (some (.ref f_is_refused)))
    (l_is_refused : K.lookup f_is_refused = some ⟨oc_is_refused, od_is_refused, .func (PySem.W.fnOf "_law_is_refused" "_law_is_refused" (defArgs s_is_refused) (defBody s_is_refused) (defScope s_is_refused) .none kv_is_refused dc_is_refused pm_is_refused an_is_refused cd_is_refused ct_is_refused), sl_is_refused⟩)
    (c_is_refused : PySem.W.codeIn K cd_is_refused "_law_is_refused" = true)
    (k_is_refused : PySem.W.keepIn K (.ref f_is_refused) = true)
    {f_step : Addr} {od_step an_step : Option Addr} {sl_step : Array (Option Value)} {oc_step kv_step dc_step pm_step cd_step ct_step : Value}
    (a_step : PySem.W.nsIn K mainGlobals "_law_step" = some (some (.ref f_step)))
    (l_step : K.lookup f_step = some ⟨oc_step, od_step, .func (PySem.W.fnOf "_law_step" "_law_step" (defArgs s_step) (defBody s_step) (defScope s_step) .none kv_step dc_step pm_step an_step cd_step ct_step), sl_step⟩)
    (c_step : PySem.W.codeIn K cd_step "_law_step" = true)
    (k_step : PySem.W.keepIn K (.ref f_step) = true)
    {f_law : Addr} {od_law an_law : Option Addr} {sl_law : Array (Option Value)} {oc_law kv_law dc_law pm_law cd_law ct_law : Value}
    (a_law : PySem.W.nsIn K mainGlobals "law" = some (some (.ref f_law)))
    (l_law : K.lookup f_law = some ⟨oc_law, od_law, .func (PySem.W.fnOf "law" "law" (defArgs s_law) (defBody s_law) (defScope s_law) .none kv_law dc_law pm_law an_law cd_law ct_law), sl_law⟩)
    (c_law : PySem.W.codeIn K cd_law "law" = true)
    (k_law : PySem.W.keepIn K (.ref f_law) = true)
    (z_len : PySem.W.nsIn K mainGlobals "len" = some none)
    (z_max : PySem.W.nsIn K mainGlobals "max" = some none)
    (z_min : PySem.W.nsIn K mainGlobals "min" = some none)
    (z_abs : PySem.W.nsIn K mainGlobals "abs" = some none)
    (z_divmod : PySem.W.nsIn K mainGlobals "divmod" = some none)
    (z_range : PySem.W.nsIn K mainGlobals "range" = some none)
    (z_tuple : PySem.W.nsIn K mainGlobals "tuple" = some none)
    (z_list : PySem.W.nsIn K mainGlobals "list" = some none)
    (z_all : PySem.W.nsIn K mainGlobals "all" = some none)
    (z_repr : PySem.W.nsIn K mainGlobals "repr" = some none)
    (z_sorted : PySem.W.nsIn K mainGlobals "sorted" = some none)
    (z_enumerate : PySem.W.nsIn K mainGlobals "enumerate" = some none)
    (z_isinstance : PySem.W.nsIn K mainGlobals "isinstance" = some none)
    (z_int : PySem.W.nsIn K mainGlobals "int" = some none)
    (z_str : PySem.W.nsIn K mainGlobals "str" = some none)
    (z_bool : PySem.W.nsIn K mainGlobals "bool" = some none)
    (z_zip : PySem.W.nsIn K mainGlobals "zip" = some none)
    (z_dict : PySem.W.nsIn K mainGlobals "dict" = some none)
    {tk_letters : Tok}
    (g_letters : PySem.W.nsIn K mainGlobals "_LETTERS" = some (some (.str "abcdefghijklmnopqrstuvwxyz" tk_letters)))
    {tk_mostL : Tok}
    (g_mostL : PySem.W.nsIn K mainGlobals "_MOST_LETTERS" = some (some (.int 8 tk_mostL)))
    {tk_inks : Tok}
    (g_inks : PySem.W.nsIn K mainGlobals "MOST_INKS" = some (some (.int 8 tk_inks)))
    {tk_wear : Tok}
    (g_wear : PySem.W.nsIn K mainGlobals "MOST_WEAR" = some (some (.int 6 tk_wear)))
    {tk_one : Tok}
    (g_one : PySem.W.nsIn K mainGlobals "WEAR" = some (some (.int 3 tk_one)))
    {esK : Array DictEntry} {nK : Nat}
    (aK : PySem.W.nsIn K mainGlobals "_KINDS" = some (some (.ref kd)))
    (lK : K.lookup kd = some ⟨.type "dict", none, .dict esK nK, #[]⟩)
    (kL : PySem.W.KeysLit w.params esK.toList)
    {tt_lay : Addr} {to_lay : Option Addr} {tn_lay : Nat} {ts_lay : Array (Option Value)} {tk0_lay : Tok} {tk1_lay : Tok} {tk2_lay : Tok}
    (v_lay : PySem.W.nsIn K kd "lay" = some (some (.ref tt_lay)))
    (t_lay : K.lookup tt_lay = some ⟨.type "tuple", to_lay, .seq #[.str "ink" tk0_lay, .str "tag" tk1_lay, .str "amount" tk2_lay] tn_lay, ts_lay⟩)
    {tt_wait : Addr} {to_wait : Option Addr} {tn_wait : Nat} {ts_wait : Array (Option Value)} {tk0_wait : Tok}
    (v_wait : PySem.W.nsIn K kd "wait" = some (some (.ref tt_wait)))
    (t_wait : K.lookup tt_wait = some ⟨.type "tuple", to_wait, .seq #[.str "amount" tk0_wait] tn_wait, ts_wait⟩)
    {tt_wash : Addr} {to_wash : Option Addr} {tn_wash : Nat} {ts_wash : Array (Option Value)} {tk0_wash : Tok} {tk1_wash : Tok}
    (v_wash : PySem.W.nsIn K kd "wash" = some (some (.ref tt_wash)))
    (t_wash : K.lookup tt_wash = some ⟨.type "tuple", to_wash, .seq #[.str "ink" tk0_wash, .str "amount" tk1_wash] tn_wash, ts_wash⟩)
    {tt_warm : Addr} {to_warm : Option Addr} {tn_warm : Nat} {ts_warm : Array (Option Value)} {tk0_warm : Tok} {tk1_warm : Tok}
    (v_warm : PySem.W.nsIn K kd "warm" = some (some (.ref tt_warm)))
    (t_warm : K.lookup tt_warm = some ⟨.type "tuple", to_warm, .seq #[.str "ink" tk0_warm, .str "amount" tk1_warm] tn_warm, ts_warm⟩)
    {tt_scrape : Addr} {to_scrape : Option Addr} {tn_scrape : Nat} {ts_scrape : Array (Option Value)} 
    (v_scrape : PySem.W.nsIn K kd "scrape" = some (some (.ref tt_scrape)))
    (t_scrape : K.lookup tt_scrape = some ⟨.type "tuple", to_scrape, .seq #[] tn_scrape, ts_scrape⟩)
    {tt_rub : Addr} {to_rub : Option Addr} {tn_rub : Nat} {ts_rub : Array (Option Value)} {tk0_rub : Tok}
    (v_rub : PySem.W.nsIn K kd "rub" = some (some (.ref tt_rub)))
    (t_rub : K.lookup tt_rub = some ⟨.type "tuple", to_rub, .seq #[.str "amount" tk0_rub] tn_rub, ts_rub⟩)
    : ∃ fd : FuncData, (∀ (s : Shared) (v : Value), BindsTo s fd ⟨[v], []⟩ [("_law_script", v)]) ∧ ∀ base : Heap, K.In base → base.Ns mainGlobals mg → GOk l.prog w K mg base CX0 10 fa fd ["_law_script"] (spLaw K) := by
  have same := hfa.symm.trans (PySem.W.mg_of X G a_law)
  cases same
  have M : Blt mg := { len := PySem.W.mg_none_of X G z_len, max := PySem.W.mg_none_of X G z_max, min := PySem.W.mg_none_of X G z_min, abs := PySem.W.mg_none_of X G z_abs, divmod := PySem.W.mg_none_of X G z_divmod, range := PySem.W.mg_none_of X G z_range, tuple := PySem.W.mg_none_of X G z_tuple, list := PySem.W.mg_none_of X G z_list, all := PySem.W.mg_none_of X G z_all, repr := PySem.W.mg_none_of X G z_repr, sorted := PySem.W.mg_none_of X G z_sorted, enumerate := PySem.W.mg_none_of X G z_enumerate, isinstance := PySem.W.mg_none_of X G z_isinstance, int := PySem.W.mg_none_of X G z_int, str := PySem.W.mg_none_of X G z_str, bool := PySem.W.mg_none_of X G z_bool, zip := PySem.W.mg_none_of X G z_zip, dict := PySem.W.mg_none_of X G z_dict }
  have GS : Gs mg := { letters := ⟨_, PySem.W.mg_of X G g_letters⟩, mostL := ⟨_, PySem.W.mg_of X G g_mostL⟩, inks := ⟨_, PySem.W.mg_of X G g_inks⟩, wear := ⟨_, PySem.W.mg_of X G g_wear⟩, one := ⟨_, PySem.W.mg_of X G g_one⟩ }
  have cl_Palette : Cls K cP := ⟨pg_Palette, hd_Palette, po_Palette, sa_Palette⟩
  have TPalette : TPal K mg cP := { cl := cl_Palette, n_made := n_Palette_made, n_fades := n_Palette_fades, ins := ⟨cl_Palette, iha_Palette, ihn_Palette, ihk_Palette, ihm_Palette, if_pos (beq_self_eq_true _)⟩ }
  have gPalette := PySem.W.mg_of X G aC_Palette
  have cl_Place : Cls K cQ := ⟨pg_Place, hd_Place, po_Place, sa_Place⟩
  have TPlace : TPlc K mg cQ := { cl := cl_Place, n_palette := n_Place_palette, n_wear := n_Place_wear, n_ground := n_Place_ground, n_next_mark := n_Place_next_mark }
  have gPlace := PySem.W.mg_of X G aC_Place
  have D : TKd K w mg kd := by
    refine ⟨PySem.W.mg_of X G aK, ?_⟩
    intro z ks e
    unfold kindsOf at e
    have tp : ∀ {t : Addr} {o : Option Addr} {n : Nat} {sl : Array (Option Value)} {vs : Array Value} {ks : List Str}, K.lookup t = some ⟨.type "tuple", o, .seq vs n, sl⟩ → vs.size ≤ 3 → Vals (ks.map V.str) vs.toList → ∀ H, SqT K H t (ks.map V.str) := fun h h3 r H => .inr ⟨_, _, _, h, rfl, rfl, Nat.le_trans h3 (by decide), r⟩
    by_cases e0 : z = "lay"
    · rw [if_pos e0] at e
      cases e
      rw [e0]
      exact ⟨tt_lay, ⟨esK, nK, _, lK, kL, v_lay, rfl⟩, tp t_lay (Nat.le_of_ble_eq_true rfl) (.cons ⟨_, rfl⟩ (.cons ⟨_, rfl⟩ (.cons ⟨_, rfl⟩ .nil)))⟩
    by_cases e1 : z = "wait"
    · rw [if_neg e0, if_pos e1] at e
      cases e
      rw [e1]
      exact ⟨tt_wait, ⟨esK, nK, _, lK, kL, v_wait, rfl⟩, tp t_wait (Nat.le_of_ble_eq_true rfl) (.cons ⟨_, rfl⟩ .nil)⟩
    by_cases e2 : z = "wash"
    · rw [if_neg e0, if_neg e1, if_pos e2] at e
      cases e
      rw [e2]
      exact ⟨tt_wash, ⟨esK, nK, _, lK, kL, v_wash, rfl⟩, tp t_wash (Nat.le_of_ble_eq_true rfl) (.cons ⟨_, rfl⟩ (.cons ⟨_, rfl⟩ .nil))⟩
    by_cases e3 : z = "warm"
    · rw [if_neg e0, if_neg e1, if_neg e2, if_pos e3] at e
      cases e
      rw [e3]
      exact ⟨tt_warm, ⟨esK, nK, _, lK, kL, v_warm, rfl⟩, tp t_warm (Nat.le_of_ble_eq_true rfl) (.cons ⟨_, rfl⟩ (.cons ⟨_, rfl⟩ .nil))⟩
    by_cases e4 : z = "scrape"
    · rw [if_neg e0, if_neg e1, if_neg e2, if_neg e3, if_pos e4] at e
      cases e
      rw [e4]
      exact ⟨tt_scrape, ⟨esK, nK, _, lK, kL, v_scrape, rfl⟩, tp t_scrape (Nat.le_of_ble_eq_true rfl) .nil⟩
    by_cases e5 : z = "rub"
    · rw [if_neg e0, if_neg e1, if_neg e2, if_neg e3, if_neg e4, if_pos e5] at e
      cases e
      rw [e5]
      exact ⟨tt_rub, ⟨esK, nK, _, lK, kL, v_rub, rfl⟩, tp t_rub (Nat.le_of_ble_eq_true rfl) (.cons ⟨_, rfl⟩ .nil)⟩
    rw [if_neg e0, if_neg e1, if_neg e2, if_neg e3, if_neg e4, if_neg e5] at e
    cases e
  have wcl : (PySem.W.clsIn K cW).isSome = true := by obtain ⟨_, hc, _⟩ := PySem.W.any_some whd; rw [hc]; rfl
  have oxW : OxC K cW := ⟨⟨"RuntimeError", _, _, _, PySem.F.excBase_RuntimeError, PySem.F.store_RuntimeError, wi, wo⟩, wsa, wsb, wty, wkp, whd⟩
  have gW := PySem.W.mg_of X G aW
  have TW : TWorn K mg cW fW := ⟨oxW, wat, win, wft, gW, PySem.W.exm_ref wsb whd wty wss⟩
  have FW : FunD K "__init__" "Worn.__init__" (defArgs s_Worn_init) (defBody s_Worn_init) (defScope s_Worn_init) [.int 0] [] fW _ := ⟨⟨_, _, _, _, _, _, _, _, _, _, rfl, wl, wc, .inr ⟨by simp, tW, _, [.int 0 tkW], tnW, rfl, wd, rfl, .cons ⟨_, rfl⟩ .nil⟩, .inl rfl⟩, wk⟩
  obtain ⟨dsW, vsW, bsW⟩ := FW.binds1 (ps := ["self", "at"]) 1 0 (by simp) rfl (fun T kV doc pm an cdv ct us its h1 h2 => match us, its, h1, h2 with | [_], [_], _, _ => ⟨_, rfl, rfl⟩)
  have ucl : (PySem.W.clsIn K cU).isSome = true := by obtain ⟨_, hc, _⟩ := PySem.W.any_some uhd; rw [hc]; rfl
  have gU := PySem.W.mg_of X G uaU
  have TU : TUnl K mg cU := ⟨uex, gU, ukp, usb, uty⟩
  have TE : TErrU K mg cU := { pin := ⟨ucl, uga, ugt, usb, uca, usp, utk, umr⟩, Unlike := ⟨cU, gU, if_pos (beq_self_eq_true _)⟩, Worn := ⟨cW, gW, kiWorn⟩, NoInk := ⟨_, PySem.W.mg_of X G gaNoInk, kiNoInk⟩, NoTag := ⟨_, PySem.W.mg_of X G gaNoTag, kiNoTag⟩, NoAmount := ⟨_, PySem.W.mg_of X G gaNoAmount, kiNoAmount⟩, NoWear := ⟨_, PySem.W.mg_of X G gaNoWear, kiNoWear⟩, NoDeed := ⟨_, PySem.W.mg_of X G gaNoDeed, kiNoDeed⟩, NoPalette := ⟨_, PySem.W.mg_of X G gaNoPalette, kiNoPalette⟩, NoPlaces := ⟨_, PySem.W.mg_of X G gaNoPlaces, kiNoPlaces⟩, NoText := ⟨_, PySem.W.mg_of X G gaNoText, kiNoText⟩, NoRow := ⟨_, PySem.W.mg_of X G gaNoRow, kiNoRow⟩, NoBook := ⟨_, PySem.W.mg_of X G gaNoBook, kiNoBook⟩, Halted := ⟨_, PySem.W.mg_of X G gaHalted, kiHalted⟩, NoLayer := ⟨_, PySem.W.mg_of X G gaNoLayer, kiNoLayer⟩, NoName := ⟨_, PySem.W.mg_of X G gaNoName, kiNoName⟩, FadeError := ⟨_, PySem.W.mg_of X G gaFadeError, kiFadeError⟩, ValueError := PySem.W.mg_none_of X G zbValueError, kValueError := kbValueError, LookupError := PySem.W.mg_none_of X G zbLookupError, kLookupError := kbLookupError, ArithmeticError := PySem.W.mg_none_of X G zbArithmeticError, kArithmeticError := kbArithmeticError, RuntimeError := PySem.W.mg_none_of X G zbRuntimeError, kRuntimeError := kbRuntimeError }
  have TR : TRef K mg cU := { FadeError := ⟨_, PySem.W.mg_of X G gaFadeError, PySem.W.exm_ref xbFadeError xdFadeError xtFadeError xsFadeError⟩, NoInk := ⟨_, PySem.W.mg_of X G gaNoInk, PySem.W.exm_ref xbNoInk xdNoInk xtNoInk xsNoInk⟩, NoAmount := ⟨_, PySem.W.mg_of X G gaNoAmount, PySem.W.exm_ref xbNoAmount xdNoAmount xtNoAmount xsNoAmount⟩, Worn := ⟨_, gW, PySem.W.exm_ref wsb whd wty xsWorn⟩ }
  have F_is_whole := fun_mk (st := s_is_whole) l_is_whole c_is_whole k_is_whole
  have b_is_whole := F_is_whole.binds (ps := ["thing"]) fun _ _ _ _ _ _ us hl => match us, hl with | [_], _ => rfl
  have F_is_name := fun_mk (st := s_is_name) l_is_name c_is_name k_is_name
  have b_is_name := F_is_name.binds (ps := ["thing"]) fun _ _ _ _ _ _ us hl => match us, hl with | [_], _ => rfl
  have F_is_amount := fun_mk (st := s_is_amount) l_is_amount c_is_amount k_is_amount
  have b_is_amount := F_is_amount.binds (ps := ["thing"]) fun _ _ _ _ _ _ us hl => match us, hl with | [_], _ => rfl
  have F_is_ink := fun_mk (st := s_is_ink) l_is_ink c_is_ink k_is_ink
  have b_is_ink := F_is_ink.binds (ps := ["thing"]) fun _ _ _ _ _ _ us hl => match us, hl with | [_], _ => rfl
  have F_Palette_init := fun_mk (st := s_Palette_init) l_Palette_init c_Palette_init k_Palette_init
  have b_Palette_init := F_Palette_init.binds (ps := ["self", "inks"]) fun _ _ _ _ _ _ us hl => match us, hl with | [_, _], _ => rfl
  have F_Palette_names := fun_mk (st := s_Palette_names) l_Palette_names c_Palette_names k_Palette_names
  have b_Palette_names := F_Palette_names.binds (ps := ["self"]) fun _ _ _ _ _ _ us hl => match us, hl with | [_], _ => rfl
  have F_Palette_inks := fun_mk (st := s_Palette_inks) l_Palette_inks c_Palette_inks k_Palette_inks
  have b_Palette_inks := F_Palette_inks.binds (ps := ["self"]) fun _ _ _ _ _ _ us hl => match us, hl with | [_], _ => rfl
  have F_Palette_has := fun_mk (st := s_Palette_has) l_Palette_has c_Palette_has k_Palette_has
  have b_Palette_has := F_Palette_has.binds (ps := ["self", "name"]) fun _ _ _ _ _ _ us hl => match us, hl with | [_, _], _ => rfl
  have F_Palette_fade := fun_mk (st := s_Palette_fade) l_Palette_fade c_Palette_fade k_Palette_fade
  have b_Palette_fade := F_Palette_fade.binds (ps := ["self", "name"]) fun _ _ _ _ _ _ us hl => match us, hl with | [_, _], _ => rfl
  have F_Palette_eq := fun_mk (st := s_Palette_eq) l_Palette_eq c_Palette_eq k_Palette_eq
  have b_Palette_eq := F_Palette_eq.binds (ps := ["self", "other"]) fun _ _ _ _ _ _ us hl => match us, hl with | [_, _], _ => rfl
  have F_refuse_unlike := fun_mk (st := s_refuse_unlike) l_refuse_unlike c_refuse_unlike k_refuse_unlike
  have b_refuse_unlike := F_refuse_unlike.binds (ps := ["one", "other"]) fun _ _ _ _ _ _ us hl => match us, hl with | [_, _], _ => rfl
  have F_wears := fun_mk (st := s_wears) l_wears c_wears k_wears
  have b_wears := F_wears.binds (ps := ["deed"]) fun _ _ _ _ _ _ us hl => match us, hl with | [_], _ => rfl
  have F_is_kind := fun_mk (st := s_is_kind) l_is_kind c_is_kind k_is_kind
  have b_is_kind := F_is_kind.binds (ps := ["item", "kind", "palette"]) fun _ _ _ _ _ _ us hl => match us, hl with | [_, _, _], _ => rfl
  have F_checked := fun_mk (st := s_checked) l_checked c_checked k_checked
  have b_checked := F_checked.binds (ps := ["deed", "palette"]) fun _ _ _ _ _ _ us hl => match us, hl with | [_, _], _ => rfl
  have F_ranked := fun_mk (st := s_ranked) l_ranked c_ranked k_ranked
  have b_ranked := F_ranked.binds (ps := ["row"]) fun _ _ _ _ _ _ us hl => match us, hl with | [_], _ => rfl
  have F_first := fun_mk (st := s_first) l_first c_first k_first
  have b_first := F_first.binds (ps := ["row"]) fun _ _ _ _ _ _ us hl => match us, hl with | [_], _ => rfl
  have F_left := fun_mk (st := s_left) l_left c_left k_left
  have b_left := F_left.binds (ps := ["layers"]) fun _ _ _ _ _ _ us hl => match us, hl with | [_], _ => rfl
  have F_weaker := fun_mk (st := s_weaker) l_weaker c_weaker k_weaker
  have b_weaker := F_weaker.binds (ps := ["row", "n"]) fun _ _ _ _ _ _ us hl => match us, hl with | [_, _], _ => rfl
  have F_stronger := fun_mk (st := s_stronger) l_stronger c_stronger k_stronger
  have b_stronger := F_stronger.binds (ps := ["row", "n"]) fun _ _ _ _ _ _ us hl => match us, hl with | [_, _], _ => rfl
  have F_rubbed := fun_mk (st := s_rubbed) l_rubbed c_rubbed k_rubbed
  have b_rubbed := F_rubbed.binds (ps := ["row", "n"]) fun _ _ _ _ _ _ us hl => match us, hl with | [_, _], _ => rfl
  have F_scraped := fun_mk (st := s_scraped) l_scraped c_scraped k_scraped
  have b_scraped := F_scraped.binds (ps := ["row"]) fun _ _ _ _ _ _ us hl => match us, hl with | [_], _ => rfl
  have F_bare_ground := fun_mk (st := s_bare_ground) l_bare_ground c_bare_ground k_bare_ground
  have b_bare_ground := F_bare_ground.binds (ps := ["palette"]) fun _ _ _ _ _ _ us hl => match us, hl with | [_], _ => rfl
  have F_seen_on := fun_mk (st := s_seen_on) l_seen_on c_seen_on k_seen_on
  have b_seen_on := F_seen_on.binds (ps := ["ground"]) fun _ _ _ _ _ _ us hl => match us, hl with | [_], _ => rfl
  have F_wear_behind := fun_mk (st := s_wear_behind) l_wear_behind c_wear_behind k_wear_behind
  have b_wear_behind := F_wear_behind.binds (ps := ["wear", "ground", "deed"]) fun _ _ _ _ _ _ us hl => match us, hl with | [_, _, _], _ => rfl
  have F_row_behind := fun_mk (st := s_row_behind) l_row_behind c_row_behind k_row_behind
  have b_row_behind := F_row_behind.binds (ps := ["row", "word", "rest"]) fun _ _ _ _ _ _ us hl => match us, hl with | [_, _, _], _ => rfl
  have F_ground_behind := fun_mk (st := s_ground_behind) l_ground_behind c_ground_behind k_ground_behind
  have b_ground_behind := F_ground_behind.binds (ps := ["ground", "palette", "deed"]) fun _ _ _ _ _ _ us hl => match us, hl with | [_, _, _], _ => rfl
  have F_pressed := fun_mk (st := s_pressed) l_pressed c_pressed k_pressed
  have b_pressed := F_pressed.binds (ps := ["seen"]) fun _ _ _ _ _ _ us hl => match us, hl with | [_], _ => rfl
  have F_checked_wear := fun_mk (st := s_checked_wear) l_checked_wear c_checked_wear k_checked_wear
  have b_checked_wear := F_checked_wear.binds (ps := ["thing"]) fun _ _ _ _ _ _ us hl => match us, hl with | [_], _ => rfl
  have F_Place_init := fun_mk (st := s_Place_init) l_Place_init c_Place_init k_Place_init
  have F_Place_palette := fun_mk (st := s_Place_palette) l_Place_palette c_Place_palette k_Place_palette
  have b_Place_palette := F_Place_palette.binds (ps := ["self"]) fun _ _ _ _ _ _ us hl => match us, hl with | [_], _ => rfl
  have F_Place_wear := fun_mk (st := s_Place_wear) l_Place_wear c_Place_wear k_Place_wear
  have b_Place_wear := F_Place_wear.binds (ps := ["self"]) fun _ _ _ _ _ _ us hl => match us, hl with | [_], _ => rfl
  have F_Place_marked_row := fun_mk (st := s_Place_marked_row) l_Place_marked_row c_Place_marked_row k_Place_marked_row
  have b_Place_marked_row := F_Place_marked_row.binds (ps := ["self", "ink"]) fun _ _ _ _ _ _ us hl => match us, hl with | [_, _], _ => rfl
  have F_Place_row := fun_mk (st := s_Place_row) l_Place_row c_Place_row k_Place_row
  have b_Place_row := F_Place_row.binds (ps := ["self", "ink"]) fun _ _ _ _ _ _ us hl => match us, hl with | [_, _], _ => rfl
  have F_Place_marks := fun_mk (st := s_Place_marks) l_Place_marks c_Place_marks k_Place_marks
  have b_Place_marks := F_Place_marks.binds (ps := ["self", "ink"]) fun _ _ _ _ _ _ us hl => match us, hl with | [_, _], _ => rfl
  have F_Place_seen := fun_mk (st := s_Place_seen) l_Place_seen c_Place_seen k_Place_seen
  have b_Place_seen := F_Place_seen.binds (ps := ["self"]) fun _ _ _ _ _ _ us hl => match us, hl with | [_], _ => rfl
  have F_Place_seen_mark := fun_mk (st := s_Place_seen_mark) l_Place_seen_mark c_Place_seen_mark k_Place_seen_mark
  have b_Place_seen_mark := F_Place_seen_mark.binds (ps := ["self"]) fun _ _ _ _ _ _ us hl => match us, hl with | [_], _ => rfl
  have F_Place_take := fun_mk (st := s_Place_take) l_Place_take c_Place_take k_Place_take
  have b_Place_take := F_Place_take.binds (ps := ["self", "deed"]) fun _ _ _ _ _ _ us hl => match us, hl with | [_, _], _ => rfl
  have F_Place_lay := fun_mk (st := s_Place_lay) l_Place_lay c_Place_lay k_Place_lay
  have b_Place_lay := F_Place_lay.binds (ps := ["self", "ink", "tag", "strength"]) fun _ _ _ _ _ _ us hl => match us, hl with | [_, _, _, _], _ => rfl
  have F_Place_wash := fun_mk (st := s_Place_wash) l_Place_wash c_Place_wash k_Place_wash
  have b_Place_wash := F_Place_wash.binds (ps := ["self", "ink", "n"]) fun _ _ _ _ _ _ us hl => match us, hl with | [_, _, _], _ => rfl
  have F_Place_press := fun_mk (st := s_Place_press) l_Place_press c_Place_press k_Place_press
  have b_Place_press := F_Place_press.binds (ps := ["self", "other"]) fun _ _ _ _ _ _ us hl => match us, hl with | [_, _], _ => rfl
  have F_at := fun_mk (st := s_at) l_at c_at k_at
  have b_at := F_at.binds (ps := ["_law_script", "_law_k"]) fun _ _ _ _ _ _ us hl => match us, hl with | [_, _], _ => rfl
  have F_pot := fun_mk (st := s_pot) l_pot c_pot k_pot
  have b_pot := F_pot.binds (ps := ["_law_cell"]) fun _ _ _ _ _ _ us hl => match us, hl with | [_], _ => rfl
  have F_take := fun_mk (st := s_take) l_take c_take k_take
  have b_take := F_take.binds (ps := ["_law_pot_here", "_law_many"]) fun _ _ _ _ _ _ us hl => match us, hl with | [_, _], _ => rfl
  have F_word := fun_mk (st := s_word) l_word c_word k_word
  have b_word := F_word.binds (ps := ["_law_pot_here", "_law_found"]) fun _ _ _ _ _ _ us hl => match us, hl with | [_, _], _ => rfl
  have F_words := fun_mk (st := s_words) l_words c_words k_words
  have b_words := F_words.binds (ps := ["_law_pot_here", "_law_many"]) fun _ _ _ _ _ _ us hl => match us, hl with | [_, _], _ => rfl
  have F_amount := fun_mk (st := s_amount) l_amount c_amount k_amount
  have b_amount := F_amount.binds (ps := ["_law_pot_here"]) fun _ _ _ _ _ _ us hl => match us, hl with | [_], _ => rfl
  have F_inks := fun_mk (st := s_inks) l_inks c_inks k_inks
  have b_inks := F_inks.binds (ps := ["_law_pot_here", "_law_most"]) fun _ _ _ _ _ _ us hl => match us, hl with | [_, _], _ => rfl
  have F_model := fun_mk (st := s_model) l_model c_model k_model
  have b_model := F_model.binds (ps := ["_law_inks_here", "_law_lives"]) fun _ _ _ _ _ _ us hl => match us, hl with | [_, _], _ => rfl
  have F_put := fun_mk (st := s_put) l_put c_put k_put
  have b_put := F_put.binds (ps := ["_law_model_here", "_law_ink", "_law_tag", "_law_strength"]) fun _ _ _ _ _ _ us hl => match us, hl with | [_, _, _, _], _ => rfl
  have F_lfirst := fun_mk (st := s_lfirst) l_lfirst c_lfirst k_lfirst
  have b_lfirst := F_lfirst.binds (ps := ["_law_row"]) fun _ _ _ _ _ _ us hl => match us, hl with | [_], _ => rfl
  have F_top := fun_mk (st := s_top) l_top c_top k_top
  have b_top := F_top.binds (ps := ["_law_model_here"]) fun _ _ _ _ _ _ us hl => match us, hl with | [_], _ => rfl
  have F_seen := fun_mk (st := s_seen) l_seen c_seen k_seen
  have b_seen := F_seen.binds (ps := ["_law_model_here"]) fun _ _ _ _ _ _ us hl => match us, hl with | [_], _ => rfl
  have F_stands := fun_mk (st := s_stands) l_stands c_stands k_stands
  have b_stands := F_stands.binds (ps := ["_law_place", "_law_model_here"]) fun _ _ _ _ _ _ us hl => match us, hl with | [_, _], _ => rfl
  have F_less := fun_mk (st := s_less) l_less c_less k_less
  have b_less := F_less.binds (ps := ["_law_model_here", "_law_ink", "_law_n"]) fun _ _ _ _ _ _ us hl => match us, hl with | [_, _, _], _ => rfl
  have F_sort := fun_mk (st := s_sort) l_sort c_sort k_sort
  have b_sort := F_sort.binds (ps := ["_law_e"]) fun _ _ _ _ _ _ us hl => match us, hl with | [_], _ => rfl
  have F_lpressed := fun_mk (st := s_lpressed) l_lpressed c_lpressed k_lpressed
  have b_lpressed := F_lpressed.binds (ps := ["_law_model_here", "_law_other"]) fun _ _ _ _ _ _ us hl => match us, hl with | [_, _], _ => rfl
  have F_other_inks := fun_mk (st := s_other_inks) l_other_inks c_other_inks k_other_inks
  have b_other_inks := F_other_inks.binds (ps := ["_law_pot_here", "_law_inks_here"]) fun _ _ _ _ _ _ us hl => match us, hl with | [_, _], _ => rfl
  have F_is_refused := fun_mk (st := s_is_refused) l_is_refused c_is_refused k_is_refused
  have b_is_refused := F_is_refused.binds (ps := ["_law_one", "_law_other"]) fun _ _ _ _ _ _ us hl => match us, hl with | [_, _], _ => rfl
  have F_step := fun_mk (st := s_step) l_step c_step k_step
  have b_step := F_step.binds (ps := ["_law_pot_here", "_law_places", "_law_models", "_law_tags"]) fun _ _ _ _ _ _ us hl => match us, hl with | [_, _, _, _], _ => rfl
  have F_law := fun_mk (st := s_law) l_law c_law k_law
  refine ⟨PySem.W.fnOf "law" "law" (defArgs s_law) (defBody s_law) (defScope s_law) .none kv_law dc_law pm_law an_law cd_law ct_law, fun s v => .of_eq rfl, fun base _ _ => ?_⟩
  have h_is_whole : Has l.prog w K mg base "is_whole" 1 ["thing"] _ := ⟨_, _, ok_is_whole F_is_whole M, PySem.W.mg_of X G a_is_whole, F_is_whole.kp, b_is_whole⟩
  have h_is_name : Has l.prog w K mg base "is_name" 1 ["thing"] _ := ⟨_, _, ok_is_name F_is_name M GS, PySem.W.mg_of X G a_is_name, F_is_name.kp, b_is_name⟩
  have h_is_amount : Has l.prog w K mg base "is_amount" 2 ["thing"] _ := ⟨_, _, ok_is_amount F_is_amount M ⟨h_is_whole⟩, PySem.W.mg_of X G a_is_amount, F_is_amount.kp, b_is_amount⟩
  have h_is_ink : Has l.prog w K mg base "is_ink" 2 ["thing"] _ := ⟨_, _, ok_is_ink F_is_ink M ⟨⟨h_is_whole⟩, h_is_name⟩, PySem.W.mg_of X G a_is_ink, F_is_ink.kp, b_is_ink⟩
  have h_Palette_init : HasI l.prog w K mg base "Palette" cP 3 ["self", "inks"] _ := ⟨_, _, ok_Palette_init F_Palette_init M GS TPalette ⟨h_is_ink⟩, ⟨mk_Palette, m_Palette_init, i_Palette_init, kc_Palette⟩, b_Palette_init, gPalette⟩
  have h_Palette_names : HasM l.prog w K mg base cP "names" 1 ["self"] _ := ⟨_, _, ok_Palette_names F_Palette_names M TPalette, ⟨m_Palette_names, i_Palette_names, k_Palette_names⟩, b_Palette_names⟩
  have h_Palette_inks : HasM l.prog w K mg base cP "inks" 1 ["self"] _ := ⟨_, _, ok_Palette_inks F_Palette_inks M TPalette, ⟨m_Palette_inks, i_Palette_inks, k_Palette_inks⟩, b_Palette_inks⟩
  have h_Palette_has : HasM l.prog w K mg base cP "has" 2 ["self", "name"] _ := ⟨_, _, ok_Palette_has F_Palette_has M TPalette ⟨⟨h_is_whole⟩, h_is_name⟩, ⟨m_Palette_has, i_Palette_has, k_Palette_has⟩, b_Palette_has⟩
  have h_Palette_fade : HasM l.prog w K mg base cP "fade" 3 ["self", "name"] _ := ⟨_, _, ok_Palette_fade F_Palette_fade M TPalette ⟨h_Palette_has⟩, ⟨m_Palette_fade, i_Palette_fade, k_Palette_fade⟩, b_Palette_fade⟩
  have h_Palette_eq : HasO l.prog w K mg base cP 1 _ := ⟨_, _, ok_Palette_eq F_Palette_eq M TPalette gPalette, ⟨ne_Palette, m_Palette_eq, i_Palette_eq, ihm_Palette⟩, b_Palette_eq⟩
  have h_refuse_unlike : HasX l.prog w K mg base "refuse_unlike" 3 ["one", "other"] _ := ⟨_, _, ok_refuse_unlike F_refuse_unlike M TU ⟨h_Palette_eq⟩, PySem.W.mg_of X G a_refuse_unlike, F_refuse_unlike.kp, b_refuse_unlike⟩
  have h_wears : Has l.prog w K mg base "wears" 1 ["deed"] _ := ⟨_, _, ok_wears F_wears M, PySem.W.mg_of X G a_wears, F_wears.kp, b_wears⟩
  have h_is_kind : Has l.prog w K mg base "_is_kind" 3 ["item", "kind", "palette"] _ := ⟨_, _, ok_is_kind F_is_kind M TPalette ⟨⟨h_Palette_has⟩, ⟨⟨h_is_whole⟩, h_is_name⟩, h_is_amount⟩, PySem.W.mg_of X G a_is_kind, F_is_kind.kp, b_is_kind⟩
  have h_checked : Has l.prog w K mg base "checked" 4 ["deed", "palette"] _ := ⟨_, _, ok_checked F_checked M D ⟨h_is_kind⟩, PySem.W.mg_of X G a_checked, F_checked.kp, b_checked⟩
  have h_ranked : Has l.prog w K mg base "ranked" 1 ["row"] _ := ⟨_, _, ok_ranked F_ranked M, PySem.W.mg_of X G a_ranked, F_ranked.kp, b_ranked⟩
  have h_first : Has l.prog w K mg base "first" 2 ["row"] _ := ⟨_, _, ok_first F_first M ⟨h_ranked⟩, PySem.W.mg_of X G a_first, F_first.kp, b_first⟩
  have h_left : Has l.prog w K mg base "_left" 1 ["layers"] _ := ⟨_, _, ok_left F_left M, PySem.W.mg_of X G a_left, F_left.kp, b_left⟩
  have h_weaker : Has l.prog w K mg base "weaker" 2 ["row", "n"] _ := ⟨_, _, ok_weaker F_weaker M ⟨h_left⟩, PySem.W.mg_of X G a_weaker, F_weaker.kp, b_weaker⟩
  have h_stronger : Has l.prog w K mg base "stronger" 1 ["row", "n"] _ := ⟨_, _, ok_stronger F_stronger M, PySem.W.mg_of X G a_stronger, F_stronger.kp, b_stronger⟩
  have h_rubbed : Has l.prog w K mg base "rubbed" 3 ["row", "n"] _ := ⟨_, _, ok_rubbed F_rubbed M ⟨h_left, h_first⟩, PySem.W.mg_of X G a_rubbed, F_rubbed.kp, b_rubbed⟩
  have h_scraped : Has l.prog w K mg base "scraped" 3 ["row"] _ := ⟨_, _, ok_scraped F_scraped M ⟨h_left, h_first⟩, PySem.W.mg_of X G a_scraped, F_scraped.kp, b_scraped⟩
  have h_bare_ground : Has l.prog w K mg base "bare_ground" 2 ["palette"] _ := ⟨_, _, ok_bare_ground F_bare_ground M TPalette ⟨h_Palette_names⟩, PySem.W.mg_of X G a_bare_ground, F_bare_ground.kp, b_bare_ground⟩
  have h_seen_on : Has l.prog w K mg base "seen_on" 3 ["ground"] _ := ⟨_, _, ok_seen_on F_seen_on M ⟨h_first⟩, PySem.W.mg_of X G a_seen_on, F_seen_on.kp, b_seen_on⟩
  have h_wear_behind : HasX l.prog w K mg base "wear_behind" 4 ["wear", "ground", "deed"] _ := ⟨_, _, ok_wear_behind F_wear_behind M TW { wears := h_wears, seen_on := h_seen_on, worn := ⟨_, dsW, ok_Worn_init FW, vsW, bsW⟩ }, PySem.W.mg_of X G a_wear_behind, F_wear_behind.kp, b_wear_behind⟩
  have h_row_behind : Has l.prog w K mg base "_row_behind" 4 ["row", "word", "rest"] _ := ⟨_, _, ok_row_behind F_row_behind M ⟨h_weaker, h_stronger, h_rubbed, h_scraped⟩, PySem.W.mg_of X G a_row_behind, F_row_behind.kp, b_row_behind⟩
  have h_ground_behind : Has l.prog w K mg base "ground_behind" 5 ["ground", "palette", "deed"] _ := ⟨_, _, ok_ground_behind F_ground_behind M TPalette ⟨⟨h_wears, h_seen_on⟩, h_row_behind, h_weaker, h_Palette_fade⟩, PySem.W.mg_of X G a_ground_behind, F_ground_behind.kp, b_ground_behind⟩
  have h_pressed : Has l.prog w K mg base "pressed" 1 ["seen"] _ := ⟨_, _, ok_pressed F_pressed M, PySem.W.mg_of X G a_pressed, F_pressed.kp, b_pressed⟩
  have h_checked_wear : Has l.prog w K mg base "checked_wear" 2 ["thing"] _ := ⟨_, _, ok_checked_wear F_checked_wear M GS ⟨h_is_whole⟩, PySem.W.mg_of X G a_checked_wear, F_checked_wear.kp, b_checked_wear⟩
  have h_Place_init : HasW l.prog w K mg base "Place" cQ 1 ["wear"] 3 ["self", "palette", "wear"] _ := ⟨_, _, ok_Place_init F_Place_init M TPlace ⟨h_checked_wear, h_bare_ground⟩, ⟨mk_Place, m_Place_init, i_Place_init, kc_Place⟩, ⟨fun s us ws _ hu hw => match us, ws, hu, hw with | [a0, a1], [b0], _, _ => .of_eq rfl, fun r1 r2 => r1.append r2⟩, gPlace⟩
  have h_Place_palette : HasM l.prog w K mg base cQ "palette" 1 ["self"] _ := ⟨_, _, ok_Place_palette F_Place_palette (cP := cP) M TPlace, ⟨m_Place_palette, i_Place_palette, k_Place_palette⟩, b_Place_palette⟩
  have h_Place_wear : HasM l.prog w K mg base cQ "wear" 1 ["self"] _ := ⟨_, _, ok_Place_wear F_Place_wear (cP := cP) M TPlace, ⟨m_Place_wear, i_Place_wear, k_Place_wear⟩, b_Place_wear⟩
  have h_Place_marked_row : HasM l.prog w K mg base cQ "_marked_row" 3 ["self", "ink"] _ := ⟨_, _, ok_Place_marked_row F_Place_marked_row M TPalette TPlace ⟨h_Palette_has⟩, ⟨m_Place_marked_row, i_Place_marked_row, k_Place_marked_row⟩, b_Place_marked_row⟩
  have h_Place_row : HasM l.prog w K mg base cQ "row" 4 ["self", "ink"] _ := ⟨_, _, ok_Place_row F_Place_row M TPlace ⟨h_Place_marked_row⟩, ⟨m_Place_row, i_Place_row, k_Place_row⟩, b_Place_row⟩
  have h_Place_marks : HasM l.prog w K mg base cQ "marks" 4 ["self", "ink"] _ := ⟨_, _, ok_Place_marks F_Place_marks M TPlace ⟨h_Place_marked_row⟩, ⟨m_Place_marks, i_Place_marks, k_Place_marks⟩, b_Place_marks⟩
  have h_Place_seen : HasM l.prog w K mg base cQ "seen" 4 ["self"] _ := ⟨_, _, ok_Place_seen F_Place_seen (cP := cP) M TPlace ⟨h_seen_on⟩, ⟨m_Place_seen, i_Place_seen, k_Place_seen⟩, b_Place_seen⟩
  have h_Place_seen_mark : HasM l.prog w K mg base cQ "seen_mark" 4 ["self"] _ := ⟨_, _, ok_Place_seen_mark F_Place_seen_mark (cP := cP) M TPlace ⟨h_seen_on⟩, ⟨m_Place_seen_mark, i_Place_seen_mark, k_Place_seen_mark⟩, b_Place_seen_mark⟩
  have h_Place_take : HasMX l.prog w K mg base cQ "_take" 6 ["self", "deed"] _ := ⟨_, _, ok_Place_takeX F_Place_take M TPlace ⟨h_wear_behind, h_ground_behind⟩, ⟨m_Place_take, i_Place_take, k_Place_take⟩, b_Place_take⟩
  have hc_Place_take : HasM l.prog w K mg base cQ "_take" 6 ["self", "deed"] _ := ⟨_, _, calm_take (ok_Place_takeX F_Place_take M TPlace ⟨h_wear_behind, h_ground_behind⟩), ⟨m_Place_take, i_Place_take, k_Place_take⟩, b_Place_take⟩
  have h_Place_lay : HasM l.prog w K mg base cQ "lay" 7 ["self", "ink", "tag", "strength"] _ := ⟨_, _, ok_Place_lay F_Place_lay M TPlace ⟨h_checked, hc_Place_take⟩, ⟨m_Place_lay, i_Place_lay, k_Place_lay⟩, b_Place_lay⟩
  have hb_Place_lay : HasB l.prog w K mg base cQ "lay" 7 _ := ⟨_, ((ok_Place_lay F_Place_lay M TPlace ⟨h_checked, hc_Place_take⟩).raw b_Place_lay .nil).imp (fun vs H Q E h => by rw [List.append_nil]; exact h), ⟨⟨m_Place_lay, i_Place_lay, k_Place_lay⟩, gf_Place_lay, tk_Place_lay, by decide, fi_Place_lay⟩⟩
  have h_Place_wash : HasM l.prog w K mg base cQ "wash" 7 ["self", "ink", "n"] _ := ⟨_, _, ok_Place_wash F_Place_wash M TPlace ⟨h_checked, hc_Place_take⟩, ⟨m_Place_wash, i_Place_wash, k_Place_wash⟩, b_Place_wash⟩
  have h_Place_press : HasMX l.prog w K mg base cQ "press" 8 ["self", "other"] _ := ⟨_, _, ok_Place_press F_Place_press M TPlace ⟨h_refuse_unlike, h_pressed, h_Place_palette, h_Place_seen, hb_Place_lay⟩, ⟨m_Place_press, i_Place_press, k_Place_press⟩, b_Place_press⟩
  have hc_Place_press : HasM l.prog w K mg base cQ "press" 8 ["self", "other"] _ := ⟨_, _, calm_press (ok_Place_press F_Place_press M TPlace ⟨h_refuse_unlike, h_pressed, h_Place_palette, h_Place_seen, hb_Place_lay⟩), ⟨m_Place_press, i_Place_press, k_Place_press⟩, b_Place_press⟩
  have h_at : Has l.prog w K mg base "_law_at" 1 ["_law_script", "_law_k"] _ := ⟨_, _, ok_at F_at M, PySem.W.mg_of X G a_at, F_at.kp, b_at⟩
  have h_pot : Has l.prog w K mg base "_law_pot" 1 ["_law_cell"] _ := ⟨_, _, ok_pot F_pot M, PySem.W.mg_of X G a_pot, F_pot.kp, b_pot⟩
  have h_take : Has l.prog w K mg base "_law_take" 1 ["_law_pot_here", "_law_many"] _ := ⟨_, _, ok_take F_take M, PySem.W.mg_of X G a_take, F_take.kp, b_take⟩
  have h_word : Has l.prog w K mg base "_law_word" 2 ["_law_pot_here", "_law_found"] _ := ⟨_, _, ok_word F_word M ⟨h_take⟩, PySem.W.mg_of X G a_word, F_word.kp, b_word⟩
  have h_words : Has l.prog w K mg base "_law_words" 3 ["_law_pot_here", "_law_many"] _ := ⟨_, _, ok_words F_words M ⟨h_word⟩, PySem.W.mg_of X G a_words, F_words.kp, b_words⟩
  have h_amount : Has l.prog w K mg base "_law_amount" 2 ["_law_pot_here"] _ := ⟨_, _, ok_amount F_amount M ⟨h_take⟩, PySem.W.mg_of X G a_amount, F_amount.kp, b_amount⟩
  have h_inks : Has l.prog w K mg base "_law_inks" 4 ["_law_pot_here", "_law_most"] _ := ⟨_, _, ok_inks F_inks M ⟨⟨h_take⟩, h_words⟩, PySem.W.mg_of X G a_inks, F_inks.kp, b_inks⟩
  have h_model : Has l.prog w K mg base "_law_model" 1 ["_law_inks_here", "_law_lives"] _ := ⟨_, _, ok_model2 F_model M, PySem.W.mg_of X G a_model, F_model.kp, b_model⟩
  have h_put : Has l.prog w K mg base "_law_put" 1 ["_law_model_here", "_law_ink", "_law_tag", "_law_strength"] _ := ⟨_, _, ok_put F_put M, PySem.W.mg_of X G a_put, F_put.kp, b_put⟩
  have h_lfirst : Has l.prog w K mg base "_law_first" 1 ["_law_row"] _ := ⟨_, _, ok_first' F_lfirst M, PySem.W.mg_of X G a_lfirst, F_lfirst.kp, b_lfirst⟩
  have h_top : Has l.prog w K mg base "_law_top" 2 ["_law_model_here"] _ := ⟨_, _, ok_ltop F_top M ⟨h_lfirst⟩, PySem.W.mg_of X G a_top, F_top.kp, b_top⟩
  have h_seen : Has l.prog w K mg base "_law_seen" 3 ["_law_model_here"] _ := ⟨_, _, ok_seen F_seen M ⟨h_top⟩, PySem.W.mg_of X G a_seen, F_seen.kp, b_seen⟩
  have h_stands : HasG l.prog w K mg base "_law_stands" 5 ["_law_place", "_law_model_here"] _ := ⟨_, _, ok_stands F_stands M TPlace ⟨h_seen, h_Place_row, h_Place_marks, h_Place_wear, h_Place_seen, h_Place_seen_mark⟩, PySem.W.mg_of X G a_stands, F_stands.kp, b_stands⟩
  have h_less : Has l.prog w K mg base "_law_less" 1 ["_law_model_here", "_law_ink", "_law_n"] _ := ⟨_, _, ok_less F_less M, PySem.W.mg_of X G a_less, F_less.kp, b_less⟩
  have h_sort : HasP l.prog w K mg base "_law_sort" 2 ["_law_e"] _ := ⟨_, _, ok_law_sort F_sort M TE, PySem.W.mg_of X G a_sort, F_sort.kp, b_sort⟩
  have h_lpressed : Has l.prog w K mg base "_law_pressed" 4 ["_law_model_here", "_law_other"] _ := ⟨_, _, ok_lpressed F_lpressed M ⟨h_put, h_seen⟩, PySem.W.mg_of X G a_lpressed, F_lpressed.kp, b_lpressed⟩
  have h_other_inks : Has l.prog w K mg base "_law_other_inks" 3 ["_law_pot_here", "_law_inks_here"] _ := ⟨_, _, ok_other_inks F_other_inks M ⟨⟨h_take⟩, h_word⟩, PySem.W.mg_of X G a_other_inks, F_other_inks.kp, b_other_inks⟩
  have h_is_refused : Has l.prog w K mg base "_law_is_refused" 9 ["_law_one", "_law_other"] _ := ⟨_, _, ok_is_refused F_is_refused M TPlace TR ⟨h_Place_press, h_sort⟩, PySem.W.mg_of X G a_is_refused, F_is_refused.kp, b_is_refused⟩
  have h_step : HasG l.prog w K mg base "_law_step" 9 ["_law_pot_here", "_law_places", "_law_models", "_law_tags"] _ := ⟨_, _, ok_step F_step M TPlace ⟨⟨h_take⟩, h_amount, h_put, h_less, h_lpressed, h_stands, h_Place_lay, h_Place_wash, hc_Place_press⟩, PySem.W.mg_of X G a_step, F_step.kp, b_step⟩
  have FD_Place_init : FunD K "__init__" "Place.__init__" (defArgs s_Place_init) (defBody s_Place_init) (defScope s_Place_init) [] [("wear", .int 3)] f_Place_init _ := ⟨⟨_, _, _, _, _, _, _, _, _, _, rfl, l_Place_init, c_Place_init, .inl ⟨rfl, rfl⟩, .inr ⟨kD_Place_init, rfl, fun q m => by rcases List.mem_cons.mp m with rfl | m; exact ⟨_, kw_Place_init_wear, ⟨_, rfl⟩⟩; cases m⟩⟩, k_Place_init⟩
  obtain ⟨ds_Place_init, vs_Place_init, bs_Place_init⟩ := FD_Place_init.binds0 (ps := ["self", "palette", "wear"]) 2 (by simp) rfl (fun D doc pm an cdv ct us ks h1 h2 => match us, ks, h1, h2 with | [_, _], [_], _, _ => ⟨_, _, _, _, _, _, rfl, rfl, rfl⟩)
  have hd_Place : HasID l.prog w K mg base "Place" cQ 3 ["self", "palette", "wear"] [.int 3] _ := ⟨_, _, ds_Place_init, ok_Place_init F_Place_init M TPlace ⟨h_checked_wear, h_bare_ground⟩, ⟨mk_Place, m_Place_init, i_Place_init, kc_Place⟩, vs_Place_init, bs_Place_init, gPlace⟩
  exact ok_law F_law M TPalette TPlace ⟨⟨h_take⟩, h_at, h_pot, h_words, h_inks, h_other_inks, h_model, h_step, h_is_refused, h_Palette_init, h_Place_init, hd_Place, h_Place_lay, h_Place_palette, h_Palette_names, h_Place_marks⟩
end Fl
open PySem PySem.W PyProof.Rows
set_option maxHeartbeats 0 in
theorem PySem.Challenge.cw_fadeleaf_k27_pressed_holds : PySem.Challenge.rw_fadeleaf_k27_pressed.Holds := by
  w_on; o_law; k_head; (case hw => w_witness2)
  k_fill
  refine Fd.walkG (l := PySem.Challenge.rw_fadeleaf_k27_pressed) (n := 63) (k := 10) (x := "_law_script") (sp := Fl.spLaw) rfl (by decide) rfl ⟨rfl, by decide, by decide⟩ (fun w h Y => PySem.W.kIn_of Y) ?F (fun K H a ns hl _ hS => ⟨a, ns, rfl, hS, hl, fun _ => rfl⟩)
  case F =>
    intro w mg fa h KX G hmg
    refine' Fl.all_mk w KX G hmg ?aW ?wi ?wo ?wsa ?wsb ?wty ?wkp ?whd ?wat ?win ?wft ?wl ?wc ?wk ?wd ?wss ?uaU ?uex ?ukp ?usb ?uty ?uhd ?uga ?ugt ?uca ?usp ?utk ?umr ?gaNoInk ?kiNoInk ?gaNoTag ?kiNoTag ?gaNoAmount ?kiNoAmount ?gaNoWear ?kiNoWear ?gaNoDeed ?kiNoDeed ?gaNoPalette ?kiNoPalette ?gaNoPlaces ?kiNoPlaces ?gaNoText ?kiNoText ?gaNoRow ?kiNoRow ?gaNoBook ?kiNoBook ?gaHalted ?kiHalted ?gaNoLayer ?kiNoLayer ?gaNoName ?kiNoName ?gaFadeError ?kiFadeError ?kiWorn ?zbValueError ?kbValueError ?zbLookupError ?kbLookupError ?zbArithmeticError ?kbArithmeticError ?zbRuntimeError ?kbRuntimeError ?xbFadeError ?xdFadeError ?xtFadeError ?xsFadeError ?xbNoInk ?xdNoInk ?xtNoInk ?xsNoInk ?xbNoAmount ?xdNoAmount ?xtNoAmount ?xsNoAmount ?xsWorn ?aC_Palette ?pg_Palette ?hd_Palette ?po_Palette ?sa_Palette ?mk_Palette ?kc_Palette ?n_Palette_made ?n_Palette_fades ?iha_Palette ?ihn_Palette ?ihk_Palette ?ihm_Palette ?aC_Place ?pg_Place ?hd_Place ?po_Place ?sa_Place ?mk_Place ?kc_Place ?n_Place_palette ?n_Place_wear ?n_Place_ground ?n_Place_next_mark ?ne_Palette ?a_is_whole ?l_is_whole ?c_is_whole ?k_is_whole ?a_is_name ?l_is_name ?c_is_name ?k_is_name ?a_is_amount ?l_is_amount ?c_is_amount ?k_is_amount ?a_is_ink ?l_is_ink ?c_is_ink ?k_is_ink ?m_Palette_init ?i_Palette_init ?l_Palette_init ?c_Palette_init ?k_Palette_init ?m_Palette_names ?i_Palette_names ?l_Palette_names ?c_Palette_names ?k_Palette_names ?m_Palette_inks ?i_Palette_inks ?l_Palette_inks ?c_Palette_inks ?k_Palette_inks ?m_Palette_has ?i_Palette_has ?l_Palette_has ?c_Palette_has ?k_Palette_has ?m_Palette_fade ?i_Palette_fade ?l_Palette_fade ?c_Palette_fade ?k_Palette_fade ?m_Palette_eq ?i_Palette_eq ?l_Palette_eq ?c_Palette_eq ?k_Palette_eq ?a_refuse_unlike ?l_refuse_unlike ?c_refuse_unlike ?k_refuse_unlike ?a_wears ?l_wears ?c_wears ?k_wears ?a_is_kind ?l_is_kind ?c_is_kind ?k_is_kind ?a_checked ?l_checked ?c_checked ?k_checked ?a_ranked ?l_ranked ?c_ranked ?k_ranked ?a_first ?l_first ?c_first ?k_first ?a_left ?l_left ?c_left ?k_left ?a_weaker ?l_weaker ?c_weaker ?k_weaker ?a_stronger ?l_stronger ?c_stronger ?k_stronger ?a_rubbed ?l_rubbed ?c_rubbed ?k_rubbed ?a_scraped ?l_scraped ?c_scraped ?k_scraped ?a_bare_ground ?l_bare_ground ?c_bare_ground ?k_bare_ground ?a_seen_on ?l_seen_on ?c_seen_on ?k_seen_on ?a_wear_behind ?l_wear_behind ?c_wear_behind ?k_wear_behind ?a_row_behind ?l_row_behind ?c_row_behind ?k_row_behind ?a_ground_behind ?l_ground_behind ?c_ground_behind ?k_ground_behind ?a_pressed ?l_pressed ?c_pressed ?k_pressed ?a_checked_wear ?l_checked_wear ?c_checked_wear ?k_checked_wear ?m_Place_init ?i_Place_init ?l_Place_init ?kw_Place_init_wear ?c_Place_init ?k_Place_init ?m_Place_palette ?i_Place_palette ?l_Place_palette ?c_Place_palette ?k_Place_palette ?m_Place_wear ?i_Place_wear ?l_Place_wear ?c_Place_wear ?k_Place_wear ?m_Place_marked_row ?i_Place_marked_row ?l_Place_marked_row ?c_Place_marked_row ?k_Place_marked_row ?m_Place_row ?i_Place_row ?l_Place_row ?c_Place_row ?k_Place_row ?m_Place_marks ?i_Place_marks ?l_Place_marks ?c_Place_marks ?k_Place_marks ?m_Place_seen ?i_Place_seen ?l_Place_seen ?c_Place_seen ?k_Place_seen ?m_Place_seen_mark ?i_Place_seen_mark ?l_Place_seen_mark ?c_Place_seen_mark ?k_Place_seen_mark ?m_Place_take ?i_Place_take ?l_Place_take ?c_Place_take ?k_Place_take ?m_Place_lay ?i_Place_lay ?gf_Place_lay ?tk_Place_lay ?fi_Place_lay ?l_Place_lay ?c_Place_lay ?k_Place_lay ?m_Place_wash ?i_Place_wash ?l_Place_wash ?c_Place_wash ?k_Place_wash ?m_Place_press ?i_Place_press ?l_Place_press ?c_Place_press ?k_Place_press ?a_at ?l_at ?c_at ?k_at ?a_pot ?l_pot ?c_pot ?k_pot ?a_take ?l_take ?c_take ?k_take ?a_word ?l_word ?c_word ?k_word ?a_words ?l_words ?c_words ?k_words ?a_amount ?l_amount ?c_amount ?k_amount ?a_inks ?l_inks ?c_inks ?k_inks ?a_model ?l_model ?c_model ?k_model ?a_put ?l_put ?c_put ?k_put ?a_lfirst ?l_lfirst ?c_lfirst ?k_lfirst ?a_top ?l_top ?c_top ?k_top ?a_seen ?l_seen ?c_seen ?k_seen ?a_stands ?l_stands ?c_stands ?k_stands ?a_less ?l_less ?c_less ?k_less ?a_sort ?l_sort ?c_sort ?k_sort ?a_lpressed ?l_lpressed ?c_lpressed ?k_lpressed ?a_other_inks ?l_other_inks ?c_other_inks ?k_other_inks ?a_is_refused ?l_is_refused ?c_is_refused ?k_is_refused ?a_step ?l_step ?c_step ?k_step ?a_law ?l_law ?c_law ?k_law ?z_len ?z_max ?z_min ?z_abs ?z_divmod ?z_range ?z_tuple ?z_list ?z_all ?z_repr ?z_sorted ?z_enumerate ?z_isinstance ?z_int ?z_str ?z_bool ?z_zip ?z_dict ?g_letters ?g_mostL ?g_inks ?g_wear ?g_one ?aK ?lK ?kL ?v_lay ?t_lay ?v_wait ?t_wait ?v_wash ?t_wash ?v_warm ?t_warm ?v_scrape ?t_scrape ?v_rub ?t_rub
    (case aW => k_is)
    (case wi => kx_is)
    (case wo => kx_is)
    (case wsa => k_is)
    (case wsb => k_is)
    (case wty => k_is)
    (case wkp => k_is)
    (case whd => k_is)
    (case wat => k_is)
    (case win => k_is)
    (case wft => k_is)
    (case wl => k_is)
    (case wc => k_is)
    (case wk => k_is)
    (case wd => k_is)
    (case wss => k_is)
    (case uaU => k_is)
    (case uex => k_exc)
    (case ukp => k_is)
    (case usb => k_is)
    (case uty => k_is)
    (case uhd => k_is)
    (case uga => k_is)
    (case ugt => k_is)
    (case uca => k_is)
    (case usp => k_is)
    (case utk => k_is)
    (case umr => k_is)
    (case gaNoInk => k_is)
    (case kiNoInk => kit_is)
    (case gaNoTag => k_is)
    (case kiNoTag => kit_is)
    (case gaNoAmount => k_is)
    (case kiNoAmount => kit_is)
    (case gaNoWear => k_is)
    (case kiNoWear => kit_is)
    (case gaNoDeed => k_is)
    (case kiNoDeed => kit_is)
    (case gaNoPalette => k_is)
    (case kiNoPalette => kit_is)
    (case gaNoPlaces => k_is)
    (case kiNoPlaces => kit_is)
    (case gaNoText => k_is)
    (case kiNoText => kit_is)
    (case gaNoRow => k_is)
    (case kiNoRow => kit_is)
    (case gaNoBook => k_is)
    (case kiNoBook => kit_is)
    (case gaHalted => k_is)
    (case kiHalted => kit_is)
    (case gaNoLayer => k_is)
    (case kiNoLayer => kit_is)
    (case gaNoName => k_is)
    (case kiNoName => kit_is)
    (case gaFadeError => k_is)
    (case kiFadeError => kit_is)
    (case kiWorn => kit_is)
    (case zbValueError => k_is)
    (case kbValueError => kit_is)
    (case zbLookupError => k_is)
    (case kbLookupError => kit_is)
    (case zbArithmeticError => k_is)
    (case kbArithmeticError => kit_is)
    (case zbRuntimeError => k_is)
    (case kbRuntimeError => kit_is)
    (case xbFadeError => k_is)
    (case xdFadeError => k_is)
    (case xtFadeError => k_is)
    (case xsFadeError => k_is)
    (case xbNoInk => k_is)
    (case xdNoInk => k_is)
    (case xtNoInk => k_is)
    (case xsNoInk => k_is)
    (case xbNoAmount => k_is)
    (case xdNoAmount => k_is)
    (case xtNoAmount => k_is)
    (case xsNoAmount => k_is)
    (case xsWorn => k_is)
    (case aC_Palette => k_is)
    (case pg_Palette => k_is)
    (case hd_Palette => k_is)
    (case po_Palette => k_is)
    (case sa_Palette => k_is)
    (case mk_Palette => k_is)
    (case kc_Palette => k_is)
    (case n_Palette_made => k_is)
    (case n_Palette_fades => k_is)
    (case iha_Palette => k_is)
    (case ihn_Palette => k_is)
    (case ihk_Palette => k_is)
    (case ihm_Palette => k_is)
    (case aC_Place => k_is)
    (case pg_Place => k_is)
    (case hd_Place => k_is)
    (case po_Place => k_is)
    (case sa_Place => k_is)
    (case mk_Place => k_is)
    (case kc_Place => k_is)
    (case n_Place_palette => k_is)
    (case n_Place_wear => k_is)
    (case n_Place_ground => k_is)
    (case n_Place_next_mark => k_is)
    (case ne_Palette => k_is)
    (case a_is_whole => k_is)
    (case l_is_whole => k_is)
    (case c_is_whole => k_is)
    (case k_is_whole => k_is)
    (case a_is_name => k_is)
    (case l_is_name => k_is)
    (case c_is_name => k_is)
    (case k_is_name => k_is)
    (case a_is_amount => k_is)
    (case l_is_amount => k_is)
    (case c_is_amount => k_is)
    (case k_is_amount => k_is)
    (case a_is_ink => k_is)
    (case l_is_ink => k_is)
    (case c_is_ink => k_is)
    (case k_is_ink => k_is)
    (case m_Palette_init => k_is)
    (case i_Palette_init => k_is)
    (case l_Palette_init => k_is)
    (case c_Palette_init => k_is)
    (case k_Palette_init => k_is)
    (case m_Palette_names => k_is)
    (case i_Palette_names => k_is)
    (case l_Palette_names => k_is)
    (case c_Palette_names => k_is)
    (case k_Palette_names => k_is)
    (case m_Palette_inks => k_is)
    (case i_Palette_inks => k_is)
    (case l_Palette_inks => k_is)
    (case c_Palette_inks => k_is)
    (case k_Palette_inks => k_is)
    (case m_Palette_has => k_is)
    (case i_Palette_has => k_is)
    (case l_Palette_has => k_is)
    (case c_Palette_has => k_is)
    (case k_Palette_has => k_is)
    (case m_Palette_fade => k_is)
    (case i_Palette_fade => k_is)
    (case l_Palette_fade => k_is)
    (case c_Palette_fade => k_is)
    (case k_Palette_fade => k_is)
    (case m_Palette_eq => k_is)
    (case i_Palette_eq => k_is)
    (case l_Palette_eq => k_is)
    (case c_Palette_eq => k_is)
    (case k_Palette_eq => k_is)
    (case a_refuse_unlike => k_is)
    (case l_refuse_unlike => k_is)
    (case c_refuse_unlike => k_is)
    (case k_refuse_unlike => k_is)
    (case a_wears => k_is)
    (case l_wears => k_is)
    (case c_wears => k_is)
    (case k_wears => k_is)
    (case a_is_kind => k_is)
    (case l_is_kind => k_is)
    (case c_is_kind => k_is)
    (case k_is_kind => k_is)
    (case a_checked => k_is)
    (case l_checked => k_is)
    (case c_checked => k_is)
    (case k_checked => k_is)
    (case a_ranked => k_is)
    (case l_ranked => k_is)
    (case c_ranked => k_is)
    (case k_ranked => k_is)
    (case a_first => k_is)
    (case l_first => k_is)
    (case c_first => k_is)
    (case k_first => k_is)
    (case a_left => k_is)
    (case l_left => k_is)
    (case c_left => k_is)
    (case k_left => k_is)
    (case a_weaker => k_is)
    (case l_weaker => k_is)
    (case c_weaker => k_is)
    (case k_weaker => k_is)
    (case a_stronger => k_is)
    (case l_stronger => k_is)
    (case c_stronger => k_is)
    (case k_stronger => k_is)
    (case a_rubbed => k_is)
    (case l_rubbed => k_is)
    (case c_rubbed => k_is)
    (case k_rubbed => k_is)
    (case a_scraped => k_is)
    (case l_scraped => k_is)
    (case c_scraped => k_is)
    (case k_scraped => k_is)
    (case a_bare_ground => k_is)
    (case l_bare_ground => k_is)
    (case c_bare_ground => k_is)
    (case k_bare_ground => k_is)
    (case a_seen_on => k_is)
    (case l_seen_on => k_is)
    (case c_seen_on => k_is)
    (case k_seen_on => k_is)
    (case a_wear_behind => k_is)
    (case l_wear_behind => k_is)
    (case c_wear_behind => k_is)
    (case k_wear_behind => k_is)
    (case a_row_behind => k_is)
    (case l_row_behind => k_is)
    (case c_row_behind => k_is)
    (case k_row_behind => k_is)
    (case a_ground_behind => k_is)
    (case l_ground_behind => k_is)
    (case c_ground_behind => k_is)
    (case k_ground_behind => k_is)
    (case a_pressed => k_is)
    (case l_pressed => k_is)
    (case c_pressed => k_is)
    (case k_pressed => k_is)
    (case a_checked_wear => k_is)
    (case l_checked_wear => k_is)
    (case c_checked_wear => k_is)
    (case k_checked_wear => k_is)
    (case m_Place_init => k_is)
    (case i_Place_init => k_is)
    (case l_Place_init => k_is)
    (case kw_Place_init_wear => k_is)
    (case c_Place_init => k_is)
    (case k_Place_init => k_is)
    (case m_Place_palette => k_is)
    (case i_Place_palette => k_is)
    (case l_Place_palette => k_is)
    (case c_Place_palette => k_is)
    (case k_Place_palette => k_is)
    (case m_Place_wear => k_is)
    (case i_Place_wear => k_is)
    (case l_Place_wear => k_is)
    (case c_Place_wear => k_is)
    (case k_Place_wear => k_is)
    (case m_Place_marked_row => k_is)
    (case i_Place_marked_row => k_is)
    (case l_Place_marked_row => k_is)
    (case c_Place_marked_row => k_is)
    (case k_Place_marked_row => k_is)
    (case m_Place_row => k_is)
    (case i_Place_row => k_is)
    (case l_Place_row => k_is)
    (case c_Place_row => k_is)
    (case k_Place_row => k_is)
    (case m_Place_marks => k_is)
    (case i_Place_marks => k_is)
    (case l_Place_marks => k_is)
    (case c_Place_marks => k_is)
    (case k_Place_marks => k_is)
    (case m_Place_seen => k_is)
    (case i_Place_seen => k_is)
    (case l_Place_seen => k_is)
    (case c_Place_seen => k_is)
    (case k_Place_seen => k_is)
    (case m_Place_seen_mark => k_is)
    (case i_Place_seen_mark => k_is)
    (case l_Place_seen_mark => k_is)
    (case c_Place_seen_mark => k_is)
    (case k_Place_seen_mark => k_is)
    (case m_Place_take => k_is)
    (case i_Place_take => k_is)
    (case l_Place_take => k_is)
    (case c_Place_take => k_is)
    (case k_Place_take => k_is)
    (case m_Place_lay => k_is)
    (case i_Place_lay => k_is)
    (case gf_Place_lay => k_is)
    (case tk_Place_lay => k_is)
    (case fi_Place_lay => k_is)
    (case l_Place_lay => k_is)
    (case c_Place_lay => k_is)
    (case k_Place_lay => k_is)
    (case m_Place_wash => k_is)
    (case i_Place_wash => k_is)
    (case l_Place_wash => k_is)
    (case c_Place_wash => k_is)
    (case k_Place_wash => k_is)
    (case m_Place_press => k_is)
    (case i_Place_press => k_is)
    (case l_Place_press => k_is)
    (case c_Place_press => k_is)
    (case k_Place_press => k_is)
    (case a_at => k_is)
    (case l_at => k_is)
    (case c_at => k_is)
    (case k_at => k_is)
    (case a_pot => k_is)
    (case l_pot => k_is)
    (case c_pot => k_is)
    (case k_pot => k_is)
    (case a_take => k_is)
    (case l_take => k_is)
    (case c_take => k_is)
    (case k_take => k_is)
    (case a_word => k_is)
    (case l_word => k_is)
    (case c_word => k_is)
    (case k_word => k_is)
    (case a_words => k_is)
    (case l_words => k_is)
    (case c_words => k_is)
    (case k_words => k_is)
    (case a_amount => k_is)
    (case l_amount => k_is)
    (case c_amount => k_is)
    (case k_amount => k_is)
    (case a_inks => k_is)
    (case l_inks => k_is)
    (case c_inks => k_is)
    (case k_inks => k_is)
    (case a_model => k_is)
    (case l_model => k_is)
    (case c_model => k_is)
    (case k_model => k_is)
    (case a_put => k_is)
    (case l_put => k_is)
    (case c_put => k_is)
    (case k_put => k_is)
    (case a_lfirst => k_is)
    (case l_lfirst => k_is)
    (case c_lfirst => k_is)
    (case k_lfirst => k_is)
    (case a_top => k_is)
    (case l_top => k_is)
    (case c_top => k_is)
    (case k_top => k_is)
    (case a_seen => k_is)
    (case l_seen => k_is)
    (case c_seen => k_is)
    (case k_seen => k_is)
    (case a_stands => k_is)
    (case l_stands => k_is)
    (case c_stands => k_is)
    (case k_stands => k_is)
    (case a_less => k_is)
    (case l_less => k_is)
    (case c_less => k_is)
    (case k_less => k_is)
    (case a_sort => k_is)
    (case l_sort => k_is)
    (case c_sort => k_is)
    (case k_sort => k_is)
    (case a_lpressed => k_is)
    (case l_lpressed => k_is)
    (case c_lpressed => k_is)
    (case k_lpressed => k_is)
    (case a_other_inks => k_is)
    (case l_other_inks => k_is)
    (case c_other_inks => k_is)
    (case k_other_inks => k_is)
    (case a_is_refused => k_is)
    (case l_is_refused => k_is)
    (case c_is_refused => k_is)
    (case k_is_refused => k_is)
    (case a_step => k_is)
    (case l_step => k_is)
    (case c_step => k_is)
    (case k_step => k_is)
    (case a_law => k_is)
    (case l_law => k_is)
    (case c_law => k_is)
    (case k_law => k_is)
    (case z_len => k_is)
    (case z_max => k_is)
    (case z_min => k_is)
    (case z_abs => k_is)
    (case z_divmod => k_is)
    (case z_range => k_is)
    (case z_tuple => k_is)
    (case z_list => k_is)
    (case z_all => k_is)
    (case z_repr => k_is)
    (case z_sorted => k_is)
    (case z_enumerate => k_is)
    (case z_isinstance => k_is)
    (case z_int => k_is)
    (case z_str => k_is)
    (case z_bool => k_is)
    (case z_zip => k_is)
    (case z_dict => k_is)
    (case g_letters => k_is)
    (case g_mostL => k_is)
    (case g_inks => k_is)
    (case g_wear => k_is)
    (case g_one => k_is)
    (case aK => k_is)
    (case lK => k_is)
    (case kL => exact ⟨⟨_, _, rfl, rfl⟩, ⟨_, _, rfl, rfl⟩, ⟨_, _, rfl, rfl⟩, ⟨_, _, rfl, rfl⟩, ⟨_, _, rfl, rfl⟩, ⟨_, _, rfl, rfl⟩, True.intro⟩)
    (case v_lay => k_is)
    (case t_lay => k_is)
    (case v_wait => k_is)
    (case t_wait => k_is)
    (case v_wash => k_is)
    (case t_wash => k_is)
    (case v_warm => k_is)
    (case t_warm => k_is)
    (case v_scrape => k_is)
    (case t_scrape => k_is)
    (case v_rub => k_is)
    (case t_rub => k_is)

