import PyProof.Rows.All
import Wide.All
import OpenK.AllK
import Wide.FinOn
import HandS.Base
import HandS.Call
import HandS.List
import HandS.Ends
import HandS.Words
import PyProof.ReprLen
import HandS.Comp
import HandS.Walk
import HandS.Conv
import HandS.WideBits
import HandS.Text
import KE.GoesEnum
import HandS.Iter
import HandS.SortRule
import HandS.IsInst
import HandS.WordsList
import HandS.SortInts
import HandS.TupAny
import KE.KSortTup
import HandS.SortOrd
import HandS.Dict
import HandS.NoneIn
import HandS.TupLe
import PySem.Challenge.RW_fadeleaf_k51_runs_joined
set_option Elab.async false
set_option linter.all false
set_option maxRecDepth 100000
namespace Fd
open PySem PySem.Spec PyProof.Rows L2
/-! A def's promise where it is known besides that no repr of a container is under way (the guards are none). -/
structure GOk (P : Program) (w : World) (K : PySem.W.Frag) (mg : Str → Option Value) (base : Heap) (CX : CXT)
    (k : Nat) (f : Addr) (fd : FuncData) (ps : List Str) (sp : Sp) : Prop where
  len : ∀ vs H Q E, sp vs H Q E → vs.length = ps.length
  run : ∀ (A : Around) (outer : List Env) (s : Shared) (H : Hp) (args : Args) (us : List Value) (vs : List V) (Q : VK) (E : XK),
    Room k A → A.guards = some [] → Env0 P w K mg base A outer s H → BindsTo s fd args (ps.zip us) → Vals vs us → sp vs H Q E →
    codeAny (model P w) A (.call (.ref f) args) (CR CX outer P w H s Q E) s
section
variable {P : Program} {w : World} {K : PySem.W.Frag} {mg : Str → Option Value} {base : Heap} {CX : CXT} {k : Nat}
theorem GOk.of {f : Addr} {fd : FuncData} {ps : List Str} {sp : Sp} (F : FnOk P w K mg base CX k f fd ps sp) :
    GOk P w K mg base CX k f fd ps sp :=
  ⟨F.len, fun A o s H args us vs Q E hr _ => F.run A o s H args us vs Q E hr⟩
theorem GOk.mono {j : Nat} {f : Addr} {fd : FuncData} {ps : List Str} {sp : Sp} (F : GOk P w K mg base CX j f fd ps sp) (h : j ≤ k) :
    GOk P w K mg base CX k f fd ps sp :=
  ⟨F.len, fun A o s H args us vs Q E hr => F.run A o s H args us vs Q E (hr.mono h)⟩
/-- a def by its body, the guards told -/
theorem okG {x qual : Str} {st : Stmt} {f : Addr} {fd : FuncData} {N ps : List Str} {sp : Sp} (F : Fun K x qual st f fd)
    (S : FnScope N ps (defScope st)) (len : ∀ vs H Q E, sp vs H Q E → vs.length = ps.length)
    (body : ∀ (cdv : Value) (A : Around) (outer : List Env) (s : Shared) (H : Hp) (vs : List V) (Q : VK) (E : XK),
      Room k (A.deeper (envOfC qual (defScope st) s.heap.objs.size f cdv)) →
      (A.deeper (envOfC qual (defScope st) s.heap.objs.size f cdv)).guards = some [] → sp vs H Q E →
      ∃ t, PSs (cxOf CX0 P w K mg base N qual (defScope st) f cdv A outer s H E).nox (defBody st) t ∧
        t { nx := fun _ H' => Q .non H', rt := Q } (start N vs) H) :
    GOk P w K mg base CX0 (k + 1) f fd ps sp := by
  obtain ⟨oc, od, kV, doc, pm, an, cdv, ct, osl, rfl, look, code⟩ := F.ex
  refine ⟨len, ?_⟩
  intro A outer s H args us vs Q E room gd e0 binds rel want
  have vl := len vs H Q E want
  have inK : K.In s.heap := e0.mod.kin.keeps fun b o q => (e0.bs b o q).1
  have nl : s.heap.NoLimit := e0.mod.nolimit.keeps fun b o q => (e0.bs b o q).1
  have kinds : ∀ y ∈ ps.zip us, (defScope st).names.lookup y.1 = some .local ∨ ((defScope st).names.lookup y.1 = some .cell ∧
      ((cellsFrom (s.heap.objs.size + 1) (defScope st).names []).lookup y.1).isSome = true) := by
    rintro ⟨n, u⟩ mem
    have inP : n ∈ ps := (List.of_mem_zip mem).1
    cases S.par n inP with
    | inl q => exact .inl q
    | inr q => exact .inr ⟨q, PySem.W.cellsFrom_some _ _ _ (.inl q)⟩
  refine codeAny_call_function room.depth (inK _ _ look) rfl S.co S.gen rfl (PySem.W.codeRec_of inK code) (binds _ _ _ _ ?_)
  refine wpAny_newFunctionEnv_cells S.kind kinds fun env ee s1 x => ?_
  subst ee
  refine ⟨nl.keeps x.toInCall.keep, codeAny_func ?_⟩
  obtain ⟨t, ht, hq⟩ := body cdv A outer s H vs Q E (room.deeper _) gd want
  have J := inv_start (CX := CX0) (E := E) S room.hd e0 vl rel x
  refine wpAny_mono ((ht.nox).run [] s1 _ H _ J hq) (fun fl s' told => ?_) fun e s' told => told
  match fl, told with
  | .ret u, ⟨v, σ', H', J', rv, q⟩ => exact ⟨v, H', J'.os, J'.bare, J'.base, J'.hok, rv, q⟩
  | .next, ⟨σ', H', J', q⟩ => exact ⟨.non, H', J'.os, J'.bare, J'.base, J'.hok, rfl, q⟩
  | .brk, ⟨_, _, _, q⟩ => exact q.elim
  | .cont, ⟨_, _, _, q⟩ => exact q.elim
end
section
variable {X : Cx} {CX : CXT} {k : Nat} {f : Addr} {fd : FuncData} {ps : List Str} {sp : Sp} {dvs : List V} {ds : List Value} {E : XK}
theorem runG {pins : List (Addr × Obj)} {σ : L2.St} {H : Hp} {s : Shared} {Q : VK} {us : List Value} {vs : List V}
    (F : GOk X.prog X.w X.K X.mg X.base CX k f fd ps sp) (hr : Room k X.A) (gd : X.A.guards = some []) (hb : Binds X.K fd ps ds) (hd : Vals dvs ds)
    (hx : Passes CX X E) (I : Inv X pins σ H s) (r : Vals vs us) (h : sp (vs ++ dvs) H Q E) :
    wpAny (model X.prog X.w) X.A (call (.ref f) us) (EP X pins σ Q) X.xe s := by
  have rr := r.append hd
  have ll : (us ++ ds).length = ps.length := rr.length.symm.trans (F.len _ _ _ _ h)
  have go := F.run X.A X.stack s H ⟨us, []⟩ (us ++ ds) (vs ++ dvs) Q E hr gd I.env0 (hb s us I.kIn ll) rr h
  refine wpAny_call (codeAny_mono go fun r s' told => ?_)
  match r, told with
  | .error e, told => exact hx pins σ H s e s' I told
  | .ok (.ret u), told => exact I.after told
  | .ok .next, told => exact False.elim told
  | .ok .brk, told => exact False.elim told
  | .ok .cont, told => exact False.elim told
/-- a call of such a def by its global name -/
theorem callG {x : Str} {p pos : Pos} {e : Expr} {es : List Expr} {t : TA} (F : GOk X.prog X.w X.K X.mg X.base CX k f fd ps sp) (hr : Room k X.A)
    (gd : X.A.guards = some []) (hg : Gl X x) (hm : X.mg x = some (.ref f)) (hk : PySem.W.keepIn X.K (.ref f) = true) (hb : Binds X.K fd ps ds)
    (hd : Vals dvs ds) (hx : Passes CX X E) (ha : PA X (e :: es) t) (hdb : (x == ("__debug__" : Str)) = false := by decide)
    (he : starEach (e :: es) X.env = (false, eval e X.env) :: starEach es X.env := by rfl)
    (hpl : (backTo pos (starEach es X.env)).any (·.1) = false := by rfl) :
    PE X (.Call (.Name x p) (e :: es) [] pos) (tCall sp dvs E t) :=
  ⟨fun pins s σ H Q I h => wpAny_Call_Name_kw (ld_glob I hg hm
    (PySem.W.callWith_K (h₀ := X.base) I.ok.mod.kin hk
      (thn (ha.run pos pins s σ H _ I h) fun us s1 ⟨vs, H1, I1, r, q⟩ => ⟨I1.kIn, runG F hr gd hb hd hx I1 r q⟩) he hpl) hdb)⟩
end
end Fd

namespace Fd
open PySem PySem.Spec PyProof.Rows L2
/-! The law's own call, from such a promise of the law's def. -/
section
variable {P : Program} {w : World} {K : PySem.W.Frag} {mg mb : Str → Option Value} {k : Nat} {fa a : Addr} {fd : FuncData} {x : Str} {sp : Sp}
  {s : Shared} {vs : List Value} {ns : List Int}
/-- what stands in the heap but is not tracked, as the base -/
theorem lawFrom (KX : K.In s.heap) (gl : s.heap.Ns mainGlobals mg) (bl : s.heap.Ns builtinsNs mb) (bb : ∀ y : Str, y ≠ "__name__" → mb y = bootBuiltins y)
    (lim : s.heap.NoLimit) (gens : s.gens = #[]) (obj : s.heap.get? a = some { cls := .type "list", data := .seq vs.toArray }) (rm : Room k callerA)
    (F : ∀ base : Heap, K.In base → base.Ns mainGlobals mg → GOk P w K mg base CX0 k fa fd [x] sp)
    (bd : ∀ (t : Shared) (u : Value), BindsTo t fd ⟨[u], []⟩ [(x, u)])
    (H : Hp) (only : Only H) (ok : HOk P w H s.heap) (just : ∀ b, H b ≠ none → b = a) (away : H a ≠ none → K.lookup a = none)
    (want : sp [.ref a] H (fun v _ => v = .bl true) E0) :
    codeAny (model P w) callerA (.call (.ref fa) ⟨[.ref a], []⟩) (fun r s' => r = .ok (.ret (.bool true)) ∧ OldK s.heap s'.heap ∧ s'.os = s.os ∧ AllBare s'.gens) s := by
  have at_a : ∀ {b : Addr}, H b ≠ none → b = a := fun {b} => just b
  have free_dict : ∀ {b : Addr} {o : Obj} {es : Array DictEntry} {ep : Nat}, s.heap.get? b = some o → o.data = .dict es ep → H b = none := by
    intro b o es ep e d
    match q : H b with
    | none => rfl
    | some u =>
      obtain rfl : b = a := at_a (by rw [q]; exact fun z => nomatch z)
      rw [obj] at e
      cases e
      exact nomatch d
  have ns_of : ∀ {b : Addr} {m : Str → Option Value}, s.heap.Ns b m → (hidT s.heap H).Ns b m := by
    rintro b m ⟨o, es, ep, e, d, r⟩
    exact ⟨o, es, ep, hidT_get e (free_dict e d), d, r⟩
  have kb : K.In (hidT s.heap H) := by
    intro b o e
    refine hidT_get (KX b o e) ?_
    match q : H b with
    | none => rfl
    | some u =>
      have nn : H b ≠ none := by rw [q]; exact fun z => nomatch z
      obtain rfl : b = a := at_a nn
      rw [away nn] at e
      exact nomatch e
  have nlim : (hidT s.heap H).NoLimit := by
    obtain ⟨mc, h1, h2⟩ := lim
    exact ⟨mc, ns_of h1, h2⟩
  have e0 : Env0 P w K mg (hidT s.heap H) callerA [] s H :=
    { frames := rfl, mod := ⟨kb, ns_of gl, ⟨mb, ns_of bl, bb⟩, nlim⟩, bs := fun b o e => of_hidT e, bsz := Nat.le_of_eq (hidT_size _ _), funs := trivial,
      frf := fun b hb => (by cases (show b ∈ ([] : List Addr) from hb)), hok := ok, bare := .of_eq gens }
  refine codeAny_mono ((F _ kb (ns_of gl)).run callerA [] s H ⟨[.ref a], []⟩ [.ref a] [.ref a] _ E0 rm rfl e0 (bd s (.ref a)) (.cons rfl .nil) want) ?_
  intro r s' told
  match r, told with
  | .error e, told => exact False.elim told
  | .ok .next, told => exact False.elim told
  | .ok .brk, told => exact False.elim told
  | .ok .cont, told => exact False.elim told
  | .ok (.ret u), ⟨v, H', os, bare, un, ok', rv, q⟩ =>
    obtain rfl : v = .bl true := q
    obtain rfl : u = Value.bool true := rv
    refine ⟨rfl, OldK.of_keep fun b o e => ?_, os, bare⟩
    match q : H b with
    | none => exact un.keep b o e q (fun z => nomatch (show b ∈ ([] : List Addr) from z)) (by simp)
    | some u =>
      rcases only b with z | ⟨ob, xs, z⟩
      · rw [q] at z
        exact nomatch z
      · obtain ⟨e1, _⟩ := ok b _ z
        obtain ⟨e2, _⟩ := ok' b _ (un.frzs b ob _ z)
        rw [e] at e1
        cases e1
        exact e2
theorem lawCall (KX : K.In s.heap) (gl : s.heap.Ns mainGlobals mg) (bl : s.heap.Ns builtinsNs mb) (bb : ∀ y : Str, y ≠ "__name__" → mb y = bootBuiltins y)
    (lim : s.heap.NoLimit) (gens : s.gens = #[]) (obj : s.heap.get? a = some { cls := .type "list", data := .seq vs.toArray }) (iv : IntsAre vs ns)
    (short : ns.length ≤ sizeLine) (rm : Room k callerA) (F : ∀ base : Heap, K.In base → base.Ns mainGlobals mg → GOk P w K mg base CX0 k fa fd [x] sp)
    (bd : ∀ (t : Shared) (u : Value), BindsTo t fd ⟨[u], []⟩ [(x, u)])
    (want : ∀ H : Hp, Only H → SqL K H a (ns.map V.int) → sp [.ref a] H (fun v _ => v = .bl true) E0) :
    codeAny (model P w) callerA (.call (.ref fa) ⟨[.ref a], []⟩) (fun r s' => r = .ok (.ret (.bool true)) ∧ OldK s.heap s'.heap ∧ s'.os = s.os ∧ AllBare s'.gens) s := by
  have rv := vals_ints iv
  have ll := iv.length
  match hk : K.lookup a with
  | some o =>
    have e := KX a o hk
    rw [obj] at e
    cases e
    have sq : SqL K (fun _ => none) a (ns.map V.int) :=
      .inr ⟨_, vs.toArray, _, hk, rfl, rfl, rfl, by rw [List.size_toArray, ll]; exact short, by simpa using rv⟩
    exact lawFrom KX gl bl bb lim gens obj rm F bd (fun _ => none) (fun _ => .inl rfl) (fun b u z => nomatch z) (fun b z => absurd rfl z) (fun z => absurd rfl z)
      (want _ (fun _ => .inl rfl) sq)
  | none =>
    let Hs : Hp := fun b => if b = a then some (.frz { cls := .type "list", data := .seq vs.toArray } (.lst (ns.map V.int))) else none
    have at_ : Hs a = some (.frz { cls := .type "list", data := .seq vs.toArray } (.lst (ns.map V.int))) := if_pos rfl
    have off : ∀ b, b ≠ a → Hs b = none := fun b h => if_neg h
    have only : Only Hs := by
      intro b
      by_cases h : b = a
      · subst h
        exact .inr ⟨_, _, at_⟩
      · exact .inl (off b h)
    refine lawFrom KX gl bl bb lim gens obj rm F bd Hs only ?_ ?_ (fun _ => hk) (want Hs only (.inl (.inr ⟨_, at_⟩)))
    · intro b u z
      by_cases h : b = a
      · subst h
        rw [at_] at z
        cases z
        exact ⟨obj, by rw [List.length_map]; exact short, vs, _, rv, obj⟩
      · rw [off b h] at z
        exact nomatch z
    · intro b z
      by_cases h : b = a
      · exact h
      · exact absurd (off b h) z
end
/-- the goal that k_head leaves, from the law's promise -/
theorem walkG {l : PySem.W.OpenLaw} {n k : Nat} {q : Program} {loose : List Str} {XP : (Str → Option Value) → Heap → Prop} {YP : World → Heap → Prop} {d : DefRec}
    {K : Params → PySem.W.Frag} {sp : PySem.W.Frag → Sp} {x : Str} (most : l.most = some n) (small : n ≤ sizeLine) (plain : d.params.defaults = []) (rm : Room k callerA)
    (hY : ∀ (w : World) (h : Heap), YP w h → (K w.params).In h)
    (F : ∀ (w : World) (mg : Str → Option Value) (fa : Addr) (h : Heap), (K w.params).In h → h.Ns mainGlobals mg → mg d.name = some (.ref fa) →
      ∃ fd : FuncData, (∀ (s : Shared) (u : Value), BindsTo s fd ⟨[u], []⟩ [(x, u)]) ∧
        ∀ base : Heap, (K w.params).In base → base.Ns mainGlobals mg → GOk l.prog w (K w.params) mg base CX0 k fa fd [x] (sp (K w.params)))
    (want : ∀ (K : PySem.W.Frag) (H : Hp) (a : Addr) (ns : List Int), ns.length ≤ n → Only H → SqL K H a (ns.map V.int) → sp K [.ref a] H (fun v _ => v = .bl true) E0) :
    PySem.W.WalkO q loose XP YP l.row.toRowW d [] (fun f vs => PySem.call f vs) := by
  refine Att.attach_call most plain ?_
  intro w s0 s mg mb fa o pm cd doc a vs ns G Y ho hd hcd hmg obj iv len gens
  have KX := hY w _ Y
  obtain ⟨fd, bd, hF⟩ := F w mg fa _ KX G.T.g hmg
  exact lawCall KX G.T.g G.T.b G.T.builtins G.T.nolimit gens obj iv (Nat.le_trans len small) rm hF bd fun H h1 h2 => want _ H a ns len h1 h2
end Fd

namespace Fd
open PySem PySem.Spec PyProof.Rows L2
/-! ### steps of the abstract heap: all that was tracked stays, but for a pot at p (a list of two ints) -/
def Pot (H : Hp) (p : Addr) : Prop := ∃ a b : Int, H p = some (.lst [.int a, .int b])
def PotO (p : Option Addr) (H : Hp) : Prop := ∀ q, p = some q → Pot H q
structure St (p : Option Addr) (H H' : Hp) : Prop where
  same : ∀ a o, some a ≠ p → H a = some o → H' a = some o
  pot : PotO p H'
section
variable {p : Option Addr} {H H1 H2 : Hp} {a : Addr} {o : HO} {K : PySem.W.Frag} {xs : List V}
theorem potN : PotO none H := fun _ e => nomatch e
theorem potS {q : Addr} (h : Pot H q) : PotO (some q) H := fun r e => by
  cases e
  exact h
theorem PotO.ne (h : PotO p H) (e : H a = none) : some a ≠ p := fun z => by
  obtain ⟨x, y, q⟩ := h a z.symm
  rw [e] at q
  cases q
theorem PotO.neT (h : PotO p H) (e : H a = some (.tup xs)) : some a ≠ p := fun z => by
  obtain ⟨x, y, q⟩ := h a z.symm
  rw [e] at q
  cases q
theorem PotO.neF {u : HO} {ob : Obj} (h : PotO p H) (e : H a = some (.frz ob u)) : some a ≠ p := fun z => by
  obtain ⟨x, y, q⟩ := h a z.symm
  rw [e] at q
  cases q
theorem PotO.upd (h : PotO p H) (e : some a ≠ p) : PotO p (upd H a o) := fun r z => by
  obtain ⟨x, y, q⟩ := h r z
  exact ⟨x, y, by rw [upd_ne (fun w => e (by rw [← w]; exact z.symm))]; exact q⟩
theorem St.refl (h : PotO p H) : St p H H := ⟨fun _ _ _ e => e, h⟩
theorem St.trans (x : St p H H1) (y : St p H1 H2) : St p H H2 := ⟨fun a o n e => y.same a o n (x.same a o n e), y.pot⟩
theorem St.ofSame (h : PotO p H) (s : Same H H1) : St p H H1 := ⟨fun a o _ e => s a o e, fun q z => by
  obtain ⟨x, y, w⟩ := h q z
  exact ⟨x, y, s _ _ w⟩⟩
theorem St.toSame (x : St none H H1) : Same H H1 := fun a o e => x.same a o (fun z => nomatch z) e
theorem St.low (h : PotO p H) (x : St none H H1) : St p H H1 := St.ofSame h x.toSame
theorem St.new (h : PotO p H) (e : H a = none) : St p H (upd H a o) :=
  ⟨fun b u _ q => by rw [upd_ne (ne_of_none q e)]; exact q, h.upd (h.ne e)⟩
theorem St.free (h : PotO p H) (x : St p H H1) (e : H1 a = none) : H a = none := by
  cases q : H a with
  | none => rfl
  | some u =>
    rw [x.same a u (x.pot.ne e) q] at e
    cases e
/-- an object that was not there ahead may be changed -/
theorem St.put (h : PotO p H) (x : St p H H1) (e : H a = none) : St p H (upd H1 a o) :=
  ⟨fun b u n q => by rw [upd_ne (ne_of_none q e)]; exact x.same b u n q, x.pot.upd (h.ne e)⟩
theorem St.tup (h : PotO p H) (x : St p H H1) (e : SqT K H a xs) : SqT K H1 a xs := by
  rcases e with (e | ⟨ob, e⟩) | e
  · exact .inl (.inl (x.same _ _ (h.neT e) e))
  · exact .inl (.inr ⟨ob, x.same _ _ (h.neF e) e⟩)
  · exact .inr e
theorem St.frzL (h : PotO p H) (x : St p H H1) (n : some a ≠ p) (e : SqL K H a xs) : SqL K H1 a xs := by
  rcases e with (e | ⟨ob, e⟩) | e
  · exact .inl (.inl (x.same _ _ n e))
  · exact .inl (.inr ⟨ob, x.same _ _ n e⟩)
  · exact .inr e
end
theorem same_new {H : Hp} {p : Addr} {o : HO} (h : H p = none) : Same H (upd H p o) := fun b u e => by
  rw [upd_ne (ne_of_none e h)]
  exact e
/-! ### data of scalars and tuples alone: it stays whatever is stepped -/
mutual
def flatT : PyData → Bool
  | .none | .bool _ | .int _ | .str _ => true
  | .tuple xs => flatTs xs
  | .list _ | .dict _ => false
def flatTs : List PyData → Bool
  | [] => true
  | x :: xs => flatT x && flatTs xs
end
theorem flatTs_of : ∀ {ds : List PyData}, (∀ d ∈ ds, flatT d = true) → flatTs ds = true
  | [], _ => by simp only [flatTs]
  | d :: ds, h => by
    simp only [flatTs, Bool.and_eq_true]
    exact ⟨h d (List.mem_cons_self ..), flatTs_of fun x hx => h x (List.mem_cons_of_mem _ hx)⟩
theorem flatTs_mem : ∀ {ds : List PyData}, flatTs ds = true → ∀ d ∈ ds, flatT d = true
  | [], _, _, h => nomatch h
  | x :: xs, h, d, m => by
    simp only [flatTs, Bool.and_eq_true] at h
    rcases List.mem_cons.mp m with e | m
    · exact e ▸ h.1
    · exact flatTs_mem h.2 d m
theorem flatTs_app {xs ys : List PyData} (h1 : flatTs xs = true) (h2 : flatTs ys = true) : flatTs (xs ++ ys) = true :=
  flatTs_of fun d m => (List.mem_append.mp m).elim (flatTs_mem h1 d) (flatTs_mem h2 d)
section
variable {K : PySem.W.Frag} {H H1 : Hp}
mutual
theorem Dp.move (f : ∀ a xs, SqT K H a xs → SqT K H1 a xs) : ∀ {v : V} {d : PyData}, flatT d = true → Dp K H v d → Dp K H1 v d
  | _, _, _, .non => .non
  | _, _, _, .bl b => .bl b
  | _, _, _, .int i => .int i
  | _, _, _, .str x => .str x
  | _, _, z, .lst _ _ => by simp [flatT] at z
  | _, _, z, .tup h1 h2 => .tup (f _ _ h1) (DpAll.move f (by simpa [flatT] using z) h2)
theorem DpAll.move (f : ∀ a xs, SqT K H a xs → SqT K H1 a xs) : ∀ {vs : List V} {ds : List PyData}, flatTs ds = true → DpAll K H vs ds → DpAll K H1 vs ds
  | _, _, _, .nil => .nil
  | _, _, z, .cons h1 h2 => by
    simp only [flatTs, Bool.and_eq_true] at z
    exact .cons (Dp.move f z.1 h1) (DpAll.move f z.2 h2)
end
theorem dpSt {p : Option Addr} {v : V} {d : PyData} (h : PotO p H) (x : St p H H1) (z : flatT d = true) (k : Dp K H v d) : Dp K H1 v d :=
  Dp.move (fun _ _ e => St.tup h x e) z k
theorem dpsSt {p : Option Addr} {vs : List V} {ds : List PyData} (h : PotO p H) (x : St p H H1) (z : flatTs ds = true) (k : DpAll K H vs ds) : DpAll K H1 vs ds :=
  DpAll.move (fun _ _ e => St.tup h x e) z k
/-- a list is changed: tuples stay -/
theorem tup_put {D : Addr} {ys zs : List V} {a : Addr} {xs : List V} (e : H D = some (.lst ys)) (h : SqT K H a xs) : SqT K (upd H D (.lst zs)) a xs := by
  have n : ∀ u, H a = some u → u ≠ .lst ys → a ≠ D := fun u q w z => by
    rw [z, e] at q
    exact w (Option.some.inj q).symm
  rcases h with (h | ⟨ob, h⟩) | h
  · exact .inl (.inl (by rw [upd_ne (n _ h (fun z => nomatch z))]; exact h))
  · exact .inl (.inr ⟨ob, by rw [upd_ne (n _ h (fun z => nomatch z))]; exact h⟩)
  · exact .inr h
theorem DpAll.len : ∀ {vs : List V} {ds : List PyData}, DpAll K H vs ds → vs.length = ds.length
  | _, _, .nil => rfl
  | _, _, .cons _ h => by rw [List.length_cons, List.length_cons, DpAll.len h]
theorem DpAll.get : ∀ {vs : List V} {ds : List PyData} {i : Nat} {v : V}, DpAll K H vs ds → vs[i]? = some v → ∃ d, ds[i]? = some d ∧ Dp K H v d
  | _, _, _, _, .nil, e => by simp at e
  | _, _, 0, _, .cons h _, e => by
    simp at e
    exact ⟨_, rfl, e ▸ h⟩
  | _, _, i + 1, _, .cons _ h, e => by
    obtain ⟨d, q, r⟩ := DpAll.get (i := i) h (by simpa using e)
    exact ⟨d, by simpa using q, r⟩
theorem DpAll.app : ∀ {vs ws : List V} {ds es : List PyData}, DpAll K H vs ds → DpAll K H ws es → DpAll K H (vs ++ ws) (ds ++ es)
  | _, _, _, _, .nil, k => k
  | _, _, _, _, .cons h1 h2, k => .cons h1 (DpAll.app h2 k)
theorem Dp.tupInv {v : V} {ds : List PyData} (h : Dp K H v (.tuple ds)) : ∃ a xs, v = .ref a ∧ SqT K H a xs ∧ DpAll K H xs ds := by
  cases h with
  | tup h1 h2 => exact ⟨_, _, rfl, h1, h2⟩
theorem dps_ints : ∀ ns : List Int, DpAll K H (ns.map V.int) (ns.map PyData.int)
  | [] => .nil
  | n :: r => .cons (.int n) (dps_ints r)
theorem dps_strs : ∀ ns : List Str, DpAll K H (ns.map V.str) (ns.map PyData.str)
  | [] => .nil
  | n :: r => .cons (.str n) (dps_strs r)
theorem dps_ints_inv : ∀ {vs : List V} {ns : List Int}, DpAll K H vs (ns.map PyData.int) → vs = ns.map V.int
  | _, [], h => by cases h; rfl
  | _, n :: r, h => by
    cases h with
    | cons h1 h2 =>
      cases h1
      rw [dps_ints_inv h2]
      rfl
theorem dps_strs_inv : ∀ {vs : List V} {ns : List Str}, DpAll K H vs (ns.map PyData.str) → vs = ns.map V.str
  | _, [], h => by cases h; rfl
  | _, n :: r, h => by
    cases h with
    | cons h1 h2 =>
      cases h1
      rw [dps_strs_inv h2]
      rfl
theorem dps_bools_inv : ∀ {vs : List V} {ns : List Bool}, DpAll K H vs (ns.map PyData.bool) → vs = ns.map V.bl
  | _, [], h => by cases h; rfl
  | _, n :: r, h => by
    cases h with
    | cons h1 h2 =>
      cases h1
      rw [dps_bools_inv h2]
      rfl
theorem flat_ints : ∀ ns : List Int, flatTs (ns.map PyData.int) = true := fun ns => flatTs_of fun d m => by
  obtain ⟨n, _, rfl⟩ := List.mem_map.mp m
  simp [flatT]
theorem flat_strs : ∀ ns : List Str, flatTs (ns.map PyData.str) = true := fun ns => flatTs_of fun d m => by
  obtain ⟨n, _, rfl⟩ := List.mem_map.mp m
  simp [flatT]
end
/-! ### a comprehension, by what it has made so far (data of scalars and tuples) -/
section
variable {K : PySem.W.Frag} {J : It} {n : Nat} {G : Hp → Prop} {Y : Nat → Hp → V → Hp → Prop}
theorem lcW (w : Walk J n G Y) {g : TG} {tt : TT} {te : TE} {vs : List Nat} {σ : L2.St} {H1 : Hp} {Q : VK} (p : Option Addr) (R : Nat → List PyData → Prop)
    (hp : PotO p H1) (hG : ∀ H, St p H1 H → G H) (hn : n ≤ 1000000) (r0 : R 0 [])
    (step : ∀ i x Ha H' ds (C : V → Hp → Prop) (N : Hp → Prop), i < n → St p H1 Ha → flatTs ds = true → R i ds → Y i Ha x H' →
      (∀ y H4 d, St p Ha H4 → flatT d = true → Dp K H4 y d → R (i + 1) (ds ++ [d]) → C y H4) → (∀ H3, St p Ha H3 → R (i + 1) ds → N H3) →
      g x (wipe σ vs) H' fun σ2 H2 => wipe σ2 vs = wipe σ vs ∧ tt σ2 H2 fun b H3 => if b = true then te σ2 H3 C else N H3)
    (done : ∀ D acc ds H', H1 D = none → St p H1 H' → H' D = some (.lst acc) → flatTs ds = true → DpAll K H' acc ds → R n ds → Q (.ref D) H') :
    ∀ D, H1 D = none → ∃ W : Nat → Nat → Hp → Prop, (∃ m, W 0 m (upd H1 D (.lst []))) ∧ ∀ i m H, W i m H →
      (J.stop i H ∧ Q (.ref D) H) ∨ (J.go i H ∧ ∃ Nx : Hp → Prop, (∀ H', Nx H' → ∃ m', m' < m ∧ W (i + 1) m' H') ∧ ∀ x H', J.yld i H x H' → g x (wipe σ vs) H' fun σ2 H2 => wipe σ2 vs = wipe σ vs ∧ tt σ2 H2 fun b H3 =>
        if b = true then te σ2 H3 fun y H4 => ∃ acc, H4 D = some (.lst acc) ∧ acc.length < sizeLine ∧ Nx (upd H4 D (.lst (acc ++ [y]))) else Nx H3) := by
  intro D hD
  have line : (1000000 : Nat) < sizeLine := by decide
  refine lc_it w (fun i H => ∃ acc ds, St p H1 H ∧ H D = some (.lst acc) ∧ flatTs ds = true ∧ DpAll K H acc ds ∧ R i ds ∧ acc.length ≤ i) ?_ ?_ ?_ ?_
  · exact ⟨[], [], St.new hp hD, upd_same, by simp [flatTs], .nil, r0, Nat.le_refl _⟩
  · rintro i H _ ⟨_, _, s, _⟩
    exact hG H s
  · rintro i x H H' hi ⟨acc, ds, s, hl, fl, al, r, le⟩ y
    have nD : some D ≠ p := hp.ne hD
    refine step i x H H' ds _ _ hi s fl r y (fun z H4 d s4 fd hd r' => ?_) (fun H3 s3 r' => ?_)
    · have hl4 := s4.same D _ nD hl
      have al4 := dpsSt s.pot s4 fl al
      refine ⟨acc, hl4, by omega, acc ++ [z], ds ++ [d], St.put hp (s.trans s4) hD, upd_same, flatTs_app fl (by simp [flatTs, fd]), ?_, r', by simp; omega⟩
      exact DpAll.app (DpAll.move (fun _ _ => tup_put hl4) fl al4) (.cons (Dp.move (fun _ _ => tup_put hl4) fd hd) .nil)
    · exact ⟨acc, ds, s.trans s3, s3.same D _ nD hl, fl, dpsSt s.pot s3 fl al, r', by omega⟩
  · rintro H ⟨acc, ds, s, hl, fl, al, r, _⟩
    exact done D acc ds H hD s hl fl al r
end
/-! ### what may be shown and compared -/
structure Nice (d : PyData) : Prop where
  sh : d.showable = true
  nd : d.hasDict = false
  lf : d.leavesShort 300 = true
  wt : d.weight ≤ 50000
  lay : d.canLay0 = true
  dp : d.depth ≤ 60
theorem Nice.size {d : PyData} (h : Nice d) : d.shown.length ≤ sizeLine := by
  have q := PyData.shown_le 300 (by decide) d h.lf
  have w := h.wt
  have s : sizeLine = 16777216 := sizeLine_eq
  omega
theorem Nice.shaped {d : PyData} (h : Nice d) : SeqAt.shaped d = true := by
  have q := h.dp
  unfold SeqAt.shaped
  rw [h.lay]
  simp
  omega
theorem Nice.refl {d : PyData} (h : Nice d) : PyData.eqv d d = true := PySem.SeqAt.eqv_refl d h.lay
section
variable {X : Cx}
/-- repr of data -/
theorem call_reprD (gd : X.A.guards = some []) (hu : X.A.units + 70 < cLine) :
    CallR X (.builtin "repr") (fun xs H Q => ∃ v d, xs = [v] ∧ Dp X.K H v d ∧ Nice d ∧ Q (.str d.shown) H) := by
  intro pins s σ H xs us Q I r h
  obtain ⟨v, d, rfl, hd, nice, q⟩ := h
  obtain ⟨u, rfl, ru⟩ := vals1 r
  obtain ⟨as, rd⟩ := Dp.reads I d v u hd ru
  have dd := nice.dp
  cases hd with
  | non =>
    cases ru
    exact PySem.P.repr_of_none ⟨.str _, H, I.tok _, ⟨_, rfl⟩, q⟩
  | bl b =>
    cases ru
    exact PySem.P.repr_of_bool ⟨.str _, H, I.tok _, ⟨_, rfl⟩, q⟩
  | int i =>
    obtain ⟨t, rfl⟩ := ru
    exact PySem.P.repr_of_int (by simpa [PyData.showable] using nice.sh) ⟨.str _, H, I.tok _, ⟨_, rfl⟩, q⟩
  | str x =>
    obtain ⟨t, rfl⟩ := ru
    exact PySem.P.repr_of_str (hsz := by simpa only [PyData.shown_str] using nice.size) ⟨.str _, H, I.tok _, ⟨_, by rw [PyData.shown_str]⟩, q⟩
  | lst h1 h2 =>
    cases ru
    exact repr_of_reads' rd nice.sh (fun z => by rw [nice.nd] at z; cases z) gd (by omega) (fun _ _ e => e) (fun h' u tk k => ⟨.str _, H, I.kept k, ⟨_, rfl⟩, q⟩) nice.size
  | tup h1 h2 =>
    cases ru
    exact repr_of_reads' rd nice.sh (fun z => by rw [nice.nd] at z; cases z) gd (by omega) (fun _ _ e => e) (fun h' u tk k => ⟨.str _, H, I.kept k, ⟨_, rfl⟩, q⟩) nice.size
end
end Fd

namespace Fd
open PySem PySem.Spec PyProof.Rows L2
/-! ### tags, layers, rows -/
/-- a text of few small letters -/
def TagOk (z : Str) : Prop := z.length ≤ 8 ∧ ∀ c ∈ z.cps.toList, 97 ≤ c ∧ c ≤ 122
abbrev Lay := Str × Int
def LayOk (l : Lay) : Prop := TagOk l.1 ∧ l.2.natAbs < 2 ^ 250
def layD (l : Lay) : PyData := .tuple [.str l.1, .int l.2]
def rowD (ls : List Lay) : PyData := .tuple (ls.map layD)
theorem flat_lay (l : Lay) : flatT (layD l) = true := by simp [layD, flatT, flatTs]
theorem flat_lays (ls : List Lay) : flatTs (ls.map layD) = true := flatTs_of fun d m => by
  obtain ⟨l, _, rfl⟩ := List.mem_map.mp m
  exact flat_lay l
theorem flat_row (ls : List Lay) : flatT (rowD ls) = true := by
  unfold rowD
  simp only [flatT]
  exact flat_lays ls
theorem log_of {i : Int} {k : Nat} (hk : 0 < k) (h : i.natAbs < 2 ^ k) : i.natAbs.log2 < k := PySem.Flt.log2_lt_of hk h
theorem shown_int_le {i : Int} (h : i.natAbs < 2 ^ 250) : (PyData.int i).shown.length ≤ 300 := by
  rw [PyData.shown_int]
  have := int_text_length_le (a := i) (k := 250) (by decide) (log_of (by decide) h)
  show (Str.ofString (toString i)).length ≤ 300
  rw [PySem.ofString_length]
  omega
theorem nice_int {i : Int} (h : i.natAbs < 2 ^ 250) : Nice (.int i) := by
  have l := log_of (by decide) h
  refine ⟨?_, by simp [PyData.hasDict], ?_, ?_, by simp [PyData.canLay0], by simp [PyData.depth]⟩
  · simp only [PyData.showable, decide_eq_true_eq]
    omega
  · simp only [PyData.leavesShort, decide_eq_true_eq]
    exact shown_int_le h
  · simp only [PyData.weight]
    split <;> omega
theorem nice_none : Nice .none := by
  refine ⟨?_, ?_, ?_, ?_, ?_, ?_⟩ <;> simp [PyData.showable, PyData.hasDict, PyData.leavesShort, PyData.weight, PyData.canLay0, PyData.depth]
theorem tag_lt {z : Str} (h : TagOk z) : ∀ c ∈ z.cps.toList, c < 128 := fun c m => by
  have := h.2 c m
  omega
/-- small data: a bound on its weight, tracked -/
structure NiceW (n : Nat) (d : PyData) : Prop where
  sh : d.showable = true
  nd : d.hasDict = false
  lf : d.leavesShort 300 = true
  wt : d.weight ≤ n
  lay : d.canLay0 = true
  dp : d.depth ≤ 10
theorem NiceW.nice {n : Nat} {d : PyData} (h : NiceW n d) (k : n ≤ 50000) : Nice d := ⟨h.sh, h.nd, h.lf, Nat.le_trans h.wt k, h.lay, by have := h.dp; omega⟩
structure NiceWs (n k : Nat) (ds : List PyData) : Prop where
  sh : PyData.showableAll ds = true
  nd : PyData.hasDictAll ds = false
  lf : PyData.leavesShortAll 300 ds = true
  wt : PyData.weightAll ds ≤ (n + 1) * ds.length
  lay : PyData.canLayAll0 ds = true
  dp : PyData.depthAll ds ≤ k
theorem niceWs {n k : Nat} : ∀ {ds : List PyData}, (∀ d ∈ ds, NiceW n d ∧ d.depth ≤ k) → NiceWs n k ds
  | [], _ => by
    refine ⟨?_, ?_, ?_, ?_, ?_, ?_⟩ <;> simp [PyData.showableAll, PyData.hasDictAll, PyData.leavesShortAll, PyData.weightAll, PyData.canLayAll0, PyData.depthAll]
  | d :: ds, h => by
    have a := (h d (List.mem_cons_self ..)).1
    have ad := (h d (List.mem_cons_self ..)).2
    have b := niceWs (n := n) (k := k) (ds := ds) fun x m => h x (List.mem_cons_of_mem _ m)
    have w1 := a.wt
    have w2 := b.wt
    refine ⟨?_, ?_, ?_, ?_, ?_, ?_⟩
    · simp only [PyData.showableAll, a.sh, b.sh, Bool.and_self]
    · simp only [PyData.hasDictAll, a.nd, b.nd, Bool.or_self]
    · simp only [PyData.leavesShortAll, a.lf, b.lf, Bool.and_self]
    · simp only [PyData.weightAll, List.length_cons]
      have e : (n + 1) * (ds.length + 1) = (n + 1) * ds.length + (n + 1) := Nat.mul_succ ..
      omega
    · simp only [PyData.canLayAll0, a.lay, b.lay, Bool.and_self]
    · simp only [PyData.depthAll]
      have := b.dp
      omega
theorem NiceWs.tup {n k : Nat} {ds : List PyData} (h : NiceWs n k ds) (hk : k < 10) : NiceW ((n + 1) * ds.length) (.tuple ds) := by
  have := h.dp
  refine ⟨by simp only [PyData.showable, h.sh], by simp only [PyData.hasDict, h.nd], by simp only [PyData.leavesShort, h.lf], by simp only [PyData.weight]; exact h.wt, by simp only [PyData.canLay0, h.lay], ?_⟩
  simp only [PyData.depth]
  omega
theorem NiceWs.lst {n k : Nat} {ds : List PyData} (h : NiceWs n k ds) (hk : k < 10) : NiceW ((n + 1) * ds.length) (.list ds) := by
  have := h.dp
  refine ⟨by simp only [PyData.showable, h.sh], by simp only [PyData.hasDict, h.nd], by simp only [PyData.leavesShort, h.lf], by simp only [PyData.weight]; exact h.wt, by simp only [PyData.canLay0, h.lay], ?_⟩
  simp only [PyData.depth]
  omega
theorem niceW_int {i : Int} (h : i.natAbs < 2 ^ 250) : NiceW 250 (.int i) := by
  have q := nice_int h
  have l := log_of (by decide) h
  exact ⟨q.sh, q.nd, q.lf, by simp only [PyData.weight]; split <;> omega, q.lay, by simp [PyData.depth]⟩
theorem strOk_tag {z : Str} (h : TagOk z) : PyData.strOk z = true := by
  unfold PyData.strOk
  rw [Array.all_eq_true']
  intro c m
  have := tag_lt h c (Array.mem_toList_iff.mpr m)
  simp
  omega
theorem niceW_tag {z : Str} (h : TagOk z) : NiceW 8 (.str z) := by
  refine ⟨by simp only [PyData.showable], by simp only [PyData.hasDict], ?_, by simp only [PyData.weight]; exact h.1, ?_, by simp [PyData.depth]⟩
  · simp only [PyData.leavesShort, List.all_eq_true, decide_eq_true_eq]
    intro c m
    have := tag_lt h c m
    omega
  · simp only [PyData.canLay0]
    exact strOk_tag h
theorem niceW_lay {l : Lay} (h : LayOk l) : NiceW 502 (layD l) := by
  have q := niceWs (n := 250) (k := 0) (ds := [.str l.1, .int l.2]) fun d m => by
    rcases List.mem_cons.mp m with e | m
    · rw [e]
      have := niceW_tag h.1
      exact ⟨⟨this.sh, this.nd, this.lf, by have := this.wt; omega, this.lay, this.dp⟩, by simp [PyData.depth]⟩
    · rw [List.mem_singleton.mp m]
      exact ⟨niceW_int h.2, by simp [PyData.depth]⟩
  exact q.tup (by decide)
theorem nice_row {ls : List Lay} (n : ls.length ≤ 60) (h : ∀ l ∈ ls, LayOk l) : Nice (rowD ls) := by
  have q := niceWs (n := 502) (k := 1) (ds := ls.map layD) fun d m => by
    obtain ⟨l, ml, rfl⟩ := List.mem_map.mp m
    exact ⟨niceW_lay (h l ml), by simp [layD, PyData.depth, PyData.depthAll]⟩
  refine (q.tup (by decide)).nice ?_
  rw [List.length_map]
  omega
theorem nice_ints {ns : List Int} (n : ns.length ≤ 100) (h : ∀ i ∈ ns, i.natAbs < 2 ^ 250) : Nice (.list (ns.map PyData.int)) := by
  have q := niceWs (n := 250) (k := 0) (ds := ns.map PyData.int) fun d m => by
    obtain ⟨l, ml, rfl⟩ := List.mem_map.mp m
    exact ⟨niceW_int (h l ml), by simp [PyData.depth]⟩
  refine (q.lst (by decide)).nice ?_
  rw [List.length_map]
  omega
theorem row_inv {K : PySem.W.Frag} {H : Hp} {v : V} {ls : List Lay} (h : Dp K H v (rowD ls)) : ∃ a xs, v = .ref a ∧ SqT K H a xs ∧ DpAll K H xs (ls.map layD) := Dp.tupInv h
theorem lay_inv {K : PySem.W.Frag} {H : Hp} {v : V} {l : Lay} (h : Dp K H v (layD l)) : ∃ a, v = .ref a ∧ SqT K H a [.str l.1, .int l.2] := by
  obtain ⟨a, xs, e, s, al⟩ := Dp.tupInv h
  cases al with
  | cons h1 h2 =>
    cases h2 with
    | cons h2 h3 =>
      cases h3
      cases h1
      cases h2
      exact ⟨a, e, s⟩
theorem lays_get {K : PySem.W.Frag} {H : Hp} {xs : List V} {ls : List Lay} {i : Nat} {v : V} (h : DpAll K H xs (ls.map layD)) (e : xs[i]? = some v) :
    ∃ l a, ls[i]? = some l ∧ v = .ref a ∧ SqT K H a [.str l.1, .int l.2] ∧ Dp K H v (layD l) := by
  obtain ⟨d, q, k⟩ := DpAll.get h e
  rw [List.getElem?_map] at q
  cases w : ls[i]? with
  | none => rw [w] at q; cases q
  | some l =>
    rw [w] at q
    obtain rfl : layD l = d := Option.some.inj q
    obtain ⟨a, e2, s⟩ := lay_inv k
    exact ⟨l, a, rfl, e2, s, k⟩
theorem lay_mk {K : PySem.W.Frag} {H : Hp} {a : Addr} {l : Lay} (h : SqT K H a [.str l.1, .int l.2]) : Dp K H (.ref a) (layD l) := .tup h (.cons (.str _) (.cons (.int _) .nil))
/-! ### calls of the text's defs -/
section
variable {P : Program} {w : World} {K : PySem.W.Frag} {mg : Str → Option Value} {base : Heap}
structure Has (P : Program) (w : World) (K : PySem.W.Frag) (mg : Str → Option Value) (base : Heap) (x : Str) (k : Nat) (ps : List Str) (sp : Sp) : Prop where
  ex : ∃ f fd, FnOk P w K mg base CX0 k f fd ps sp ∧ mg x = some (.ref f) ∧ PySem.W.keepIn K (.ref f) = true ∧ Binds K fd ps []
structure HasG (P : Program) (w : World) (K : PySem.W.Frag) (mg : Str → Option Value) (base : Heap) (x : Str) (k : Nat) (ps : List Str) (sp : Sp) : Prop where
  ex : ∃ f fd, GOk P w K mg base CX0 k f fd ps sp ∧ mg x = some (.ref f) ∧ PySem.W.keepIn K (.ref f) = true ∧ Binds K fd ps []
end
theorem callH {X : Cx} {k j : Nat} {ps : List Str} {sp : Sp} {x : Str} {p pos : Pos} {e : Expr} {es : List Expr} {t : TA} (C : Has X.prog X.w X.K X.mg X.base x k ps sp) (hr : Room j X.A)
    (hg : Gl X x) (ha : PA X (e :: es) t) (hk : k ≤ j := by decide) (hdb : (x == ("__debug__" : Str)) = false := by decide) (he : starEach (e :: es) X.env = (false, eval e X.env) :: starEach es X.env := by rfl)
    (hpl : (backTo pos (starEach es X.env)).any (·.1) = false := by rfl) : PE X (.Call (.Name x p) (e :: es) [] pos) (tCall sp [] E0 t) := by
  obtain ⟨f, fd, F, hm, kp, hb⟩ := C.ex
  exact pe_call F (hr.mono hk) hg hm kp hb .nil pass0 ha hdb he hpl
theorem callHG {X : Cx} {k j : Nat} {ps : List Str} {sp : Sp} {x : Str} {p pos : Pos} {e : Expr} {es : List Expr} {t : TA} (C : HasG X.prog X.w X.K X.mg X.base x k ps sp) (hr : Room j X.A)
    (gd : X.A.guards = some []) (hg : Gl X x) (ha : PA X (e :: es) t) (hk : k ≤ j := by decide) (hdb : (x == ("__debug__" : Str)) = false := by decide) (he : starEach (e :: es) X.env = (false, eval e X.env) :: starEach es X.env := by rfl)
    (hpl : (backTo pos (starEach es X.env)).any (·.1) = false := by rfl) : PE X (.Call (.Name x p) (e :: es) [] pos) (tCall sp [] E0 t) := by
  obtain ⟨f, fd, F, hm, kp, hb⟩ := C.ex
  exact callG F (hr.mono hk) gd hg hm kp hb .nil pass0 ha hdb he hpl
end Fd
namespace Fd
open PySem PySem.Spec PyProof.Rows L2
section
variable {CX : CXT} {P : Program} {w : World} {K : PySem.W.Frag} {mg : Str → Option Value} {base : Heap} {N : List Str} {qual : Str} {sc : Scope} {f : Addr} {cd : Value} {A : Around} {outer : List Env} {s : Shared} {H : Hp} {E : XK} {X : Cx}
theorem cxK : (cxOf CX P w K mg base N qual sc f cd A outer s H E).K = K := rfl
theorem noxK : (X.nox).K = X.K := rfl
theorem startDef {N : List Str} {vs : List V} : L2.start N vs = vs.map some ++ List.replicate (N.length - vs.length) none := rfl
end
end Fd
namespace Fd
open PySem PySem.Spec PyProof.Rows L2
section
variable {H H1 : Hp} {p t : Addr} {o : HO} {a b : Int}
theorem St.potSet (s : St (some p) H H1) : St (some p) H (upd H1 p (.lst [.int a, .int b])) :=
  ⟨fun c u n e => by rw [upd_ne (fun z => n (by rw [z]))]; exact s.same c u n e, fun q e => by cases e; exact ⟨a, b, upd_same⟩⟩
theorem Pot.potO (h : Pot H p) : PotO (some p) H := potS h
theorem Pot.rfl (h : Pot H p) : St (some p) H H := St.refl (potS h)
theorem Pot.ne (h : Pot H p) (e : H t = none) : t ≠ p := fun z => (potS h).ne e (by rw [z])
theorem St.pt (s : St (some p) H H1) : Pot H1 p := s.pot p _root_.rfl
end
end Fd
namespace Fd
open PySem PySem.Spec PyProof.Rows L2
/-! ### readings of comprehensions and loops, kept folded -/
def LcK (J : It) (g : TG) (tt : TT) (te : TE) (vs : List Nat) (σ : L2.St) (Q : VK) (H1 : Hp) : Prop := ∀ D, H1 D = none → ∃ W : Nat → Nat → Hp → Prop, (∃ m, W 0 m (upd H1 D (.lst []))) ∧ ∀ i m H, W i m H →
  (J.stop i H ∧ Q (.ref D) H) ∨ (J.go i H ∧ ∃ Nx : Hp → Prop, (∀ H', Nx H' → ∃ m', m' < m ∧ W (i + 1) m' H') ∧ ∀ x H', J.yld i H x H' → g x (wipe σ vs) H' fun σ2 H2 => wipe σ2 vs = wipe σ vs ∧ tt σ2 H2 fun b H3 =>
    if b = true then te σ2 H3 fun y H4 => ∃ acc, H4 D = some (.lst acc) ∧ acc.length < sizeLine ∧ Nx (upd H4 D (.lst (acc ++ [y]))) else Nx H3)
theorem tLcE {wi : TI} {g : TG} {tt : TT} {te : TE} {vs : List Nat} {σ : L2.St} {H : Hp} {Q : VK} : tLc wi g tt te vs σ H Q = wi σ H fun J H1 => LcK J g tt te vs σ Q H1 := rfl
def ForK (J : It) (g : TG) (tb : TS) (D : Ends) (σ : L2.St) (H1 : Hp) : Prop := ∃ W : Nat → Nat → L2.St → Hp → Prop, (∃ m, W 0 m σ H1) ∧ ∀ i m σ H, W i m σ H →
  (J.stop i H ∧ D.nx σ H) ∨ (J.go i H ∧ ∃ N : L2.St → Hp → Prop, (∀ σ' H', N σ' H' → ∃ m', m' < m ∧ W (i + 1) m' σ' H') ∧ ∀ x H', J.yld i H x H' → g x σ H' fun σ2 H2 => tb { D with nx := N, ct := N, bk := D.nx } σ2 H2)
theorem tForE {wi : TI} {g : TG} {tb : TS} {D : Ends} {σ : L2.St} {H : Hp} : tFor wi g tb D σ H = wi σ H fun J H1 => ForK J g tb D σ H1 := rfl
section
variable {K : PySem.W.Frag} {J : It} {n : Nat} {G : Hp → Prop} {Y : Nat → Hp → V → Hp → Prop} {g : TG} {tt : TT} {te : TE} {vs : List Nat} {σ : L2.St} {H1 : Hp} {Q : VK}
/-- over a range, the target a name, no test -/
theorem lcRng {lo : Int} {j : Nat} (p : Option Addr) (R : Nat → List PyData → Prop) (hp : PotO p H1) (hn : n ≤ 1000000) (r0 : R 0 []) (hw : ∀ x, wipe ((wipe σ vs).set j (some x)) vs = wipe σ vs)
    (step : ∀ i Ha ds (C : V → Hp → Prop), i < n → St p H1 Ha → flatTs ds = true → R i ds →
      (∀ y H4 d, St p Ha H4 → flatT d = true → Dp K H4 y d → R (i + 1) (ds ++ [d]) → C y H4) → te ((wipe σ vs).set j (some (.int (lo + i)))) Ha C)
    (done : ∀ D acc ds H', H1 D = none → St p H1 H' → H' D = some (.lst acc) → flatTs ds = true → DpAll K H' acc ds → R n ds → Q (.ref D) H') : LcK (Itr lo n) (gName j) tYes te vs σ Q H1 := by
  refine lcW walk_range p R hp (fun _ _ => trivial) hn r0 ?_ done
  rintro i x Ha H' ds C N hi s fl r ⟨rfl, rfl⟩ k _
  exact ⟨hw _, step i _ ds C hi s fl r k⟩
/-- over a tuple, the target a name -/
theorem lcTup {a : Addr} {xs : List V} {j : Nat} (p : Option Addr) (R : Nat → List PyData → Prop) (hp : PotO p H1) (hx : SqT K H1 a xs) (hn : xs.length ≤ 1000000) (r0 : R 0 []) (hw : ∀ x, wipe ((wipe σ vs).set j (some x)) vs = wipe σ vs)
    (step : ∀ i x Ha ds (C : V → Hp → Prop) (N : Hp → Prop), xs[i]? = some x → St p H1 Ha → flatTs ds = true → R i ds →
      (∀ y H4 d, St p Ha H4 → flatT d = true → Dp K H4 y d → R (i + 1) (ds ++ [d]) → C y H4) → (∀ H3, St p Ha H3 → R (i + 1) ds → N H3) →
      tt ((wipe σ vs).set j (some x)) Ha fun b H3 => if b = true then te ((wipe σ vs).set j (some x)) H3 C else N H3)
    (done : ∀ D acc ds H', H1 D = none → St p H1 H' → H' D = some (.lst acc) → flatTs ds = true → DpAll K H' acc ds → R xs.length ds → Q (.ref D) H') : LcK (Itt K a) (gName j) tt te vs σ Q H1 := by
  refine lcW walk_tup p R hp (fun H s => St.tup hp s hx) hn r0 ?_ done
  rintro i x Ha H' ds C N hi s fl r ⟨rfl, e⟩ k k2
  exact ⟨hw _, step i x _ ds C N e s fl r k k2⟩
/-- over a list that is not the pot, the target a name -/
theorem lcLst {a : Addr} {xs : List V} {j : Nat} (p : Option Addr) (R : Nat → List PyData → Prop) (hp : PotO p H1) (hx : SqL K H1 a xs) (ne : some a ≠ p) (hn : xs.length ≤ 1000000) (r0 : R 0 []) (hw : ∀ x, wipe ((wipe σ vs).set j (some x)) vs = wipe σ vs)
    (step : ∀ i x Ha ds (C : V → Hp → Prop) (N : Hp → Prop), xs[i]? = some x → St p H1 Ha → flatTs ds = true → R i ds →
      (∀ y H4 d, St p Ha H4 → flatT d = true → Dp K H4 y d → R (i + 1) (ds ++ [d]) → C y H4) → (∀ H3, St p Ha H3 → R (i + 1) ds → N H3) →
      tt ((wipe σ vs).set j (some x)) Ha fun b H3 => if b = true then te ((wipe σ vs).set j (some x)) H3 C else N H3)
    (done : ∀ D acc ds H', H1 D = none → St p H1 H' → H' D = some (.lst acc) → flatTs ds = true → DpAll K H' acc ds → R xs.length ds → Q (.ref D) H') : LcK (Itl K a) (gName j) tt te vs σ Q H1 := by
  refine lcW walk_list p R hp (fun H s => St.frzL hp s ne hx) hn r0 ?_ done
  rintro i x Ha H' ds C N hi s fl r ⟨rfl, e⟩ k k2
  exact ⟨hw _, step i x _ ds C N e s fl r k k2⟩
/-- over a text, the target a name, no test -/
theorem lcStr {z : Str} {j : Nat} (p : Option Addr) (R : Nat → List PyData → Prop) (hp : PotO p H1) (hn : z.cps.size ≤ 1000000) (r0 : R 0 []) (hw : ∀ x, wipe ((wipe σ vs).set j (some x)) vs = wipe σ vs)
    (step : ∀ i c Ha ds (C : V → Hp → Prop), z.cps[i]? = some c → St p H1 Ha → flatTs ds = true → R i ds →
      (∀ y H4 d, St p Ha H4 → flatT d = true → Dp K H4 y d → R (i + 1) (ds ++ [d]) → C y H4) → te ((wipe σ vs).set j (some (.str ⟨#[c]⟩))) Ha C)
    (done : ∀ D acc ds H', H1 D = none → St p H1 H' → H' D = some (.lst acc) → flatTs ds = true → DpAll K H' acc ds → R z.cps.size ds → Q (.ref D) H') : LcK (Its z) (gName j) tYes te vs σ Q H1 := by
  refine lcW walk_str p R hp (fun _ _ => trivial) hn r0 ?_ done
  rintro i x Ha H' ds C N hi s fl r ⟨rfl, c, e, rfl⟩ k _
  exact ⟨hw _, step i c _ ds C e s fl r k⟩
theorem forRng {lo : Int} {j : Nat} {tb : TS} {D : Ends} (Pv : Nat → L2.St → Hp → Prop) (h0 : Pv 0 σ H1)
    (hs : ∀ i σ H, i < n → Pv i σ H → tb { D with nx := Pv (i + 1), ct := Pv (i + 1), bk := D.nx } (σ.set j (some (.int (lo + i)))) H) (hd : ∀ σ H, Pv n σ H → D.nx σ H) : ForK (Itr lo n) (gName j) tb D σ H1 :=
  for_it walk_range Pv h0 (fun _ _ _ _ _ => trivial) (by
    rintro i x σ H H' hi p ⟨rfl, rfl⟩
    exact hs i σ _ hi p) hd
theorem forTup {a : Addr} {xs : List V} {tb : TS} {D : Ends} (Pv : Nat → L2.St → Hp → Prop) (h0 : Pv 0 σ H1) (hG : ∀ i σ H, i ≤ xs.length → Pv i σ H → SqT K H a xs)
    (hs : ∀ i x σ H, xs[i]? = some x → Pv i σ H → g x σ H fun σ2 H2 => tb { D with nx := Pv (i + 1), ct := Pv (i + 1), bk := D.nx } σ2 H2) (hd : ∀ σ H, Pv xs.length σ H → D.nx σ H) : ForK (Itt K a) g tb D σ H1 :=
  for_it walk_tup Pv h0 hG (by
    rintro i x σ H H' hi p ⟨rfl, e⟩
    exact hs i x σ _ e p) hd
theorem forLst {a : Addr} {xs : List V} {tb : TS} {D : Ends} (Pv : Nat → L2.St → Hp → Prop) (h0 : Pv 0 σ H1) (hG : ∀ i σ H, i ≤ xs.length → Pv i σ H → SqL K H a xs)
    (hs : ∀ i x σ H, xs[i]? = some x → Pv i σ H → g x σ H fun σ2 H2 => tb { D with nx := Pv (i + 1), ct := Pv (i + 1), bk := D.nx } σ2 H2) (hd : ∀ σ H, Pv xs.length σ H → D.nx σ H) : ForK (Itl K a) g tb D σ H1 :=
  for_it walk_list Pv h0 hG (by
    rintro i x σ H H' hi p ⟨rfl, e⟩
    exact hs i x σ _ e p) hd
end
/-! ### texts of small letters -/
def Letter (c : Nat) : Prop := 97 ≤ c ∧ c ≤ 122
abbrev sgn (c : Nat) : Str := ⟨#[c]⟩
theorem cps_join : ∀ cs : List Nat, (Str.join "" (cs.map sgn)).cps.toList = cs
  | [] => by decide
  | [c] => rfl
  | c :: d :: r => by
    have ih := cps_join (d :: r)
    show ((sgn c ++ Str.ofString "" ++ Str.join "" ((d :: r).map sgn)) : Str).cps.toList = c :: d :: r
    have e : ∀ x y : Str, (x ++ y).cps.toList = x.cps.toList ++ y.cps.toList := fun x y => TL.tl_append x y
    rw [e, e, ih]
    rfl
theorem tag_join {cs : List Nat} (n : cs.length ≤ 8) (h : ∀ c ∈ cs, Letter c) : TagOk (Txt.join "" (cs.map sgn)) := by
  have e : Txt.join "" (cs.map sgn) = Str.join "" (cs.map sgn) := StrLaws.glued_eq_join _ _
  rw [e]
  have q := cps_join cs
  refine ⟨?_, ?_⟩
  · show (Str.join "" (cs.map sgn)).cps.size ≤ 8
    rw [← Array.length_toList, q]
    exact n
  · rw [q]
    exact h
theorem sgns_sum : ∀ cs : List Nat, ((cs.map sgn).map (·.length)).sum = cs.length
  | [] => rfl
  | c :: r => by
    rw [List.map_cons, List.map_cons, List.sum_cons, sgns_sum r, List.length_cons]
    have : (sgn c).length = 1 := rfl
    omega
def abc : Str := "abcdefghijklmnopqrstuvwxyz"
theorem abc_cps : abc.cps.toList = (List.range 26).map (· + 97) := by decide +kernel
theorem abc_at {i : Nat} (h : i < 26) : abc.cps.toList[i]? = some (i + 97) := by
  rw [abc_cps, List.getElem?_map, List.getElem?_range h]
  rfl
theorem abc_len : abc.length = 26 := by decide +kernel
end Fd
namespace Fd
open PySem PySem.Spec PyProof.Rows L2
/-! ### the layer's rules with the written part told -/
def rLenK (K : PySem.W.Frag) : List V → Hp → VK → Prop := fun xs H Q => ∃ p ys, xs = [.ref p] ∧ (SqL K H p ys ∨ SqT K H p ys) ∧ Q (.int ys.length) H
def rTupK (K : PySem.W.Frag) : List V → Hp → VK → Prop := fun xs H Q => ∃ p ys, xs = [.ref p] ∧ ((SqL K H p ys ∧ ∀ l, H l = none → Q (.ref l) (upd H l (.tup ys))) ∨ (SqT K H p ys ∧ Q (.ref p) H))
def rLstK (K : PySem.W.Frag) : List V → Hp → VK → Prop := fun xs H Q => ∃ p ys, xs = [.ref p] ∧ (SqL K H p ys ∨ SqT K H p ys) ∧ ∀ l, H l = none → Q (.ref l) (upd H l (.lst ys))
def rReprK (K : PySem.W.Frag) : List V → Hp → VK → Prop := fun xs H Q => ∃ v d, xs = [v] ∧ Dp K H v d ∧ Nice d ∧ Q (.str d.shown) H
section
variable {X : Cx} {K : PySem.W.Frag} (h : X.K = K)
include h
theorem k_len : CallR X (.builtin "len") (rLenK K) := h ▸ call_len_seq
theorem k_tup : CallR X (.type "tuple") (rTupK K) := h ▸ call_tuple_of
theorem k_lst : CallR X (.type "list") (rLstK K) := h ▸ call_list_of
theorem k_repr (gd : X.A.guards = some []) (hu : X.A.units + 70 < cLine) : CallR X (.builtin "repr") (rReprK K) := h ▸ call_reprD gd hu
theorem k_eqD (hu : X.A.units + 64 < cLine) : OpR X (compareOp .Eq) (rEqD K) := h ▸ op_eqD hu
theorem k_neD (hu : X.A.units + 64 < cLine) : OpR X (compareOp .NotEq) (rNeD K) := h ▸ op_neD hu
theorem k_in : OpR X (compareOp .In) (rIn K false) := h ▸ op_in_seq
theorem k_notIn : OpR X (compareOp .NotIn) (rIn K true) := h ▸ op_notIn_seq
theorem k_ixL : IxR X (rIxL K) := h ▸ ix_list
theorem k_ixT : IxR X (rIxT K) := h ▸ ix_tup
theorem k_all (hc : X.calm = true) : CallR X (.builtin "all") (rAll K) := h ▸ cr_all hc
end
end Fd
namespace Fd
open PySem PySem.Spec PyProof.Rows L2
/-! ### names that are not there yet -/
def cand (z : Str) (c : Nat) : Str := cutS z none (some 7) ++ sgn c
theorem cut_cps (z : Str) : (cutS z none (some 7)).cps.toList = z.cps.toList.take 7 := by
  have e7 : HT.sIx z.length z.length (some (7 : Int)) = min 7 z.length := HT.sIx_nat z.length z.length 7
  have hl : z.length = z.cps.toList.length := by simp [Str.length]
  show ((z.cps.toList.drop (HT.sIx z.length 0 none)).take (HT.sIx z.length z.length (some 7) - HT.sIx z.length 0 none)) = _
  rw [HT.sIx_none, e7, hl]
  simp only [List.drop_zero, Nat.sub_zero]
  rw [Nat.min_comm]
  exact (List.take_eq_take_iff.mpr (by omega))
theorem cand_cps (z : Str) (c : Nat) : (cand z c).cps.toList = z.cps.toList.take 7 ++ [c] := by
  have e : ∀ x y : Str, (x ++ y).cps.toList = x.cps.toList ++ y.cps.toList := fun x y => TL.tl_append x y
  unfold cand
  rw [e, cut_cps]
theorem cand_tag {z : Str} {c : Nat} (h : TagOk z) (hc : Letter c) : TagOk (cand z c) := by
  refine ⟨?_, ?_⟩
  · show (cand z c).cps.size ≤ 8
    rw [← Array.length_toList, cand_cps, List.length_append, List.length_take]
    simp
    omega
  · rw [cand_cps]
    intro d m
    rcases List.mem_append.mp m with m | m
    · exact h.2 d (List.mem_of_mem_take m)
    · rw [List.mem_singleton.mp m]
      exact hc
theorem cand_inj {z : Str} {c d : Nat} (h : cand z c = cand z d) : c = d := by
  have e := congrArg (fun s : Str => s.cps.toList) h
  simp only [cand_cps] at e
  have e2 := List.append_cancel_left e
  simpa using e2
theorem pigeon {α : Type} [DecidableEq α] : ∀ (zs l : List α), l.Nodup → (∀ x ∈ l, x ∈ zs) → l.length ≤ zs.length
  | [], l, _, h => by
    cases l with
    | nil => exact Nat.le_refl _
    | cons x r => exact absurd (h x (List.mem_cons_self ..)) (by simp)
  | z :: zs, l, nd, h => by
    have ih := pigeon zs (l.filter fun x => decide (x ≠ z)) (nd.sublist (List.filter_sublist)) (fun x m => by
      obtain ⟨m1, m2⟩ := List.mem_filter.mp m
      rcases List.mem_cons.mp (h x m1) with e | m3
      · exact absurd e (of_decide_eq_true m2)
      · exact m3)
    have gone : l.length ≤ (l.filter fun x => decide (x ≠ z)).length + 1 := by
      clear ih h
      induction l with
      | nil => simp
      | cons x r ihr =>
        have nd' := List.nodup_cons.mp nd
        by_cases e : x = z
        · have same : r.filter (fun x => decide (x ≠ z)) = r := List.filter_eq_self.mpr fun y my => decide_eq_true fun q => nd'.1 (by rw [e, ← q]; exact my)
          rw [List.filter_cons, if_neg (by simp [e]), same]
          simp
        · rw [List.filter_cons, if_pos (by simpa using e)]
          have := ihr nd'.2
          simp only [List.length_cons]
          omega
    rw [List.length_cons]
    omega
/-- the names to choose from -/
def cands (z : Str) : List Str := z :: ((List.range 26).map fun c => cand z (c + 97))
theorem cands_tag {z : Str} (h : TagOk z) : ∀ x ∈ cands z, TagOk x := fun x m => by
  rcases List.mem_cons.mp m with e | m
  · exact e ▸ h
  · obtain ⟨c, mc, rfl⟩ := List.mem_map.mp m
    have := List.mem_range.mp mc
    exact cand_tag h ⟨by omega, by omega⟩
def notIn (zs : List Str) (x : Str) : Bool := !inV (V.str x) (zs.map V.str)
theorem inV_strs (zs : List Str) (x : Str) : inV (V.str x) (zs.map V.str) = decide (x ∈ zs) := by
  unfold inV
  induction zs with
  | nil => simp
  | cons z r ih =>
    rw [List.map_cons, List.any_cons, ih]
    have e : eqV (V.str z) (V.str x) = (z == x) := rfl
    rw [e]
    by_cases q : z = x
    · subst q
      simp
    · have q2 : x ≠ z := fun w => q w.symm
      simp [q, q2]
theorem left_some {z : Str} {zs : List Str} (n : zs.length ≤ 20) : ∃ x r, (cands z).filter (notIn zs) = x :: r := by
  cases e : (cands z).filter (notIn zs) with
  | cons x r => exact ⟨x, r, rfl⟩
  | nil =>
    have all : ∀ x ∈ (List.range 26).map (fun c => cand z (c + 97)), x ∈ zs := fun x m => by
      have q := (List.filter_eq_nil_iff.mp e) x (List.mem_cons_of_mem _ m)
      unfold notIn at q
      rw [inV_strs] at q
      simpa using q
    have nd : ((List.range 26).map (fun c => cand z (c + 97))).Nodup := by
      refine List.Pairwise.map _ (fun a b h q => h ?_) List.nodup_range
      have := cand_inj q
      omega
    have := pigeon zs _ nd all
    simp at this
    omega
end Fd
namespace Fd
open PySem PySem.Spec PyProof.Rows L2
/-! ### walks over a row of layers, the target a tag and a strength -/
section
variable {K : PySem.W.Frag} {tt : TT} {te : TE} {vs : List Nat} {σ : L2.St} {H1 : Hp} {Q : VK}
theorem lays_len {xs : List V} {ls : List Lay} (al : DpAll K H1 xs (ls.map layD)) : xs.length = ls.length := by
  rw [DpAll.len al, List.length_map]
theorem lcLay {a : Addr} {xs : List V} {ls : List Lay} {j1 j2 : Nat} (p : Option Addr) (R : Nat → List PyData → Prop) (hp : PotO p H1) (hx : SqT K H1 a xs) (al : DpAll K H1 xs (ls.map layD)) (hn : ls.length ≤ 1000000) (r0 : R 0 [])
    (hw : ∀ x y, wipe (((wipe σ vs).set j1 (some x)).set j2 (some y)) vs = wipe σ vs)
    (step : ∀ i l Ha ds (C : V → Hp → Prop) (N : Hp → Prop), ls[i]? = some l → St p H1 Ha → flatTs ds = true → R i ds →
      (∀ y H4 d, St p Ha H4 → flatT d = true → Dp K H4 y d → R (i + 1) (ds ++ [d]) → C y H4) → (∀ H3, St p Ha H3 → R (i + 1) ds → N H3) →
      tt (((wipe σ vs).set j1 (some (.str l.1))).set j2 (some (.int l.2))) Ha fun b H3 => if b = true then te (((wipe σ vs).set j1 (some (.str l.1))).set j2 (some (.int l.2))) H3 C else N H3)
    (done : ∀ D acc ds H', H1 D = none → St p H1 H' → H' D = some (.lst acc) → flatTs ds = true → DpAll K H' acc ds → R ls.length ds → Q (.ref D) H') :
    LcK (Itt K a) (gTup K 2 (gCons (gName j1) (gCons (gName j2) gNil))) tt te vs σ Q H1 := by
  have len := lays_len al
  refine lcW walk_tup p R hp (fun H s => St.tup hp s hx) (by omega) r0 ?_ (by rw [len]; exact done)
  rintro i x Ha H' ds C N hi s fl r ⟨rfl, e⟩ k k2
  obtain ⟨l, b, q, rfl, sq, _⟩ := lays_get al e
  exact ⟨_, _, rfl, St.tup hp s sq, rfl, _, _, rfl, _, _, rfl, rfl, hw _ _, step i l _ ds C N q s fl r k k2⟩
theorem forLay {a : Addr} {xs : List V} {ls : List Lay} {j1 j2 : Nat} {tb : TS} {D : Ends} (Pv : Nat → L2.St → Hp → Prop) (h0 : Pv 0 σ H1)
    (hG : ∀ i σ H, i ≤ ls.length → Pv i σ H → SqT K H a xs ∧ DpAll K H xs (ls.map layD)) (al : DpAll K H1 xs (ls.map layD))
    (hs : ∀ i l σ H, ls[i]? = some l → Pv i σ H → tb { D with nx := Pv (i + 1), ct := Pv (i + 1), bk := D.nx } ((σ.set j1 (some (.str l.1))).set j2 (some (.int l.2))) H)
    (hd : ∀ σ H, Pv ls.length σ H → D.nx σ H) : ForK (Itt K a) (gTup K 2 (gCons (gName j1) (gCons (gName j2) gNil))) tb D σ H1 := by
  have len := lays_len al
  refine for_it walk_tup Pv h0 (fun i σ H hi p => (hG i σ H (by omega) p).1) ?_ (by rw [len]; exact hd)
  rintro i x σ H H' hi p ⟨rfl, e⟩
  obtain ⟨sx, al'⟩ := hG i σ _ (by omega) p
  obtain ⟨l, b, q, rfl, sq, _⟩ := lays_get al' e
  exact ⟨_, _, rfl, sq, rfl, _, _, rfl, _, _, rfl, rfl, hs i l σ _ q p⟩
end
/-! ### rows weaker and stronger -/
def pos (l : Lay) : Bool := decide (0 < l.2)
def addL (ls : List Lay) (n : Int) : List Lay := ls.map fun l => (l.1, l.2 + n)
def weakL (ls : List Lay) (n : Int) : List Lay := (addL ls (-n)).filter pos
theorem take_succ_map {α β : Type} (f : α → β) (ls : List α) {i : Nat} {l : α} (h : ls[i]? = some l) : (ls.take (i + 1)).map f = (ls.take i).map f ++ [f l] := by
  rw [List.take_add_one, h, List.map_append]
  rfl
theorem take_succ_filter {α : Type} (f : α → Bool) (ls : List α) {i : Nat} {l : α} (h : ls[i]? = some l) : (ls.take (i + 1)).filter f = (ls.take i).filter f ++ (if f l = true then [l] else []) := by
  rw [List.take_add_one, h, List.filter_append]
  congr 1
  show [l].filter f = _
  rw [List.filter_cons]
  split <;> rfl
theorem weak_strong {ls : List Lay} {n : Int} (h : ∀ l ∈ ls, 0 < l.2) : weakL (addL ls n) n = ls := by
  unfold weakL addL
  rw [List.map_map]
  have e : (ls.map ((fun l : Lay => (l.1, l.2 + -n)) ∘ fun l : Lay => (l.1, l.2 + n))) = ls := by
    conv => rhs; rw [← List.map_id ls]
    refine List.map_congr_left fun l _ => ?_
    show (l.1, l.2 + n + -n) = l
    rw [Int.add_neg_cancel_right]
  rw [e]
  exact List.filter_eq_self.mpr fun l m => decide_eq_true (h l m)
theorem weak_zero {ls : List Lay} (h : ∀ l ∈ ls, 0 < l.2) : weakL ls 0 = ls := by
  unfold weakL addL
  have e : (ls.map fun l : Lay => (l.1, l.2 + -0)) = ls := by
    conv => rhs; rw [← List.map_id ls]
    refine List.map_congr_left fun l _ => ?_
    show (l.1, l.2 + -0) = l
    rw [Int.neg_zero, Int.add_zero]
  rw [e]
  exact List.filter_eq_self.mpr fun l m => decide_eq_true (h l m)
theorem strong_all {ls : List Lay} {n : Int} (h : ∀ l ∈ ls, 0 < l.2) (hn : 0 ≤ n) : (addL ls n).filter pos = addL ls n := by
  refine List.filter_eq_self.mpr fun l m => decide_eq_true ?_
  obtain ⟨x, mx, rfl⟩ := List.mem_map.mp m
  have := h x mx
  show 0 < x.2 + n
  omega
theorem eqvAll_nil (ds : List PyData) : PyData.eqvAll ds [] = ds.isEmpty := by
  cases ds <;> simp [PyData.eqvAll]
end Fd
namespace Fd
open PySem PySem.Spec PyProof.Rows L2
/-- what is done to a pot that is newer leaves all that stood before -/
theorem St.back {H H1 H2 : Hp} {p : Addr} (s : Same H H1) (n : H p = none) (x : St (some p) H1 H2) : Same H H2 := fun b o e =>
  x.same b o (fun z => by
    cases z
    rw [n] at e
    cases e) (s b o e)
theorem eqv_row {ls : List Lay} {n : Nice (rowD ls)} : PyData.eqv (rowD ls) (rowD ls) = true := n.refl
end Fd
namespace Fd
open PySem PySem.Spec PyProof.Rows L2
theorem dpSame {K : PySem.W.Frag} {H H1 : Hp} {v : V} {d : PyData} (s : Same H H1) (z : flatT d = true) (k : Dp K H v d) : Dp K H1 v d := dpSt potN (St.ofSame potN s) z k
end Fd

namespace Fd
open PySem PySem.Spec PyProof.Rows L2
/-! ### enumerate of a tuple -/
def tItO (a : Addr) : Obj := { cls := .type "tuple_iterator", data := .fields #[.ref a, .int 0 0] }
def eNuO (it : Addr) : Obj := { cls := .type "enumerate", data := .fields #[.none, .bool false, .ref it, rawInt 0, .none, .none] }
theorem newEnum (a : Addr) (items : Array Value) : Meets (Builtin.«enumerate.__new__» ⟨[.type "enumerate", .ref a], []⟩) fun _ R s =>
    s.heap.IsTuple a items ∧ R (.ok (.ret (.ref (s.heap.push (tItO a)).objs.size))) { s with heap := (s.heap.push (tItO a)).push (eNuO s.heap.objs.size) } := by
  refine .of_wp ?_
  intro prog w A R s h
  obtain ⟨hp, gs, dr, tk, os⟩ := s
  obtain ⟨tup, want⟩ := h
  have sub := sub_enumerate
  have go : ∀ {A' : Around} {E : Value → Shared → Prop} {Q : Value → Shared → Prop}, Q (.ref hp.objs.size) ⟨hp.push (tItO a), gs, dr, tk, os⟩ →
      wpAny (model prog w) A' (pyIter (.ref a)) Q E ⟨hp, gs, dr, tk, os⟩ := fun q => wpAny_pyIter_tuple tup q
  wp_walk using go
  refine wpAny_stack_any fun st => wpAny_pure ?_
  split
  · rename_i c _ _ _ _ _
    cases (c == Value.type "enumerate") <;> (wp_walk using go; exact ⟨_, rfl, want⟩)
  · wp_walk using go
    exact ⟨_, rfl, want⟩
theorem callEnumT {prog : Program} {w : World} {A : Around} {E : Value → Shared → Prop} {s : Shared} {a : Addr} {items : Array Value} {Q : Value → Shared → Prop} (ht : s.heap.IsTuple a items)
    (h : ∀ h', IsEnum h' (s.heap.objs.size + 1) s.heap.objs.size 0 .none → h'.IsTupleIter s.heap.objs.size a 0 → h'.objs.size = s.heap.objs.size + 2 →
      (∀ b o, s.heap.get? b = some o → h'.get? b = some o) → Q (.ref (s.heap.objs.size + 1)) { s with heap := h' }) :
    wpAny (model prog w) A (call (.type "enumerate") [.ref a]) Q E s := by
  refine callType_new F.called_enumerate (by decide) (F.typeCall_enumerate_1 _) (F.newCall_enumerate_1 _) (fun obj => F.args_object_init_2 obj _) F.entry_enumerate_new (newEnum a items) ⟨ht, ?_⟩
  have sz : (s.heap.push (tItO a)).objs.size = s.heap.objs.size + 1 := Heap.size_push ..
  show _ ∧ _
  rw [sz]
  have en : IsEnum ((s.heap.push (tItO a)).push (eNuO s.heap.objs.size)) (s.heap.objs.size + 1) s.heap.objs.size 0 .none := by
    have q := Heap.get?_push_size (s.heap.push (tItO a)) (o := eNuO s.heap.objs.size) rfl
    rw [sz] at q
    exact q
  have itr : ((s.heap.push (tItO a)).push (eNuO s.heap.objs.size)).IsTupleIter s.heap.objs.size a 0 :=
    ⟨_, Heap.get?_push_of_some _ (Heap.get?_push_size (s.heap) (o := tItO a) rfl), rfl, rfl⟩
  exact ⟨⟨_, en, rfl⟩, h _ en itr (by rw [Heap.size_push, sz]) fun b o x => Heap.get?_push_of_some _ (Heap.get?_push_of_some _ x)⟩
/-- the tuple at a, each item in a new pair with its number -/
def IteT (K : PySem.W.Frag) (a : Addr) : It :=
  ⟨fun i H => ∃ (xs : List V) (x : V), SqT K H a xs ∧ xs[i]? = some x,
    fun i H v H' => ∃ T x, v = .ref T ∧ H T = none ∧ H' = upd H T (.tup [.int (i : Nat), x]) ∧ ∀ xs, SqT K H a xs → xs[i]? = some x,
    fun i H => ∃ xs : List V, SqT K H a xs ∧ xs.length = i⟩
theorem enum_apart {h : Heap} {e it a : Addr} {c : Int} {old : Value} {i : Nat} {items : Array Value} (he : IsEnum h e it c old) (hit : h.IsTupleIter it a i) (ht : h.IsTuple a items) : a ≠ it ∧ e ≠ a := by
  obtain ⟨o, ho, hc, _⟩ := hit
  obtain ⟨u, hu, hc2, _⟩ := ht
  refine ⟨fun z => ?_, fun z => ?_⟩
  · subst z
    rw [ho] at hu
    cases hu
    rw [hc] at hc2
    exact absurd hc2 (by decide)
  · subst z
    have he' : h.get? e = some _ := he
    rw [he'] at hu
    cases hu
    have c2 : Value.type "enumerate" = Value.type "tuple" := hc2
    exact absurd c2 (by decide)
theorem turnEnumT {P : Program} {w : World} {K : PySem.W.Frag} {elts : List Expr} {kk : Nat} {tpos : Pos} (a e it : Addr) :
    Turn P w K (.Tuple elts kk tpos) (IteT K a) [e, it] e (fun i h => (∃ old, IsEnum h e it ((i : Nat) : Int) old) ∧ h.IsTupleIter it a i ∧ e ≠ it) where
  mem := by simp
  obj := by
    rintro i h ⟨⟨old, he⟩, ⟨o, ho, hc, hd⟩, _⟩ b hb
    have hb' : b = e ∨ b = it := by simpa using hb
    rcases hb' with rfl | rfl
    · exact ⟨_, he, fun v q => nomatch q⟩
    · exact ⟨o, ho, fun v q => by rw [hd] at q; cases q⟩
  keep := by
    rintro i h h' ⟨⟨old, he⟩, hi, hne⟩ k
    exact ⟨⟨old, k e (by simp) _ he⟩, hi.at fun o q => k it (by simp) o q, hne⟩
  item := by
    intro X hP hw hK hc i pins s σ H E I hf st hg
    subst hP hw hK
    obtain ⟨⟨old, he⟩, hit, hne⟩ := st
    obtain ⟨xs, x, hq, hx⟩ := hg
    obtain ⟨its, rv, p, hz⟩ := I.tuple hq
    obtain ⟨u, hu, ru⟩ := rv.get hx
    have tup : s.heap.IsTuple a its.toArray := p
    obtain ⟨n1, n2⟩ := enum_apart he hit tup
    have hel : e < s.heap.objs.size := Heap.lt_size he
    have hil : it < s.heap.objs.size := by
      obtain ⟨_, q, _⟩ := hit
      exact Heap.lt_size q
    have hil2 : i < its.toArray.size := by
      have := (List.getElem?_eq_some_iff.mp hu).1
      simpa using this
    have D := Draws.tuple (prog := X.prog) (w := X.w) (A := X.A.in1) (I.ok.hd hc) it a n1 its.toArray
    refine wpAny_pyNext_enum_itemD D he ⟨hit, tup⟩ hil2 hne (by simp [hne, n2]) fun y h' tk hy ho hst hT hsz hk => ?_
    have hy' : y = u := by
      have q : its.toArray[i]? = some u := by simpa using hu
      exact Option.some.inj (hy.symm.trans q)
    subst hy'
    refine ⟨_, rfl, wpAny_letOwnedTupleGo_enum (s := { s with heap := h', toks := tk + 1 }) ho fun h'' he' sb => ?_⟩
    have hT2 : h''.get? s.heap.objs.size = some { cls := .type "tuple", data := .seq #[.int i tk, y] } := (sb.2 _ (Nat.ne_of_gt hel)).trans hT
    have fresh : ObjOk X.prog X.w (upd H s.heap.objs.size (.tup [.int (i : Nat), x])) h'' s.heap.objs.size (.tup [.int (i : Nat), x]) :=
      ⟨by show 2 ≤ sizeLine; decide, [.int i tk, y], .cons ⟨_, rfl⟩ (.cons ru .nil), ⟨_, hT2, rfl, _, rfl⟩⟩
    have I1 : Inv X pins σ (upd H s.heap.objs.size (.tup [.int (i : Nat), x])) { s with heap := h'', toks := tk + 1 } :=
      I.turnedNew (ch := [e, it]) (fun b ob hb q => (sb.2 b (fun z => hb (by simp [z]))).trans (hk b ob (fun z => hb (by simp [z])) (fun z => hb (by simp [z])) q)) hf (Nat.le_refl _) fresh
    refine ⟨.ref s.heap.objs.size, _, I1, rfl, ⟨_, x, rfl, I.hok.fresh (Nat.le_refl _), rfl, fun ys hys => by rw [I.tuple_inj hys hq]; exact hx⟩, ⟨⟨y, ?_⟩, hst.1.at fun o q => (sb.2 it (Ne.symm hne)).trans q, hne⟩, fun b hb => ?_⟩
    · have e1 : ((i + 1 : Nat) : Int) = (i : Int) + 1 := by omega
      rw [e1]
      exact he'
    · have hb' : b = e ∨ b = it := by simpa using hb
      have lt : b < s.heap.objs.size := by rcases hb' with rfl | rfl <;> assumption
      rw [upd_ne (Nat.ne_of_lt lt)]
      exact (hf b hb).1
  done := by
    intro X hP hw hK hc i pins s σ H E I hf st hg
    subst hP hw hK
    obtain ⟨⟨old, he⟩, hit, hne⟩ := st
    obtain ⟨xs, hq, hx⟩ := hg
    obtain ⟨its, rv, p, hz⟩ := I.tuple hq
    have tup : s.heap.IsTuple a its.toArray := p
    obtain ⟨n1, n2⟩ := enum_apart he hit tup
    obtain ⟨f0, f1, f2, f3, f4, f5⟩ := hf it (by simp)
    have hl := rv.length
    have sz : its.toArray.size = i := by simp; omega
    have D := Draws.tuple (prog := X.prog) (w := X.w) (A := X.A.in1) (I.ok.hd hc) it a n1 its.toArray
    refine wpAny_pyNext_enum_endD D he ⟨sz ▸ hit, tup⟩ fun h' eb => ⟨rfl, I.turned (t' := s.toks) (fun b o hb q => eb b o hb q) f0 f1 f3 f4 f5⟩
  self := fun A i s Q E st h => by
    obtain ⟨⟨_, he⟩, _⟩ := st
    exact wpAny_pyIter_enum he h
def iEnumT (K : PySem.W.Frag) (ta : TA) : TI := fun σ H R => ta σ H fun vs H1 => ∃ a xs, vs = [.ref a] ∧ SqT K H1 a xs ∧ R (IteT K a) H1
theorem pi_enumT {X : Cx} {e : Expr} {ta : TA} {p pos tpos : Pos} {elts : List Expr} {kk : Nat} (hg : Gl X "enumerate") (hm : X.mg "enumerate" = none) (ha : PA X [e] ta) (hs : starEach [e] X.env = [(false, eval e X.env)] := by rfl) :
    PI X (.Tuple elts kk tpos) (.Call (.Name "enumerate" p) [e] [] pos) (iEnumT X.K ta) := by
  refine ⟨fun pins s σ H R I h => ?_⟩
  have start := ha.run pos pins s σ H _ I h
  refine Call_ (ld_blt I hg hm boot_enumerate (PyProof.Rows.callWith_type1 (thn start ?_) hs rfl))
  rintro us s1 ⟨vs, H1, I1, r1, a, xs, rfl, hq, q⟩
  obtain ⟨u, rfl, ru⟩ := vals1 r1
  cases ru
  obtain ⟨its, rv, tup, hz⟩ := I1.tuple hq
  refine callEnumT tup fun h' he hit hsz hk => wpAny_pyIter_enum he ?_
  have I2 : Inv X pins σ H1 { s1 with heap := h' } := I1.kept (t' := s1.toks) hk
  refine ⟨s1.heap.objs.size + 1, [s1.heap.objs.size + 1, s1.heap.objs.size], _, _, H1, rfl, I2, turnEnumT a (s1.heap.objs.size + 1) s1.heap.objs.size, ⟨⟨.none, he⟩, hit, Nat.succ_ne_self _⟩, fun b hb => ?_, q⟩
  have hb' : b = s1.heap.objs.size + 1 ∨ b = s1.heap.objs.size := by simpa using hb
  have hle : s1.heap.objs.size ≤ b := by rcases hb' with rfl | rfl <;> omega
  exact I1.fpOk (b := b) hle (I1.hok.fresh hle)
theorem walk_enumT {K : PySem.W.Frag} {a : Addr} {xs : List V} : Walk (IteT K a) xs.length (fun H => SqT K H a xs) (YPair (fun i => some (.int (i : Nat))) (fun i => xs[i]?)) := by
  refine ⟨fun i _ hi q => ⟨xs, xs[i], q, by simp [hi]⟩, fun _ q => ⟨xs, q, rfl⟩, ?_⟩
  rintro i H v H' _ q ⟨T, x, h1, h2, h3, h4⟩
  exact ⟨T, .int (i : Nat), x, h1, h2, h3, rfl, h4 xs q⟩
end Fd

namespace Fd
open PySem PySem.Spec PyProof.Rows L2
section
variable {X : Cx} {K : PySem.W.Frag} (h : X.K = K)
include h
theorem k_sortedP : CallR X (.builtin "sorted") (rSortedPO K) := h ▸ cr_sortedPO
theorem k_isi : CallR X (.builtin "isinstance") (rIsi K) := h ▸ call_isi
theorem k_slL : SlR X (rSlL K) := h ▸ sl_list
theorem k_slT : SlR X (rSlT K) := h ▸ sl_tup
end
/-! ### ranks -/
def str (ls : List Lay) (i : Nat) : Int := ((ls[i]?).map Prod.snd).getD 0
/-- i ranks ahead of j -/
def Ahead (ls : List Lay) (i j : Nat) : Prop := str ls j < str ls i ∨ (str ls i = str ls j ∧ j < i)
instance (ls : List Lay) (i j : Nat) : Decidable (Ahead ls i j) := by unfold Ahead; infer_instance
structure IsRank (ls : List Lay) (rs : List Nat) : Prop where
  perm : rs.Perm (List.range ls.length)
  ord : rs.Pairwise (Ahead ls)
theorem IsRank.len {ls : List Lay} {rs : List Nat} (h : IsRank ls rs) : rs.length = ls.length := by
  rw [h.perm.length_eq, List.length_range]
theorem IsRank.lt {ls : List Lay} {rs : List Nat} (h : IsRank ls rs) {x : Nat} (m : x ∈ rs) : x < ls.length := List.mem_range.mp (h.perm.mem_iff.mp m)
theorem IsRank.uniq {ls : List Lay} : ∀ {rs qs : List Nat}, IsRank ls rs → IsRank ls qs → rs = qs := by
  intro rs qs h k
  have p : rs.Perm qs := h.perm.trans k.perm.symm
  refine List.Perm.eq_of_pairwise (le := Ahead ls) ?_ h.ord k.ord p
  intro a b _ _ x y
  unfold Ahead at x y
  omega
/-- how many rank ahead -/
def cntA (ls : List Lay) (x : Nat) : Nat := ((List.range ls.length).filter fun o => decide (o ≠ x) && decide (Ahead ls o x)).length
theorem cnt_at {ls : List Lay} {rs : List Nat} (h : IsRank ls rs) {k x : Nat} (e : rs[k]? = some x) : cntA ls x = k := by
  unfold cntA
  rw [← (h.perm.filter _).length_eq]
  obtain ⟨hk, ex⟩ := List.getElem?_eq_some_iff.mp e
  have split : rs = rs.take k ++ x :: rs.drop (k + 1) := by
    rw [← ex]
    exact (List.take_append_drop k rs).symm.trans (by rw [List.drop_eq_getElem_cons hk])
  have ord := h.ord
  rw [split] at ord ⊢
  rw [List.pairwise_append] at ord
  obtain ⟨_, o2, o3⟩ := ord
  have o4 := (List.pairwise_cons.mp o2).1
  rw [List.filter_append, List.filter_cons, if_neg (by simp), List.length_append]
  have f1 : (rs.take k).filter (fun o => decide (o ≠ x) && decide (Ahead ls o x)) = rs.take k := List.filter_eq_self.mpr fun y m => by
    have a := o3 y m x (List.mem_cons_self ..)
    have ne : y ≠ x := fun z => by
      subst z
      unfold Ahead at a
      omega
    simp [a, ne]
  have f2 : (rs.drop (k + 1)).filter (fun o => decide (o ≠ x) && decide (Ahead ls o x)) = [] := List.filter_eq_nil_iff.mpr fun y m => by
    have a := o4 y m
    have na : ¬ Ahead ls y x := fun b => by
      unfold Ahead at a b
      omega
    simp [na]
  rw [f1, f2, List.length_take]
  simp
  omega
theorem cnt_lt {ls : List Lay} {rs : List Nat} (h : IsRank ls rs) {x : Nat} (hx : x < ls.length) : cntA ls x < ls.length ∧ rs[cntA ls x]? = some x := by
  have m : x ∈ rs := h.perm.mem_iff.mpr (List.mem_range.mpr hx)
  obtain ⟨k, e⟩ := List.mem_iff_getElem?.mp m
  have c := cnt_at h e
  have l := (List.getElem?_eq_some_iff.mp e).1
  rw [c]
  exact ⟨by rw [← h.len]; exact l, e⟩
/-! ### the row of numbers, sorted by pairs -/
/-- from pairs (-strength, -number), sorted, to the numbers -/
theorem rank_of_sorted {ls : List Lay} {α : Type} (num : α → Nat) {xs ys : List α} (lt : α → α → Bool)
    (hlt : ∀ a ∈ xs, ∀ b ∈ xs, lt a b = true ↔ (-(str ls (num a)) < -(str ls (num b)) ∨ (-(str ls (num a)) = -(str ls (num b)) ∧ (-(num a : Int)) < -(num b : Int))))
    (hx : xs.map num = List.range ls.length) (p : ys.Perm xs) (s : SrtO.Srtd lt ys) : IsRank ls (ys.map num) := by
  have pm : (ys.map num).Perm (List.range ls.length) := hx ▸ p.map num
  have nd : (ys.map num).Nodup := pm.nodup_iff.mpr List.nodup_range
  refine ⟨pm, ?_⟩
  rw [List.pairwise_map]
  have nd2 : ys.Pairwise fun a b => num a ≠ num b := List.pairwise_map.mp nd
  have both := List.Pairwise.and_mem.mp ((s : ys.Pairwise fun x y => lt y x = false).and nd2)
  refine both.imp ?_
  rintro a b ⟨ma, mb, h1, h2⟩
  have ma' := p.mem_iff.mp ma
  have mb' := p.mem_iff.mp mb
  have no : ¬ (-(str ls (num b)) < -(str ls (num a)) ∨ (-(str ls (num b)) = -(str ls (num a)) ∧ (-(num b : Int)) < -(num a : Int))) := fun q => by
    have t := (hlt b mb' a ma').mpr q
    rw [h1] at t
    cases t
  unfold Ahead
  omega
end Fd
namespace Fd
open PySem PySem.Spec PyProof.Rows L2
/-! ### a comprehension by any relation of what it makes to data that steps keep -/
theorem pairedGet {α β : Type} {F : α → β → Prop} : ∀ {l₁ : List α} {l₂ : List β} {i : Nat} {a : α}, Paired F l₁ l₂ → l₁[i]? = some a → ∃ b, l₂[i]? = some b ∧ F a b
  | _, _, _, _, .nil, e => by simp at e
  | _, _, 0, _, .cons r _, e => by
    simp at e
    exact ⟨_, rfl, e ▸ r⟩
  | _, _, i + 1, _, .cons _ t, e => by
    obtain ⟨b, q, r⟩ := pairedGet (i := i) t (by simpa using e)
    exact ⟨b, by simpa using q, r⟩
theorem pairedApp {α β : Type} {F : α → β → Prop} : ∀ {l₁ l₃ : List α} {l₂ l₄ : List β}, Paired F l₁ l₂ → Paired F l₃ l₄ → Paired F (l₁ ++ l₃) (l₂ ++ l₄)
  | _, _, _, _, .nil, k => k
  | _, _, _, _, .cons r t, k => .cons r (pairedApp t k)
theorem lcG {K : PySem.W.Frag} {J : It} {n : Nat} {G : Hp → Prop} {Y : Nat → Hp → V → Hp → Prop} {δ : Type} (Rel : Hp → V → δ → Prop) (w : Walk J n G Y) {g : TG} {tt : TT} {te : TE} {vs : List Nat} {σ : L2.St} {H1 : Hp} {Q : VK} (p : Option Addr)
    (R : Nat → List δ → Prop) (stab : ∀ H H' v d, PotO p H → St p H H' → Rel H v d → Rel H' v d) (stabL : ∀ H D ys zs v d, H D = some (.lst ys) → Rel H v d → Rel (upd H D (.lst zs)) v d)
    (hp : PotO p H1) (hG : ∀ H, St p H1 H → G H) (hn : n ≤ 1000000) (r0 : R 0 [])
    (step : ∀ i x Ha H' ds (C : V → Hp → Prop) (N : Hp → Prop), i < n → St p H1 Ha → R i ds → Y i Ha x H' →
      (∀ y H4 d, St p Ha H4 → Rel H4 y d → R (i + 1) (ds ++ [d]) → C y H4) → (∀ H3, St p Ha H3 → R (i + 1) ds → N H3) →
      g x (wipe σ vs) H' fun σ2 H2 => wipe σ2 vs = wipe σ vs ∧ tt σ2 H2 fun b H3 => if b = true then te σ2 H3 C else N H3)
    (done : ∀ D acc ds H', H1 D = none → St p H1 H' → H' D = some (.lst acc) → Paired (Rel H') acc ds → R n ds → Q (.ref D) H') : LcK J g tt te vs σ Q H1 := by
  intro D hD
  have line : (1000000 : Nat) < sizeLine := by decide
  refine lc_it w (fun i H => ∃ acc ds, St p H1 H ∧ H D = some (.lst acc) ∧ Paired (Rel H) acc ds ∧ R i ds ∧ acc.length ≤ i) ?_ ?_ ?_ ?_
  · exact ⟨[], [], St.new hp hD, upd_same, .nil, r0, Nat.le_refl _⟩
  · rintro i H _ ⟨_, _, s, _⟩
    exact hG H s
  · rintro i x H H' hi ⟨acc, ds, s, hl, al, r, le⟩ y
    have nD : some D ≠ p := hp.ne hD
    refine step i x H H' ds _ _ hi s r y (fun z H4 d s4 hd r' => ?_) (fun H3 s3 r' => ?_)
    · have hl4 := s4.same D _ nD hl
      have al4 := Paired.mapP al fun a b q => stab H H4 a b s.pot s4 q
      exact ⟨acc, hl4, by omega, acc ++ [z], ds ++ [d], St.put hp (s.trans s4) hD, upd_same, pairedApp (Paired.mapP al4 fun a b q => stabL H4 D acc _ a b hl4 q) (.cons (stabL H4 D acc _ z d hl4 hd) .nil), r', by simp; omega⟩
    · exact ⟨acc, ds, s.trans s3, s3.same D _ nD hl, Paired.mapP al fun a b q => stab H H3 a b s.pot s3 q, r', by omega⟩
  · rintro H ⟨acc, ds, s, hl, al, r, _⟩
    exact done D acc ds H hD s hl al r
/-- a tracked pair of ints -/
def PairAt (H : Hp) (v : V) (d : Int × Int) : Prop := ∃ t, v = .ref t ∧ H t = some (.tup [.int d.1, .int d.2])
theorem pairAt_stab {p : Option Addr} (H H' : Hp) (v : V) (d : Int × Int) (h : PotO p H) (s : St p H H') (k : PairAt H v d) : PairAt H' v d := by
  obtain ⟨t, e, q⟩ := k
  exact ⟨t, e, s.same t _ (h.neT q) q⟩
theorem pairAt_upd (H : Hp) (D : Addr) (ys zs : List V) (v : V) (d : Int × Int) (e : H D = some (.lst ys)) (k : PairAt H v d) : PairAt (upd H D (.lst zs)) v d := by
  obtain ⟨t, e2, q⟩ := k
  exact ⟨t, e2, by rw [upd_ne (ne_of q e (fun z => nomatch z))]; exact q⟩
/-- what a reference to a pair of ints holds -/
def kOf (H : Hp) : V → Int × Int
  | .ref t => match H t with
    | some (.tup [.int i, .int j]) => (i, j)
    | _ => (0, 0)
  | _ => (0, 0)
theorem kOf_at {H : Hp} {v : V} {d : Int × Int} (h : PairAt H v d) : kOf H v = d := by
  obtain ⟨t, rfl, q⟩ := h
  show (match H t with | some (.tup [.int i, .int j]) => (i, j) | _ => (0, 0)) = d
  rw [q]
end Fd
namespace Fd
open PySem PySem.Spec PyProof.Rows L2
theorem rank_ex (ls : List Lay) : ∃ rs, IsRank ls rs := by
  let le : Nat → Nat → Bool := fun i j => !decide (Ahead ls j i)
  have tr : ∀ a b c, le a b = true → le b c = true → le a c = true := by
    intro a b c
    simp only [le, Bool.not_eq_true', decide_eq_false_iff_not]
    unfold Ahead
    omega
  have tot : ∀ a b, (le a b || le b a) = true := by
    intro a b
    simp only [le, Bool.or_eq_true, Bool.not_eq_true', decide_eq_false_iff_not]
    unfold Ahead
    omega
  have pm : ((List.range ls.length).mergeSort le).Perm (List.range ls.length) := List.mergeSort_perm _ _
  refine ⟨(List.range ls.length).mergeSort le, pm, ?_⟩
  have srt : ((List.range ls.length).mergeSort le).Pairwise fun a b => le a b = true := List.pairwise_mergeSort tr tot _
  have nd : ((List.range ls.length).mergeSort le).Pairwise fun a b => a ≠ b := pm.nodup_iff.mpr List.nodup_range
  refine (srt.and nd).imp ?_
  intro a b ⟨h1, h2⟩
  simp only [le, Bool.not_eq_true', decide_eq_false_iff_not] at h1
  unfold Ahead at h1 ⊢
  omega
/-- the numbers found so far, at their ranks -/
def foundV (rs : List Nat) (m : Nat) : List V := rs.map fun x => if x < m then V.int (x : Int) else V.non
theorem found_step {ls : List Lay} {rs : List Nat} (h : IsRank ls rs) {m : Nat} (hm : m < ls.length) : (foundV rs m).set (cntA ls m) (.int m) = foundV rs (m + 1) := by
  obtain ⟨_, e⟩ := cnt_lt h hm
  have nd : rs.Nodup := h.perm.nodup_iff.mpr List.nodup_range
  unfold foundV
  refine List.ext_getElem? fun j => ?_
  rw [List.getElem?_set]
  by_cases q : cntA ls m = j
  · subst q
    have l := (List.getElem?_eq_some_iff.mp e).1
    rw [if_pos rfl, if_pos (by simpa using l), List.getElem?_map, e]
    simp
  · rw [if_neg q, List.getElem?_map, List.getElem?_map]
    cases e2 : rs[j]? with
    | none => rfl
    | some x =>
      have ne : x ≠ m := fun z => by
        subst z
        exact q (nd_ix nd e e2)
      show some _ = some _
      congr 1
      show (if x < m then V.int (x : Int) else V.non) = if x < m + 1 then V.int (x : Int) else V.non
      by_cases lt : x < m
      · rw [if_pos lt, if_pos (by omega)]
      · rw [if_neg lt, if_neg (by omega)]
theorem found_zero (rs : List Nat) : foundV rs 0 = (List.replicate rs.length [V.non]).flatten := by
  unfold foundV
  induction rs with
  | nil => rfl
  | cons x r ih =>
    rw [List.map_cons, List.length_cons, List.replicate_succ, List.flatten_cons, ih]
    simp
theorem found_all {ls : List Lay} {rs : List Nat} (h : IsRank ls rs) : foundV rs ls.length = rs.map fun i : Nat => V.int i := by
  unfold foundV
  refine List.map_congr_left fun x m => ?_
  rw [if_pos (h.lt m)]
theorem str_at {ls : List Lay} {i : Nat} {l : Lay} (h : ls[i]? = some l) : str ls i = l.2 := by
  unfold str
  rw [h]
  rfl
/-- the items of a row by number -/
theorem row_at {K : PySem.W.Frag} {H : Hp} {xs : List V} {ls : List Lay} {i : Nat} (al : DpAll K H xs (ls.map layD)) (h : i < ls.length) :
    ∃ l a, ls[i]? = some l ∧ xs[i]? = some (.ref a) ∧ SqT K H a [.str l.1, .int l.2] := by
  have len := lays_len al
  obtain ⟨l, a, q, e, sq, _⟩ := lays_get al (List.getElem?_eq_getElem (show i < xs.length by omega))
  exact ⟨l, a, q, by rw [List.getElem?_eq_getElem (show i < xs.length by omega), e], sq⟩
theorem nice_nats {rs : List Nat} (n : rs.length ≤ 100) (h : ∀ i ∈ rs, i < 2 ^ 250) : Nice (.list (rs.map fun i : Nat => PyData.int i)) := by
  have e : (rs.map fun i : Nat => PyData.int i) = (rs.map fun i : Nat => (i : Int)).map PyData.int := by
    rw [List.map_map]
    rfl
  rw [e]
  refine nice_ints (by rw [List.length_map]; exact n) fun i m => ?_
  obtain ⟨j, mj, rfl⟩ := List.mem_map.mp m
  have := h j mj
  omega
end Fd

namespace Fd
open PySem PySem.Spec PyProof.Rows L2
/-! ### parts of a row by rising numbers -/
def sub (ls : List Lay) (I : List Nat) : List Lay := I.filterMap fun i => ls[i]?
structure Rising (n : Nat) (I : List Nat) : Prop where
  up : I.Pairwise (· < ·)
  lt : ∀ i ∈ I, i < n
theorem sub_get {ls : List Lay} : ∀ {I : List Nat}, (∀ i ∈ I, i < ls.length) → ∀ j : Nat, (sub ls I)[j]? = (I[j]?).bind (fun i : Nat => ls[i]?)
  | [], _, j => by simp [sub]
  | i :: I, h, j => by
    have hi := h i (List.mem_cons_self ..)
    have e : sub ls (i :: I) = ls[i] :: sub ls I := by
      unfold sub
      rw [List.filterMap_cons, List.getElem?_eq_getElem hi]
    rw [e]
    cases j with
    | zero => simp [List.getElem?_eq_getElem hi]
    | succ j =>
      rw [List.getElem?_cons_succ, List.getElem?_cons_succ]
      exact sub_get (fun k m => h k (List.mem_cons_of_mem _ m)) j
theorem sub_len {ls : List Lay} : ∀ {I : List Nat}, (∀ i ∈ I, i < ls.length) → (sub ls I).length = I.length
  | [], _ => rfl
  | i :: I, h => by
    have hi := h i (List.mem_cons_self ..)
    have e : sub ls (i :: I) = ls[i] :: sub ls I := by
      unfold sub
      rw [List.filterMap_cons, List.getElem?_eq_getElem hi]
    rw [e, List.length_cons, List.length_cons, sub_len fun k m => h k (List.mem_cons_of_mem _ m)]
theorem str_sub {ls : List Lay} {I : List Nat} (h : ∀ i ∈ I, i < ls.length) {j i : Nat} (e : I[j]? = some i) : str (sub ls I) j = str ls i := by
  unfold str
  rw [sub_get h, e]
  rfl
theorem rising_iff {n : Nat} {I : List Nat} (h : Rising n I) {j k a b : Nat} (e : I[j]? = some a) (e2 : I[k]? = some b) : a < b ↔ j < k := by
  obtain ⟨hj, rfl⟩ := List.getElem?_eq_some_iff.mp e
  obtain ⟨hk, rfl⟩ := List.getElem?_eq_some_iff.mp e2
  have up := List.pairwise_iff_getElem.mp h.up
  constructor
  · intro lt
    rcases Nat.lt_trichotomy j k with q | q | q
    · exact q
    · subst q
      exact absurd lt (Nat.lt_irrefl _)
    · have := up k j hk hj q
      omega
  · exact fun q => up j k hj hk q
theorem ahead_sub {ls : List Lay} {I : List Nat} (h : Rising ls.length I) {j k a b : Nat} (e : I[j]? = some a) (e2 : I[k]? = some b) : Ahead (sub ls I) j k ↔ Ahead ls a b := by
  unfold Ahead
  rw [str_sub h.lt e, str_sub h.lt e2, rising_iff h e2 e]
theorem range_map_get (I : List Nat) : (List.range I.length).map (fun j => I[j]?.getD 0) = I := by
  refine List.ext_getElem? fun j => ?_
  rw [List.getElem?_map]
  by_cases h : j < I.length
  · simp [List.getElem?_range h, List.getElem?_eq_getElem h]
  · rw [List.getElem?_eq_none (by simp; omega), List.getElem?_eq_none (by omega)]
    rfl
theorem fm_congr {f g : Nat → Option Lay} : ∀ {l : List Nat}, (∀ x ∈ l, f x = g x) → l.filterMap f = l.filterMap g
  | [], _ => rfl
  | x :: l, h => by
    rw [List.filterMap_cons, List.filterMap_cons, h x (List.mem_cons_self ..), fm_congr fun y m => h y (List.mem_cons_of_mem _ m)]
theorem cnt_sub {ls : List Lay} {I : List Nat} (h : Rising ls.length I) {j i : Nat} (e : I[j]? = some i) :
    cntA (sub ls I) j = (I.filter fun o => decide (o ≠ i) && decide (Ahead ls o i)).length := by
  unfold cntA
  rw [sub_len h.lt]
  conv => rhs; rw [← range_map_get I, List.filter_map, List.length_map]
  congr 1
  refine List.filter_congr fun k mk => ?_
  have hk := List.mem_range.mp mk
  have ek : I[k]? = some (I[k]?.getD 0) := by
    rw [List.getElem?_eq_getElem hk]
    rfl
  show (decide (k ≠ j) && decide (Ahead (sub ls I) k j)) = (decide (I[k]?.getD 0 ≠ i) && decide (Ahead ls (I[k]?.getD 0) i))
  have a := ahead_sub h ek e
  have b : (k = j) ↔ I[k]?.getD 0 = i := by
    have r1 := rising_iff h ek e
    have r2 := rising_iff h e ek
    omega
  rw [decide_eq_decide.mpr a, decide_eq_decide.mpr (not_congr b)]
/-! ### thinned -/
def keep (ls : List Lay) (m : Nat) : List Nat := (List.range ls.length).filter fun i => decide (cntA ls i < m)
def thinL (ls : List Lay) (m : Nat) : List Lay := sub ls (keep ls m)
theorem keep_rising (ls : List Lay) (m : Nat) : Rising ls.length (keep ls m) :=
  ⟨List.Pairwise.filter _ List.pairwise_lt_range, fun i h => List.mem_range.mp (List.mem_filter.mp h).1⟩
theorem cnt_mono {ls : List Lay} {a b : Nat} (ha : a < ls.length) (hb : b < ls.length) (h : Ahead ls a b) : cntA ls a < cntA ls b := by
  obtain ⟨rs, rk⟩ := rank_ex ls
  obtain ⟨_, ea⟩ := cnt_lt rk ha
  obtain ⟨_, eb⟩ := cnt_lt rk hb
  obtain ⟨l1, g1⟩ := List.getElem?_eq_some_iff.mp ea
  obtain ⟨l2, g2⟩ := List.getElem?_eq_some_iff.mp eb
  have ord := List.pairwise_iff_getElem.mp rk.ord
  rcases Nat.lt_trichotomy (cntA ls a) (cntA ls b) with q | q | q
  · exact q
  · have : a = b := by
      rw [← g1, ← g2]
      simp [q]
    subst this
    unfold Ahead at h
    omega
  · have := ord _ _ l2 l1 q
    rw [g1, g2] at this
    unfold Ahead at h this
    omega
/-- in the thinned row each keeps its rank -/
theorem cnt_thin {ls : List Lay} {m j i : Nat} (e : (keep ls m)[j]? = some i) : cntA (thinL ls m) j = cntA ls i := by
  unfold thinL
  rw [cnt_sub (keep_rising ls m) e]
  have mi := List.mem_of_getElem? e
  obtain ⟨m1, m2⟩ := List.mem_filter.mp mi
  have hi := List.mem_range.mp m1
  have lm := of_decide_eq_true m2
  unfold keep
  rw [List.filter_filter]
  unfold cntA
  congr 1
  refine List.filter_congr fun o mo => ?_
  have ho := List.mem_range.mp mo
  by_cases a : Ahead ls o i
  · have c := cnt_mono ho hi a
    have : decide (cntA ls o < m) = true := decide_eq_true (by omega)
    unfold cntA at this
    rw [this, Bool.and_true]
  · simp [a]
theorem thin_len {ls : List Lay} {m : Nat} : (thinL ls m).length = (keep ls m).length := sub_len (keep_rising ls m).lt
theorem sub_sub {ls : List Lay} {I : List Nat} (h : ∀ i ∈ I, i < ls.length) (f : Nat → Bool) (g : Nat → Bool) (hfg : ∀ j i, I[j]? = some i → f j = g i) :
    sub (sub ls I) ((List.range I.length).filter f) = sub ls (I.filter g) := by
  have e1 : sub (sub ls I) ((List.range I.length).filter f) = sub ls (((List.range I.length).filter f).map fun j => I[j]?.getD 0) := by
    unfold sub
    rw [List.filterMap_map]
    refine fm_congr fun j mj => ?_
    have hj := List.mem_range.mp (List.mem_filter.mp mj).1
    have q := sub_get h j
    unfold sub at q
    rw [q, List.getElem?_eq_getElem hj]
    simp [List.getElem?_eq_getElem hj]
  rw [e1]
  congr 1
  conv => rhs; rw [← range_map_get I, List.filter_map]
  congr 1
  refine List.filter_congr fun j mj => ?_
  have hj := List.mem_range.mp mj
  exact hfg j _ (by simp [List.getElem?_eq_getElem hj])
theorem thin_thin {ls : List Lay} {m k : Nat} : thinL (thinL ls m) k = thinL ls (min m k) := by
  have e : keep (thinL ls m) k = (List.range (keep ls m).length).filter fun j => decide (cntA (thinL ls m) j < k) := by
    unfold keep
    rw [thin_len]
    rfl
  have e2 : thinL (thinL ls m) k = sub (sub ls (keep ls m)) ((List.range (keep ls m).length).filter fun j => decide (cntA (thinL ls m) j < k)) := by
    show sub (thinL ls m) (keep (thinL ls m) k) = _
    rw [e]
    rfl
  rw [e2, sub_sub (keep_rising ls m).lt _ (fun i => decide (cntA ls i < k)) (fun j i q => by rw [cnt_thin q])]
  unfold thinL keep
  rw [List.filter_filter]
  congr 1
  refine List.filter_congr fun o _ => ?_
  rw [← Bool.decide_and]
  refine decide_eq_decide.mpr ?_
  omega
theorem thin_all {ls : List Lay} {m : Nat} (h : ls.length ≤ m) : thinL ls m = ls := by
  have e : keep ls m = List.range ls.length := List.filter_eq_self.mpr fun i mi => by
    obtain ⟨rs, rk⟩ := rank_ex ls
    have := (cnt_lt rk (List.mem_range.mp mi)).1
    exact decide_eq_true (by omega)
  unfold thinL
  rw [e]
  refine List.ext_getElem? fun j => ?_
  rw [sub_get (fun i m => List.mem_range.mp m)]
  by_cases hj : j < ls.length
  · rw [List.getElem?_range hj]
    simp
  · rw [List.getElem?_eq_none (show (List.range ls.length).length ≤ j by simp; omega), List.getElem?_eq_none (by omega)]
    rfl
theorem keep_len {ls : List Lay} {m : Nat} : (keep ls m).length ≤ m := by
  obtain ⟨rs, rk⟩ := rank_ex ls
  have nd : (keep ls m).Nodup := (List.nodup_range (n := ls.length)).sublist List.filter_sublist
  have sb : ∀ x ∈ keep ls m, x ∈ rs.take m := fun x mx => by
    obtain ⟨m1, m2⟩ := List.mem_filter.mp mx
    have lt := of_decide_eq_true m2
    obtain ⟨_, e⟩ := cnt_lt rk (List.mem_range.mp m1)
    refine List.mem_of_getElem? (i := cntA ls x) ?_
    rw [List.getElem?_take_of_lt lt]
    exact e
  have := pigeon _ _ nd sb
  rw [List.length_take] at this
  omega
/-- the numbers that are kept, from those ranked first -/
theorem keep_of_take {ls : List Lay} {rs : List Nat} (rk : IsRank ls rs) {m : Nat} {ms : List Nat} (p : ms.Perm (rs.take m)) (up : ms.Pairwise (· ≤ ·)) : ms = keep ls m := by
  have nd : rs.Nodup := rk.perm.nodup_iff.mpr List.nodup_range
  have mem : ∀ x, x ∈ rs.take m ↔ x ∈ keep ls m := by
    intro x
    unfold keep
    rw [List.mem_filter, List.mem_range, decide_eq_true_eq]
    constructor
    · intro mx
      obtain ⟨k, e⟩ := List.mem_iff_getElem?.mp mx
      have hk : k < m := by
        have := (List.getElem?_eq_some_iff.mp e).1
        rw [List.length_take] at this
        omega
      rw [List.getElem?_take_of_lt hk] at e
      exact ⟨rk.lt (List.mem_of_getElem? e), by rw [cnt_at rk e]; exact hk⟩
    · rintro ⟨lt, c⟩
      obtain ⟨_, e⟩ := cnt_lt rk lt
      refine List.mem_of_getElem? (i := cntA ls x) ?_
      rw [List.getElem?_take_of_lt c]
      exact e
  have nt : (rs.take m).Nodup := nd.sublist (List.take_sublist _ _)
  have nk : (keep ls m).Nodup := (List.nodup_range (n := ls.length)).sublist List.filter_sublist
  have p2 : (rs.take m).Perm (keep ls m) := (List.perm_ext_iff_of_nodup nt nk).mpr mem
  refine List.Perm.eq_of_pairwise (le := (· ≤ ·)) ?_ up ?_ (p.trans p2)
  · intro a b _ _ x y
    omega
  · exact (keep_rising ls m).up.imp fun h => Nat.le_of_lt h
theorem thin_mem {ls : List Lay} {m : Nat} {x : Lay} (h : x ∈ thinL ls m) : x ∈ ls := by
  obtain ⟨i, _, e⟩ := List.mem_filterMap.mp h
  exact List.mem_of_getElem? e
end Fd
namespace Fd
open PySem PySem.Spec PyProof.Rows L2
section
variable {X : Cx} {K : PySem.W.Frag} (h : X.K = K)
include h
theorem k_sortedI : CallR X (.builtin "sorted") (rSortedI K) := h ▸ cr_sortedI
end
theorem cut_take (xs : List V) (m : Nat) : cutV xs none (some (m : Int)) = xs.take m := by
  unfold cutV
  rw [HT.sIx_none, HT.sIx_nat, List.drop_zero, Nat.sub_zero]
  exact List.take_eq_take_iff.mpr (by omega)
theorem sorted_keep {ls : List Lay} {rs : List Nat} (rk : IsRank ls rs) {m : Nat} {ns : List Int} (p : ns.Perm ((rs.take m).map fun i : Nat => (i : Int))) (up : ns.Pairwise (· ≤ ·)) :
    ns = (keep ls m).map fun i : Nat => (i : Int) := by
  have nn : ∀ x ∈ ns, ∃ i : Nat, x = (i : Int) := fun x mx => by
    obtain ⟨i, _, e⟩ := List.mem_map.mp (p.mem_iff.mp mx)
    exact ⟨i, e.symm⟩
  have e : ns = (ns.map Int.toNat).map fun i : Nat => (i : Int) := by
    rw [List.map_map]
    conv => lhs; rw [← List.map_id ns]
    refine List.map_congr_left fun x mx => ?_
    obtain ⟨i, rfl⟩ := nn x mx
    rfl
  have p2 : (ns.map Int.toNat).Perm (rs.take m) := by
    have q := p.map Int.toNat
    rw [List.map_map] at q
    have id_ : (Int.toNat ∘ fun i : Nat => (i : Int)) = id := by
      funext i
      rfl
    rw [id_, List.map_id] at q
    exact q
  have up2 : (ns.map Int.toNat).Pairwise (· ≤ ·) := List.pairwise_map.mpr (up.imp fun {a b} h => by omega)
  rw [e, keep_of_take rk p2 up2]
theorem sub_append (ls : List Lay) (I J : List Nat) : sub ls (I ++ J) = sub ls I ++ sub ls J := by
  unfold sub
  exact List.filterMap_append ..
theorem sub_one {ls : List Lay} {i : Nat} {l : Lay} (h : ls[i]? = some l) : sub ls [i] = [l] := by
  simp [sub, h]
theorem sub_take {ls : List Lay} {I : List Nat} {j i : Nat} {l : Lay} (e : I[j]? = some i) (h : ls[i]? = some l) : sub ls (I.take (j + 1)) = sub ls (I.take j) ++ [l] := by
  rw [List.take_add_one, e, sub_append]
  congr 1
  exact sub_one h
theorem flen_or {α : Type} {p q r : α → Bool} : ∀ {l : List α}, (∀ x ∈ l, p x = (q x || r x) ∧ ¬ (q x = true ∧ r x = true)) → (l.filter p).length = (l.filter q).length + (l.filter r).length
  | [], _ => rfl
  | x :: l, h => by
    obtain ⟨a, b⟩ := h x (List.mem_cons_self ..)
    have ih := flen_or (l := l) fun y m => h y (List.mem_cons_of_mem _ m)
    rw [List.filter_cons, List.filter_cons, List.filter_cons, a]
    cases hq : q x <;> cases hr : r x <;> simp_all <;> omega
theorem cnt_parts {ls : List Lay} {x : Nat} (h : x < ls.length) : cntA ls x = ((List.range ls.length).filter fun o => decide (str ls x < str ls o)).length +
    ((List.range (ls.length - (x + 1))).filter fun j => decide (str ls (x + 1 + j) = str ls x)).length := by
  unfold cntA
  rw [flen_or (q := fun o => decide (str ls x < str ls o)) (r := fun o => decide (str ls o = str ls x) && decide (x < o)) (fun o _ => ?_)]
  · congr 1
    have e : ls.length = (x + 1) + (ls.length - (x + 1)) := by omega
    conv => lhs; rw [e, List.range_add, List.filter_append, List.length_append, List.filter_map, List.length_map]
    have z : (List.range (x + 1)).filter (fun o => decide (str ls o = str ls x) && decide (x < o)) = [] := List.filter_eq_nil_iff.mpr fun o m => by
      have := List.mem_range.mp m
      simp
      omega
    rw [z, List.length_nil, Nat.zero_add]
    congr 1
    refine List.filter_congr fun j _ => ?_
    have : decide (x < x + 1 + j) = true := decide_eq_true (by omega)
    simp [this]
  · unfold Ahead
    by_cases a : str ls x < str ls o <;> by_cases b : str ls o = str ls x <;> by_cases c : x < o <;> by_cases d : o = x <;> simp_all <;> omega
end Fd
namespace Fd
open PySem PySem.Spec PyProof.Rows L2
/-- over a range, the target a name, with a test -/
theorem lcRngT {K : PySem.W.Frag} {n : Nat} {tt : TT} {te : TE} {vs : List Nat} {σ : L2.St} {H1 : Hp} {Q : VK} {lo : Int} {j : Nat} (p : Option Addr) (at_ : Nat → Int) (hat : ∀ i : Nat, lo + (i : Int) = at_ i) (R : Nat → List PyData → Prop) (hp : PotO p H1) (hn : n ≤ 1000000) (r0 : R 0 []) (hw : ∀ x, wipe ((wipe σ vs).set j (some x)) vs = wipe σ vs)
    (step : ∀ i Ha ds (C : V → Hp → Prop) (N : Hp → Prop), i < n → St p H1 Ha → flatTs ds = true → R i ds →
      (∀ y H4 d, St p Ha H4 → flatT d = true → Dp K H4 y d → R (i + 1) (ds ++ [d]) → C y H4) → (∀ H3, St p Ha H3 → R (i + 1) ds → N H3) →
      tt ((wipe σ vs).set j (some (.int (at_ i)))) Ha fun b H3 => if b = true then te ((wipe σ vs).set j (some (.int (at_ i)))) H3 C else N H3)
    (done : ∀ D acc ds H', H1 D = none → St p H1 H' → H' D = some (.lst acc) → flatTs ds = true → DpAll K H' acc ds → R n ds → Q (.ref D) H') : LcK (Itr lo n) (gName j) tt te vs σ Q H1 := by
  refine lcW walk_range p R hp (fun _ _ => trivial) hn r0 ?_ done
  rintro i x Ha H' ds C N hi s fl r ⟨rfl, rfl⟩ k k2
  show gName j (V.int (lo + (i : Int))) _ _ _
  rw [hat]
  exact ⟨hw _, step i _ ds C N hi s fl r k k2⟩
theorem filt_succ (f : Nat → Bool) (m : Nat) : (List.range (m + 1)).filter f = (List.range m).filter f ++ (if f m = true then [m] else []) := by
  rw [List.range_succ, List.filter_append]
  congr 1
  rw [List.filter_cons]
  split <;> rfl
end Fd

namespace Fd
open PySem PySem.Spec PyProof.Rows L2
/-! ### t[lo:hi] and t + u of any tuples -/
def rSlF (K : PySem.W.Frag) : V → Option Int → Option Int → Hp → VK → Prop := fun x lo hi H Q => ∃ a xs, x = .ref a ∧ SqT K H a xs ∧ ∀ p H', Same H H' → SqT K H' p (cutV xs lo hi) → Q (.ref p) H'
def rCatF (K : PySem.W.Frag) : R2 := fun x y H Q => ∃ a b xs ys, x = .ref a ∧ y = .ref b ∧ SqT K H a xs ∧ SqT K H b ys ∧ xs.length + ys.length ≤ sizeLine ∧ ∀ p H', Same H H' → SqT K H' p (xs ++ ys) → Q (.ref p) H'
theorem cut_whole {xs : List V} {lo hi : Option Int} (h : HT.sIx xs.length 0 lo = 0 ∧ HT.sIx xs.length xs.length hi = xs.length) : cutV xs lo hi = xs := by
  unfold cutV
  rw [h.1, h.2, List.drop_zero, Nat.sub_zero, List.take_length]
section
variable {X : Cx} {K : PySem.W.Frag} (h : X.K = K)
include h
theorem k_slS : SlR X (rSlF K) := by
  subst h
  intro pins s σ H x v vl vu lo hi sl Q I rx hs pl pu q
  refine sl_tupA pins s σ H x v vl vu lo hi sl Q I rx hs pl pu ?_
  obtain ⟨a, xs, rfl, hx, k⟩ := q
  exact ⟨a, xs, rfl, hx, fun w => k a H (Same.refl _) (by rw [cut_whole w]; exact hx), fun _ p hp => k p _ (same_new hp) (SqT.of upd_same)⟩
theorem k_catS : OpR X (binaryOp .Add) (rCatF K) := by
  subst h
  intro pins s σ H x y v u Q I rx ry q
  refine op_catA pins s σ H x y v u Q I rx ry ?_
  obtain ⟨a, b, xs, ys, rfl, rfl, ha, hb, hz, k⟩ := q
  refine ⟨a, b, xs, ys, rfl, rfl, ha, hb, hz, fun e => k b H (Same.refl _) (by rw [e]; exact hb), fun _ e => k a H (Same.refl _) (by rw [e, List.append_nil]; exact ha), fun _ _ p hp => k p _ (same_new hp) (SqT.of upd_same)⟩
theorem k_max (hc : X.calm = true) : CallR X (.builtin "max") (rMax K) := h ▸ cr_max hc
end
theorem cut_drop (xs : List V) (m : Nat) : cutV xs (some (m : Int)) none = xs.drop m := by
  unfold cutV
  rw [HT.sIx_none, HT.sIx_nat]
  by_cases h : m ≤ xs.length
  · rw [Nat.min_eq_left h]
    exact List.take_of_length_le (by rw [List.length_drop]; omega)
  · rw [Nat.min_eq_right (by omega), List.drop_length, List.drop_eq_nil_of_le (by omega), List.take_nil]
theorem DpAll.take {K : PySem.W.Frag} {H : Hp} : ∀ {vs : List V} {ds : List PyData} (n : Nat), DpAll K H vs ds → DpAll K H (vs.take n) (ds.take n)
  | _, _, 0, _ => .nil
  | _, _, _ + 1, .nil => .nil
  | _, _, n + 1, .cons a b => .cons a (DpAll.take n b)
theorem DpAll.drop {K : PySem.W.Frag} {H : Hp} : ∀ {vs : List V} {ds : List PyData} (n : Nat), DpAll K H vs ds → DpAll K H (vs.drop n) (ds.drop n)
  | _, _, 0, h => h
  | _, _, _ + 1, .nil => .nil
  | _, _, n + 1, .cons _ b => DpAll.drop n b
/-! ### the first of a row -/
structure IsTop (ls : List Lay) (t : Nat) : Prop where
  lt : t < ls.length
  all : ∀ j, j < ls.length → j ≠ t → Ahead ls t j
theorem IsTop.uniq {ls : List Lay} {t u : Nat} (h : IsTop ls t) (k : IsTop ls u) : t = u := by
  by_cases e : t = u
  · exact e
  · have a := h.all u k.lt (fun z => e z.symm)
    have b := k.all t h.lt e
    unfold Ahead at a b
    omega
theorem top_of_rank {ls : List Lay} {i : Nat} {rs : List Nat} (h : IsRank ls (i :: rs)) : IsTop ls i := by
  refine ⟨h.lt (List.mem_cons_self ..), fun j hj ne => ?_⟩
  have mj : j ∈ i :: rs := h.perm.mem_iff.mpr (List.mem_range.mpr hj)
  rcases List.mem_cons.mp mj with e | mj
  · exact absurd e ne
  · exact (List.pairwise_cons.mp h.ord).1 j mj
/-- the row with its first rubbed by n; the row without its first -/
def rubL (ls : List Lay) (t : Nat) (n : Int) : List Lay := ls.modify t fun l => (l.1, l.2 - n)
theorem rub_get {ls : List Lay} {t i : Nat} {n : Int} {l : Lay} (h : ls[i]? = some l) : (rubL ls t n)[i]? = some (l.1, if i = t then l.2 - n else l.2) := by
  unfold rubL
  rw [List.getElem?_modify, h]
  by_cases e : i = t
  · simp [e]
  · have e' : ¬ t = i := fun z => e z.symm
    simp [e, e']
theorem rub_len {ls : List Lay} {t : Nat} {n : Int} : (rubL ls t n).length = ls.length := by
  unfold rubL
  rw [List.length_modify]
theorem rub_parts {ls : List Lay} {t : Nat} {n : Int} {l : Lay} (hp : ∀ x ∈ ls, 0 < x.2) (h : ls[t]? = some l) :
    (rubL ls t n).filter pos = ls.take t ++ (if l.2 ≤ n then [] else [(l.1, l.2 - n)]) ++ ls.drop (t + 1) := by
  obtain ⟨ht, e⟩ := List.getElem?_eq_some_iff.mp h
  unfold rubL
  rw [List.modify_eq_take_cons_drop ht, e, List.filter_append, List.filter_cons]
  have f1 : (ls.take t).filter pos = ls.take t := List.filter_eq_self.mpr fun x m => decide_eq_true (hp x (List.mem_of_mem_take m))
  have f2 : (ls.drop (t + 1)).filter pos = ls.drop (t + 1) := List.filter_eq_self.mpr fun x m => decide_eq_true (hp x (List.mem_of_mem_drop m))
  rw [f1, f2]
  by_cases q : l.2 ≤ n
  · rw [if_neg (by simp [pos]; omega), if_pos q, List.append_nil]
  · rw [if_pos (by simp [pos]; omega), if_neg q, List.append_assoc]
    rfl
theorem erase_step {ls : List Lay} {t i : Nat} {l : Lay} (h : ls[i]? = some l) : (ls.take (i + 1)).eraseIdx t = (ls.take i).eraseIdx t ++ (if i = t then [] else [l]) := by
  have hi := (List.getElem?_eq_some_iff.mp h).1
  have len : (ls.take i).length = i := by rw [List.length_take]; omega
  rw [List.take_add_one, h]
  show (ls.take i ++ [l]).eraseIdx t = _
  rcases Nat.lt_trichotomy t i with q | q | q
  · rw [List.eraseIdx_append_of_lt_length (by omega), if_neg (by omega)]
  · subst q
    rw [if_pos rfl, List.eraseIdx_append_of_length_le (by omega), len, Nat.sub_self, List.eraseIdx_of_length_le (l := ls.take t) (by omega)]
    rfl
  · rw [if_neg (by omega), List.eraseIdx_of_length_le (by simp; omega), List.eraseIdx_of_length_le (by omega)]
end Fd
namespace Fd
open PySem PySem.Spec PyProof.Rows L2
theorem lcK {K : PySem.W.Frag} {J : It} {n : Nat} {G : Hp → Prop} {Y : Nat → Hp → V → Hp → Prop} (w : Walk J n G Y) {g : TG} {tt : TT} {te : TE} {vs : List Nat} {σ : L2.St} {H1 : Hp} {Q : VK} (p : Option Addr) (R : Nat → List PyData → Prop)
    (hp : PotO p H1) (hG : ∀ H, St p H1 H → G H) (hn : n ≤ 1000000) (r0 : R 0 [])
    (step : ∀ i x Ha H' ds (C : V → Hp → Prop) (N : Hp → Prop), i < n → St p H1 Ha → flatTs ds = true → R i ds → Y i Ha x H' →
      (∀ y H4 d, St p Ha H4 → flatT d = true → Dp K H4 y d → R (i + 1) (ds ++ [d]) → C y H4) → (∀ H3, St p Ha H3 → R (i + 1) ds → N H3) →
      g x (wipe σ vs) H' fun σ2 H2 => wipe σ2 vs = wipe σ vs ∧ tt σ2 H2 fun b H3 => if b = true then te σ2 H3 C else N H3)
    (done : ∀ D acc ds H', H1 D = none → St p H1 H' → H' D = some (.lst acc) → flatTs ds = true → DpAll K H' acc ds → R n ds → Q (.ref D) H') : LcK J g tt te vs σ Q H1 :=
  lcW w p R hp hG hn r0 step done
end Fd
namespace Fd
open PySem PySem.Spec PyProof.Rows L2
theorem sameT {K : PySem.W.Frag} {H H1 : Hp} {a : Addr} {xs : List V} (s : Same H H1) (h : SqT K H a xs) : SqT K H1 a xs := St.tup potN (St.ofSame potN s) h
theorem dpsSame {K : PySem.W.Frag} {H H1 : Hp} {vs : List V} {ds : List PyData} (s : Same H H1) (z : flatTs ds = true) (k : DpAll K H vs ds) : DpAll K H1 vs ds := dpsSt potN (St.ofSame potN s) z k
end Fd

/-! ### sorted, of layers: pairs of a text and an int -/
namespace Fd
open PySem PySem.Spec PyProof.Rows L2 SrtO Srt
/-- x before y: by tag, then by strength -/
def ltL (x y : Lay) : Bool := if x.1 = y.1 then decide (x.2 < y.2) else decide (x.1.cps.toList < y.1.cps.toList)
theorem str_eq {x y : Str} (h : x.cps.toList = y.cps.toList) : x = y := by
  cases x with
  | mk a =>
    cases y with
    | mk b =>
      have : a = b := Array.toList_inj.mp h
      rw [this]
def leL (x y : Lay) : Prop := ltL y x = false
theorem ltL_iff {x y : Lay} : ltL x y = true ↔ (x.1 = y.1 ∧ x.2 < y.2) ∨ (x.1 ≠ y.1 ∧ x.1.cps.toList < y.1.cps.toList) := by
  unfold ltL
  by_cases e : x.1 = y.1
  · rw [if_pos e, decide_eq_true_eq]
    simp [e]
  · rw [if_neg e, decide_eq_true_eq]
    simp [e]
theorem swoL : Swo ltL := by
  have no : ∀ {x y : Lay}, ltL x y = false ↔ ¬ ((x.1 = y.1 ∧ x.2 < y.2) ∨ (x.1 ≠ y.1 ∧ x.1.cps.toList < y.1.cps.toList)) := fun {x y} => by
    rw [← ltL_iff]
    simp
  refine ⟨fun x y h => no.mpr fun k => ?_, fun x y z h1 h2 => no.mpr fun k => ?_⟩
  · rcases ltL_iff.mp h with ⟨a, b⟩ | ⟨a, b⟩
    · rcases k with ⟨c, d⟩ | ⟨c, d⟩
      · omega
      · exact c a.symm
    · rcases k with ⟨c, d⟩ | ⟨c, d⟩
      · exact a c.symm
      · exact absurd (List.lt_trans b d) (List.lt_irrefl _)
  · have n1 := no.mp h1
    have n2 := no.mp h2
    rcases k with ⟨c, d⟩ | ⟨c, d⟩
    · by_cases e : y.1 = x.1
      · have e1 : ¬ y.2 < x.2 := fun q => n1 (.inl ⟨e, q⟩)
        have e2 : ¬ z.2 < y.2 := fun q => n2 (.inl ⟨by rw [c, e], q⟩)
        omega
      · have e1 : ¬ y.1.cps.toList < x.1.cps.toList := fun q => n1 (.inr ⟨e, q⟩)
        have e2 : ¬ z.1.cps.toList < y.1.cps.toList := fun q => n2 (.inr ⟨by rw [c]; exact fun w => e w.symm, q⟩)
        rw [c] at e2
        exact e (str_eq (List.le_antisymm e2 e1))
    · have l1 : x.1.cps.toList ≤ y.1.cps.toList := by
        by_cases e : y.1 = x.1
        · rw [e]
          exact List.le_refl _
        · exact fun q => n1 (.inr ⟨e, q⟩)
      have l2 : y.1.cps.toList ≤ z.1.cps.toList := by
        by_cases e : z.1 = y.1
        · rw [e]
          exact List.le_refl _
        · exact fun q => n2 (.inr ⟨e, q⟩)
      exact (List.le_trans l1 l2) d
/-- a value that is a layer -/
def IsLay (h : Heap) (v : Value) (l : Lay) : Prop := ∃ a o t u n, v = .ref a ∧ h.get? a = some o ∧ o.cls = .type "tuple" ∧ o.data = .seq #[.str l.1 t, .int l.2 u] n
theorem IsLay.keeps {h h' : Heap} {v : Value} {l : Lay} (p : IsLay h v l) (k : ∀ b o, h.get? b = some o → o.cls = .type "tuple" → h'.get? b = some o) : IsLay h' v l := by
  obtain ⟨a, o, t, u, n, e, ho, hc, hd⟩ := p
  exact ⟨a, o, t, u, n, e, k _ _ ho hc, hc, hd⟩
theorem IsLay.uniq {h : Heap} {v : Value} {l m : Lay} (p : IsLay h v l) (q : IsLay h v m) : l = m := by
  obtain ⟨a, o, t, u, n, e, ho, hc, hd⟩ := p
  obtain ⟨a', o', t', u', n', e', ho', hc', hd'⟩ := q
  rw [e] at e'
  cases e'
  rw [ho] at ho'
  cases ho'
  rw [hd] at hd'
  injection hd' with h1 h2
  have h3 := congrArg Array.toList h1
  simp at h3
  obtain ⟨⟨x1, _⟩, ⟨x2, _⟩⟩ := h3
  exact Prod.ext x1 x2
section
variable {prog : Program} {w : World} {A : Around} {E : Value → Shared → Prop} {s : Shared}
theorem firstsL {h : Heap} : ∀ {vs : List Value}, (∀ v ∈ vs, ∃ l, IsLay h v l) → ∃ fs : List Value, PySem.W.KatTups h vs fs ∧ fs.length = vs.length ∧ ∀ f ∈ fs, ∃ x t, f = Value.str x t
  | [], _ => ⟨[], PySem.W.KatTups.nil, rfl, fun _ hm => by simp at hm⟩
  | v :: vs, hp => by
    obtain ⟨fs, h1, h2, h3⟩ := firstsL (vs := vs) fun v' hm => hp v' (List.mem_cons_of_mem _ hm)
    obtain ⟨l, a, o, t, u, n, e, ho, hc, hd⟩ := hp v (List.mem_cons_self ..)
    subst e
    refine ⟨.str l.1 t :: fs, PySem.W.KatTups.cons ho hc hd rfl h1, by rw [List.length_cons, List.length_cons, h2], fun f hm => ?_⟩
    rcases List.mem_cons.mp hm with rfl | hm
    · exact ⟨l.1, t, rfl⟩
    · exact h3 f hm
theorem layCmp {vs : List Value} {k : Value → Lay} (hp : ∀ v ∈ vs, IsLay s.heap v (k v)) : Cmp prog w A s (tuples' true) (fun p => p.1 ∈ vs) (lt2 fun v u => ltL (k v) (k u)) := by
  intro p q hm hm'
  have h1 := hp _ hm
  have h2 := hp _ hm'
  show wpAny (model prog w) A (keyLt' (tuples' true) p.1 q.1) (fun r s' => s' = s ∧ r = ltL (k p.1) (k q.1)) (fun _ _ => False) s
  unfold ltL
  generalize (k p.1) = l at h1 ⊢
  generalize (k q.1) = m at h2 ⊢
  obtain ⟨x, y⟩ := l
  obtain ⟨x', y'⟩ := m
  obtain ⟨a, o, t, u, n, e, ho, hc, hd⟩ := h1
  obtain ⟨a', o', t', u', n', e', ho', hc', hd'⟩ := h2
  rw [e, e']
  refine PySem.W.kat_lt ho hd ho' hd' ?_
  show PySem.W.KatLex prog w A true (decide (2 < 2)) _ [(.str x t, .str x' t'), (.int y u, .int y' u')] 0 s
  refine PySem.W.kat_cons (SeqAt.EqAt.str_str x t x' t' prog w _ _ ?_)
  refine PySem.W.kat_go (fun e1 => ?_) (fun e1 => ?_)
  · have ex : x = x' := by simpa using e1
    refine PySem.W.kat_yes (PySem.W.kat_cons (SeqAt.EqAt.int_int y u y' u' prog w _ _ ?_))
    refine PySem.W.kat_go (fun e2 => ?_) (fun e2 => ?_)
    · have ey : y = y' := by simpa using e2
      have e3 : (if x = x' then decide (y < y') else decide (x.cps.toList < x'.cps.toList)) = false := by
        rw [if_pos ex, ey]
        exact decide_eq_false (Int.lt_irrefl _)
      exact PySem.W.kat_yes (PySem.W.kat_nil ⟨rfl, e3.symm⟩)
    · have e3 : (if x = x' then decide (y < y') else decide (x.cps.toList < x'.cps.toList)) = decide (y < y') := if_pos ex
      refine PySem.W.kat_no (PySem.W.kat_one _ _ (PyProof.Rows.lt_int ?_))
      exact (show s = s ∧ decide (y < y') = (if x = x' then decide (y < y') else decide (x.cps.toList < x'.cps.toList)) from ⟨rfl, e3.symm⟩)
  · have ex : ¬ x = x' := by simpa using e1
    have e3 : (if x = x' then decide (y < y') else decide (x.cps.toList < x'.cps.toList)) = decide (x.cps.toList < x'.cps.toList) := if_neg ex
    exact PySem.W.kat_no (oneLt_str ⟨rfl, e3.symm⟩)
theorem laysSortable {a : Addr} {vs : List Value} {k : Value → Lay} (h0 : 0 < vs.length) (hp : ∀ v ∈ vs, IsLay s.heap v (k v)) (ha : ∀ o, s.heap.get? a = some o → o.cls ≠ .type "tuple") : SortableO prog w A s a vs fun v u => ltL (k v) (k u) := by
  intro h' keep
  have hp' : ∀ v ∈ vs, IsLay h' v (k v) := fun v hm => (hp v hm).keeps fun b o e c => keep b o (fun z => by subst z; exact ha o e c) e
  obtain ⟨fs, h1, h2, h3⟩ := firstsL fun v hm => ⟨_, hp' v hm⟩
  refine ⟨tuples' true, fun Q E hq => ?_, layCmp hp'⟩
  refine PySem.W.kat_kind (T := .type "str") h1 (by omega) (fun f hm => ?_) (by rfl) ?_
  · obtain ⟨x, t, rfl⟩ := h3 f hm
    exact PySem.W.Looks.now
  · have e : (Value.type "str" != Value.type "tuple") = true := by first | decide +kernel | rfl | decide
    rw [e]
    exact hq
theorem sortedLays {l : Addr} {vs : List Value} {k : Value → Lay} {Q : Value → Shared → Prop} (hl : s.heap.IsList l vs.toArray) (hz : vs.length ≤ sizeLine) (hp : ∀ v ∈ vs, IsLay s.heap v (k v))
    (h : ∀ (h' : Heap) (d : Addr) (out : List Value), Srtd (fun v u => ltL (k v) (k u)) out → Stb (fun v u => ltL (k v) (k u)) out vs → (∀ b o, s.heap.get? b = some o → h'.get? b = some o) → s.heap.objs.size ≤ d → (∃ n, h'.get? d = some (seqObj "list" out.toArray n)) → Q (.ref d) { s with heap := h' }) :
    wpAny (model prog w) A (call (.builtin "sorted") [.ref l]) Q E s := by
  have O : Swo fun v u => ltL (k v) (k u) := ⟨fun x y h => swoL.asym _ _ h, fun x y z h1 h2 => swoL.tr _ _ _ h1 h2⟩
  refine sorted_ord O hl hz (fun h2 h₁ a ha kk => ?_) fun out hs hb => ?_
  · refine laysSortable (s := { s with heap := h₁ }) (by omega) (fun v hm => (hp v hm).keeps fun b o e _ => (kk b o e).2) fun o e => ?_
    have e' : some o = some (seqObj "list" vs.toArray 0) := e.symm.trans ha
    cases e'
    intro c
    exact absurd (Value.type.inj c) (by decide)
  · exact h _ _ out hs hb (fun b o e => sortedAll_old e) (Nat.le_succ _) (sortedAll_at s.heap vs out.toArray)
end
/-- sorted(xs), xs a list of layers -/
def rSortedL (K : PySem.W.Frag) : List V → Hp → VK → Prop := fun vs H Q => ∃ (a : Addr) (xs : List V) (ls : List Lay), vs = [V.ref a] ∧ SqL K H a xs ∧ DpAll K H xs (ls.map layD) ∧
  ∀ (ys : List V) (ms : List Lay) (p : Addr), ms.Perm ls → ms.Pairwise leL → DpAll K H ys (ms.map layD) → H p = none → Q (.ref p) (upd H p (.lst ys))
section
variable {X : Cx} {K : PySem.W.Frag}
theorem laysOf {pins : List (Addr × Obj)} {σ : L2.St} {H : Hp} {s : Shared} {xs : List V} {its : List Value} {ls : List Lay} (I : Inv X pins σ H s) (rv : Vals xs its) (hx : DpAll X.K H xs (ls.map layD)) :
    ∃ k : Value → Lay, (∀ v ∈ its, IsLay s.heap v (k v) ∧ Dp X.K H (backV v) (layD (k v))) ∧ xs = its.map backV ∧ (∀ u ∈ its, ∃ a, u = Value.ref a) ∧ its.map k = ls := by
  have lay_dp : ∀ t l, Dp X.K H (V.ref t) (layD l) → IsLay s.heap (Value.ref t) l := fun t l d => by
    obtain ⟨t', e, sq⟩ := lay_inv d
    cases e
    obtain ⟨its2, r2, tup, _⟩ := I.tuple sq
    obtain ⟨o, ho, hc, n, hd⟩ := tup
    obtain ⟨u1, u2, rfl, ri, rj⟩ := vals2 r2
    obtain ⟨t1, rfl⟩ := ri
    obtain ⟨t2, rfl⟩ := rj
    exact ⟨t, o, t1, t2, n, rfl, ho, hc, hd⟩
  obtain ⟨e1, e2⟩ := refs_back rv fun x m => by
    obtain ⟨i, e⟩ := List.mem_iff_getElem?.mp m
    obtain ⟨l, b, _, e2, sq, d⟩ := lays_get hx e
    exact ⟨b, e2⟩
  have at_ : ∀ (i : Nat) v, its[i]? = some v → ∃ l, ls[i]? = some l ∧ Dp X.K H (backV v) (layD l) ∧ IsLay s.heap v l := fun i v hi => by
    obtain ⟨t, rfl⟩ := e2 v (List.mem_of_getElem? hi)
    have hxi : xs[i]? = some (V.ref t) := by
      rw [e1, List.getElem?_map, hi]
      rfl
    obtain ⟨l, b, hl, e, sq, d⟩ := lays_get hx hxi
    exact ⟨l, hl, d, lay_dp t l d⟩
  let k : Value → Lay := fun v => Classical.epsilon fun l => IsLay s.heap v l
  have hk : ∀ v ∈ its, IsLay s.heap v (k v) ∧ Dp X.K H (backV v) (layD (k v)) := fun v hv => by
    obtain ⟨i, hi⟩ := List.mem_iff_getElem?.mp hv
    obtain ⟨l, _, d, il⟩ := at_ i v hi
    have sp : IsLay s.heap v (k v) := Classical.epsilon_spec ⟨l, il⟩
    rw [sp.uniq il]
    exact ⟨il, d⟩
  have mapk : its.map k = ls := by
    refine List.ext_getElem? fun i => ?_
    rw [List.getElem?_map]
    cases hi : its[i]? with
    | none =>
      have len1 := lays_len hx
      have len2 : xs.length = its.length := by rw [e1, List.length_map]
      have : its.length ≤ i := List.getElem?_eq_none_iff.mp hi
      rw [List.getElem?_eq_none (show ls.length ≤ i by omega)]
      rfl
    | some v =>
      obtain ⟨l, hl, d, il⟩ := at_ i v hi
      rw [hl]
      show some (k v) = some l
      rw [(hk v (List.mem_of_getElem? hi)).1.uniq il]
  exact ⟨k, hk, e1, e2, mapk⟩
theorem k_sortedL (h : X.K = K) : CallR X (.builtin "sorted") (rSortedL K) := by
  subst h
  intro pins s σ H vs us Q I r h
  obtain ⟨a, xs, ls, rfl, hs, hx, q⟩ := h
  obtain ⟨its, rv, hl, hz⟩ := I.list hs
  obtain ⟨u, rfl, ru⟩ := vals1 r
  obtain rfl : u = Value.ref a := ru
  obtain ⟨k, hk, e1, e2, mapk⟩ := laysOf I rv hx
  refine sortedLays (k := k) hl.isList (by rw [← rv.length]; exact hz) (fun v hv => (hk v hv).1) fun h' d out h1 h2 kp hd hn => ?_
  have mem : ∀ u ∈ out, u ∈ its := fun u hu => h2.perm.mem_iff.mp hu
  have h3 : ∀ u ∈ out, ∃ a, u = Value.ref a := fun u hu => e2 u (mem u hu)
  obtain ⟨n, hn⟩ := hn
  have all : ∀ o : List Value, (∀ u ∈ o, u ∈ its) → DpAll X.K H (o.map backV) ((o.map k).map layD) := fun o => by
    induction o with
    | nil => exact fun _ => .nil
    | cons u o ih => exact fun m => .cons (hk u (m u (List.mem_cons_self ..))).2 (ih fun y my => m y (List.mem_cons_of_mem _ my))
  refine ⟨.ref d, upd H d (.lst (out.map backV)), I.laid (t' := s.toks) kp hd ⟨?_, out, n, vals_back h3, hn⟩, rfl, q _ (out.map k) d ?_ ?_ (all out mem) (I.hok.fresh hd)⟩
  · rw [List.length_map, h2.perm.length_eq, ← rv.length]
    exact hz
  · rw [← mapk]
    exact h2.perm.map k
  · exact List.pairwise_map.mpr h1
end
end Fd

/-! ### rows in their normal form -/
namespace Fd
open PySem PySem.Spec PyProof.Rows L2
def ins (l : Lay) : List Lay → List Lay
  | [] => [l]
  | m :: r => if l.1 = m.1 ∧ m.2 < l.2 then m :: ins l r else l :: m :: r
def nrm : List Lay → List Lay
  | [] => []
  | l :: r => ins l (nrm r)
def Settled : List Lay → Prop
  | [] => True
  | x :: r => (∀ y, r.head? = some y → x.1 = y.1 → x.2 ≤ y.2) ∧ Settled r
theorem ins_tags (l : Lay) : ∀ r : List Lay, (ins l r).map Prod.fst = l.1 :: r.map Prod.fst
  | [] => rfl
  | m :: r => by
    unfold ins
    by_cases h : l.1 = m.1 ∧ m.2 < l.2
    · rw [if_pos h, List.map_cons, ins_tags l r, List.map_cons, h.1]
    · rw [if_neg h]
      rfl
theorem nrm_tags : ∀ ls : List Lay, (nrm ls).map Prod.fst = ls.map Prod.fst
  | [] => rfl
  | l :: r => by
    show (ins l (nrm r)).map Prod.fst = _
    rw [ins_tags, nrm_tags r]
    rfl
theorem ins_perm (l : Lay) : ∀ r : List Lay, (ins l r).Perm (l :: r)
  | [] => List.Perm.refl _
  | m :: r => by
    unfold ins
    by_cases h : l.1 = m.1 ∧ m.2 < l.2
    · rw [if_pos h]
      exact ((ins_perm l r).cons m).trans (List.Perm.swap l m r)
    · rw [if_neg h]
theorem nrm_perm : ∀ ls : List Lay, (nrm ls).Perm ls
  | [] => List.Perm.refl _
  | l :: r => (ins_perm l (nrm r)).trans ((nrm_perm r).cons l)
theorem ins_head {l : Lay} {r : List Lay} {y : Lay} (h : (ins l r).head? = some y) : y = l ∨ (r.head? = some y ∧ l.1 = y.1 ∧ y.2 < l.2) := by
  cases r with
  | nil =>
    left
    exact (Option.some.inj h).symm
  | cons m r =>
    unfold ins at h
    by_cases q : l.1 = m.1 ∧ m.2 < l.2
    · rw [if_pos q] at h
      have := Option.some.inj h
      subst this
      exact .inr ⟨rfl, q.1, q.2⟩
    · rw [if_neg q] at h
      exact .inl (Option.some.inj h).symm
theorem ins_settled {l : Lay} : ∀ {r : List Lay}, Settled r → Settled (ins l r)
  | [], _ => And.intro (fun y h => nomatch h) True.intro
  | m :: r, h => by
    unfold ins
    by_cases q : l.1 = m.1 ∧ m.2 < l.2
    · rw [if_pos q]
      refine ⟨fun y hy e => ?_, ins_settled h.2⟩
      rcases ins_head hy with rfl | ⟨hy2, _⟩
      · omega
      · exact h.1 y hy2 e
    · rw [if_neg q]
      refine ⟨fun y hy e => ?_, h⟩
      obtain rfl := Option.some.inj hy
      have : ¬ m.2 < l.2 := fun z => q ⟨e, z⟩
      omega
theorem nrm_settled : ∀ ls : List Lay, Settled (nrm ls)
  | [] => trivial
  | l :: r => ins_settled (nrm_settled r)
theorem nrm_self : ∀ {ls : List Lay}, Settled ls → nrm ls = ls
  | [], _ => rfl
  | l :: r, h => by
    show ins l (nrm r) = _
    rw [nrm_self h.2]
    cases r with
    | nil => rfl
    | cons m r =>
      unfold ins
      rw [if_neg]
      rintro ⟨a, b⟩
      have := h.1 m rfl a
      omega
theorem nrm_nrm (ls : List Lay) : nrm (nrm ls) = nrm ls := nrm_self (nrm_settled ls)
theorem ins_comm {a b : Lay} (e : a.1 = b.1) : ∀ s : List Lay, ins a (ins b s) = ins b (ins a s)
  | [] => by
    obtain ⟨t, x⟩ := a
    obtain ⟨u, y⟩ := b
    simp only at e
    subst e
    unfold ins ins
    simp only [true_and]
    rcases Int.lt_trichotomy x y with q | q | q
    · rw [if_neg (by omega), if_pos q]
    · subst q
      rfl
    · rw [if_pos q, if_neg (by omega)]
  | m :: s => by
    have ih := ins_comm e s
    obtain ⟨t, x⟩ := a
    obtain ⟨u, y⟩ := b
    obtain ⟨v, z⟩ := m
    simp only at e
    subst e
    by_cases tv : t = v
    · subst tv
      by_cases h1 : z < x
      · by_cases h2 : z < y
        · have e1 : ins (t, y) ((t, z) :: s) = (t, z) :: ins (t, y) s := by simp [ins, h2]
          have e2 : ins (t, x) ((t, z) :: s) = (t, z) :: ins (t, x) s := by simp [ins, h1]
          have e3 : ins (t, x) ((t, z) :: ins (t, y) s) = (t, z) :: ins (t, x) (ins (t, y) s) := by simp [ins, h1]
          have e4 : ins (t, y) ((t, z) :: ins (t, x) s) = (t, z) :: ins (t, y) (ins (t, x) s) := by simp [ins, h2]
          rw [e1, e2, e3, e4, ih]
        · have h3 : y < x := by omega
          have h4 : ¬ x < y := by omega
          simp [ins, h1, h2, h3, h4]
      · by_cases h2 : z < y
        · have h3 : x < y := by omega
          have h4 : ¬ y < x := by omega
          simp [ins, h1, h2, h3, h4]
        · rcases Int.lt_trichotomy x y with q | q | q
          · have h4 : ¬ y < x := by omega
            simp [ins, h1, h2, q, h4]
          · subst q
            rfl
          · have h4 : ¬ x < y := by omega
            simp [ins, h1, h2, q, h4]
    · rcases Int.lt_trichotomy x y with q | q | q
      · have h4 : ¬ y < x := by omega
        simp [ins, tv, q, h4]
      · subst q
        rfl
      · have h4 : ¬ x < y := by omega
        simp [ins, tv, q, h4]
theorem nrm_swap {a b : Lay} (e : a.1 = b.1) (r : List Lay) : ∀ p : List Lay, nrm (p ++ a :: b :: r) = nrm (p ++ b :: a :: r)
  | [] => ins_comm e (nrm r)
  | x :: p => by
    show ins x (nrm (p ++ a :: b :: r)) = ins x (nrm (p ++ b :: a :: r))
    rw [nrm_swap e r p]
def Uni (g : List Lay) : Prop := ∀ x ∈ g, ∀ y ∈ g, x.1 = y.1
theorem nrm_uni {g h : List Lay} (p : g.Perm h) : Uni g → nrm g = nrm h := by
  induction p with
  | nil => exact fun _ => rfl
  | cons x p ih =>
    intro u
    show ins x _ = ins x _
    rw [ih fun a ma b mb => u a (List.mem_cons_of_mem _ ma) b (List.mem_cons_of_mem _ mb)]
  | swap x y l =>
    intro u
    exact ins_comm (u y (List.mem_cons_self ..) x (List.mem_cons_of_mem _ (List.mem_cons_self ..))) (nrm l)
  | trans p q ih1 ih2 =>
    intro u
    rw [ih1 u]
    exact ih2 fun a ma b mb => u a (p.mem_iff.mpr ma) b (p.mem_iff.mpr mb)
theorem sorted_settled : ∀ {g : List Lay}, g.Pairwise leL → Settled g
  | [], _ => trivial
  | x :: r, h => by
    obtain ⟨a, b⟩ := List.pairwise_cons.mp h
    refine ⟨fun y hy e => ?_, sorted_settled b⟩
    have q := a y (List.mem_of_mem_head? hy)
    unfold leL ltL at q
    rw [if_pos e.symm] at q
    have := of_decide_eq_false q
    omega
/-- what sorted gives of a stretch -/
theorem sorted_nrm {g ms : List Lay} (u : Uni g) (p : ms.Perm g) (s : ms.Pairwise leL) : ms = nrm g := by
  rw [nrm_uni p.symm u, nrm_self (sorted_settled s)]
theorem ins_app {x : Lay} {S : List Lay} (h : ∀ m, S.head? = some m → x.1 ≠ m.1) : ∀ T : List Lay, ins x (T ++ S) = ins x T ++ S
  | [] => by
    cases S with
    | nil => rfl
    | cons m S =>
      show ins x (m :: S) = x :: m :: S
      unfold ins
      rw [if_neg]
      exact fun q => h m rfl q.1
  | m :: T => by
    show ins x (m :: (T ++ S)) = _
    unfold ins
    by_cases q : x.1 = m.1 ∧ m.2 < x.2
    · rw [if_pos q, if_pos q, ins_app h T]
      rfl
    · rw [if_neg q, if_neg q]
      rfl
theorem nrm_head {R : List Lay} {m : Lay} (h : (nrm R).head? = some m) : ∃ m', R.head? = some m' ∧ m'.1 = m.1 := by
  have t := nrm_tags R
  cases e : nrm R with
  | nil => rw [e] at h; cases h
  | cons a b =>
    rw [e] at h t
    obtain rfl := Option.some.inj h
    cases R with
    | nil => cases t
    | cons c d => exact ⟨c, rfl, (List.cons.inj t).1.symm⟩
theorem nrm_app {R : List Lay} : ∀ {g : List Lay}, (∀ x ∈ g, ∀ m, R.head? = some m → x.1 ≠ m.1) → nrm (g ++ R) = nrm g ++ nrm R
  | [], _ => rfl
  | x :: g, h => by
    show ins x (nrm (g ++ R)) = ins x (nrm g) ++ nrm R
    rw [nrm_app fun y my => h y (List.mem_cons_of_mem _ my)]
    refine ins_app (fun m hm => ?_) (nrm g)
    obtain ⟨m', h1, h2⟩ := nrm_head hm
    rw [← h2]
    exact h x (List.mem_cons_self ..) m' h1
/-- neighbours have unlike tags -/
def Adj : List (List Lay) → Prop
  | [] => True
  | [_] => True
  | g :: h :: r => (∀ x ∈ g, ∀ y ∈ h, x.1 ≠ y.1) ∧ Adj (h :: r)
theorem nrm_flat : ∀ {gss : List (List Lay)}, Adj gss → (∀ g ∈ gss, g ≠ []) → nrm gss.flatten = (gss.map nrm).flatten
  | [], _, _ => rfl
  | [g], _, _ => by simp
  | g :: h :: r, a, ne => by
    have ih := nrm_flat a.2 fun x m => ne x (List.mem_cons_of_mem _ m)
    show nrm (g ++ (h :: r).flatten) = nrm g ++ ((h :: r).map nrm).flatten
    rw [← ih]
    refine nrm_app fun x mx m hm => ?_
    cases h with
    | nil => exact absurd rfl (ne [] (List.mem_cons_of_mem _ (List.mem_cons_self ..)))
    | cons c d =>
      have e : ((c :: d) :: r).flatten.head? = some c := rfl
      rw [e] at hm
      obtain rfl := Option.some.inj hm
      exact a.1 x mx c (List.mem_cons_self ..)
theorem adj_new {h : List Lay} : ∀ {i : List (List Lay)} {g : List Lay}, Adj (i ++ [g]) → (∀ x ∈ g, ∀ y ∈ h, x.1 ≠ y.1) → Adj (i ++ [g] ++ [h])
  | [], g, _, k => ⟨k, trivial⟩
  | [a], g, q, k => ⟨q.1, k, trivial⟩
  | a :: b :: i, g, q, k => ⟨q.1, adj_new (i := b :: i) q.2 k⟩
theorem adj_more {h : List Lay} : ∀ {i : List (List Lay)} {g : List Lay}, Adj (i ++ [g]) → (∀ y ∈ h, ∃ x ∈ g, y.1 = x.1) → Adj (i ++ [h])
  | [], g, _, k => trivial
  | [a], g, q, k => ⟨fun x mx y my => by
      obtain ⟨z, mz, e⟩ := k y my
      rw [e]
      exact q.1 x mx z mz, trivial⟩
  | a :: b :: i, g, q, k => ⟨q.1, adj_more (i := b :: i) q.2 k⟩
/-! inversions -/
def inv : List Lay → Nat
  | [] => 0
  | l :: r => r.countP (fun m => decide (m.2 < l.2)) + inv r
theorem inv_swap {a b : Lay} (h : b.2 < a.2) (r : List Lay) : ∀ p : List Lay, inv (p ++ b :: a :: r) + 1 = inv (p ++ a :: b :: r)
  | [] => by
    show (a :: r).countP _ + (r.countP _ + inv r) + 1 = (b :: r).countP _ + (r.countP _ + inv r)
    rw [List.countP_cons_of_neg (by simp; omega), List.countP_cons_of_pos (by simpa using h)]
    omega
  | x :: p => by
    have ih := inv_swap h r p
    show (p ++ b :: a :: r).countP _ + inv (p ++ b :: a :: r) + 1 = (p ++ a :: b :: r).countP _ + inv (p ++ a :: b :: r)
    have pm : (p ++ b :: a :: r).Perm (p ++ a :: b :: r) := List.Perm.append_left p (List.Perm.swap a b r)
    rw [pm.countP_eq]
    omega
theorem inv_le : ∀ ls : List Lay, inv ls ≤ ls.length * ls.length
  | [] => Nat.le_refl _
  | l :: r => by
    have ih := inv_le r
    have c := List.countP_le_length (p := fun m : Lay => decide (m.2 < l.2)) (l := r)
    show r.countP _ + inv r ≤ _
    rw [List.length_cons, Nat.mul_succ, Nat.succ_mul]
    omega
theorem settled_of : ∀ {ls : List Lay}, (∀ (k : Nat) a b, ls[k]? = some a → ls[k + 1]? = some b → a.1 = b.1 → a.2 ≤ b.2) → Settled ls
  | [], _ => trivial
  | x :: r, h => by
    refine ⟨fun y hy e => h 0 x y rfl (by rw [List.getElem?_cons_succ, ← List.head?_eq_getElem?]; exact hy) e, settled_of fun k a b p q => h (k + 1) a b (by simpa using p) (by simpa using q)⟩
theorem parts2 {ls : List Lay} {k : Nat} {a b : Lay} (h : ls[k]? = some a) (h2 : ls[k + 1]? = some b) : ls = ls.take k ++ a :: b :: ls.drop (k + 2) := by
  obtain ⟨l1, e1⟩ := List.getElem?_eq_some_iff.mp h
  obtain ⟨l2, e2⟩ := List.getElem?_eq_some_iff.mp h2
  conv => lhs; rw [← List.take_append_drop k ls, List.drop_eq_getElem_cons l1, List.drop_eq_getElem_cons l2, e1, e2]
theorem inv_zero {ls : List Lay} (h : inv ls = 0) : Settled ls := settled_of fun k a b p q e => by
  by_cases z : b.2 < a.2
  · have s := inv_swap z (ls.drop (k + 2)) (ls.take k)
    rw [← parts2 p q] at s
    omega
  · omega
end Fd

/-! ### sorted of a tuple of layers -/
namespace Fd
open PySem PySem.Spec PyProof.Rows L2 SrtO Srt HT
section
variable {prog : Program} {w : World} {A : Around} {E : Value → Shared → Prop} {s : Shared}
/-- the heap behind what collects the items of a tuple -/
def gathered (h : Heap) (vs : List Value) : Heap := (h.push (seqObj "list" #[] 0)).update h.objs.size (Obj.mapSeq (· ++ vs.toArray))
theorem gathered_size (h : Heap) (vs : List Value) : (gathered h vs).objs.size = h.objs.size + 1 := by
  unfold gathered
  rw [Heap.size_update, size_push']
theorem gathered_old {h : Heap} {vs : List Value} {b : Addr} {o : Obj} (e : h.get? b = some o) : (gathered h vs).get? b = some o := by
  have lt : b < h.objs.size := Heap.lt_size e
  unfold gathered
  rw [Heap.get?_update_ne _ _ _ _ (Nat.ne_of_lt lt)]
  exact Heap.get?_push_of_some _ e
theorem collectT {l : Addr} {vs : List Value} {Q : List Value → Shared → Prop} (ht : IsTup s.heap l vs.toArray) (hz : vs.length ≤ sizeLine) (h : Q vs { s with heap := gathered s.heap vs }) : wpAny (model prog w) A (collect (.ref l)) Q E s := by
  obtain ⟨o, ho, hc, n, hd⟩ := ht
  have old : (s.heap.push (seqObj "list" #[] 0)).get? l = some o := Heap.get?_push_of_some _ ho
  have new : (s.heap.push (seqObj "list" #[] 0)).get? s.heap.objs.size = some (seqObj "list" #[] 0) := Heap.get?_push_size _ rfl
  unfold collect
  refine wpAny_bind (wpAny_runValue (codeAny_builtin entry_proto_collect' ?_))
  refine wpAny_bind (wpAny_newList (wpAny_pure ⟨Code.quiet_builtin _ (by decide +kernel), codeAny_builtin entry_list_iadd' ?_⟩))
  show wpAny _ _ (Builtin.List.listExtendWith (.ref s.heap.objs.size) (.ref l) (.ref s.heap.objs.size)) _ _ { s with heap := s.heap.push (seqObj "list" #[] 0) }
  unfold Builtin.List.listExtendWith
  refine wpAny_bind (wpAny_typeOf (T := "tuple") ⟨o, old, hc⟩ ?_)
  have tt : (Value.type "tuple" == Value.type "tuple") = true := by rfl
  rw [if_pos (by rw [tt]; simp)]
  refine wpAny_bind (listItems_at old hd (wpAny_bind (listItems_at new rfl ?_)))
  rw [if_neg (by simp)]
  refine wpAny_bind (listUpdate_at new rfl ?_ (Nat.zero_le _) (by show (#[] ++ vs.toArray).size ≤ sizeLine + 1; simp; omega))
  refine wpAny_pure ?_
  show wpAny (model prog w) A (do
      let o ← load s.heap.objs.size
      match o.data with
      | .seq xs _ => pure xs.toList
      | _ => unsupported "internal:collect") Q E { s with heap := gathered s.heap vs }
  refine wpAny_bind (wpAny_load (get?_update_seq new _) ?_)
  show wpAny _ _ (pure ((#[] : Array Value) ++ vs.toArray).toList) Q E _
  rw [show ((#[] : Array Value) ++ vs.toArray).toList = vs by simp]
  exact wpAny_pure h
theorem sortedLaysT {l : Addr} {vs : List Value} {k : Value → Lay} {Q : Value → Shared → Prop} (hl : IsTup s.heap l vs.toArray) (hz : vs.length ≤ sizeLine) (hp : ∀ v ∈ vs, IsLay s.heap v (k v))
    (h : ∀ (h' : Heap) (d : Addr) (out : List Value), Srtd (fun v u => ltL (k v) (k u)) out → Stb (fun v u => ltL (k v) (k u)) out vs → (∀ b o, s.heap.get? b = some o → h'.get? b = some o) → s.heap.objs.size ≤ d → (∃ n, h'.get? d = some (seqObj "list" out.toArray n)) → Q (.ref d) { s with heap := h' }) :
    wpAny (model prog w) A (call (.builtin "sorted") [.ref l]) Q E s := by
  have O : Swo fun v u => ltL (k v) (k u) := ⟨fun x y h => swoL.asym _ _ h, fun x y z h1 h2 => swoL.tr _ _ _ h1 h2⟩
  refine Calls.call_function_entry kind_sorted plain_sorted entry_sorted (args_sorted1 _) ?_
  unfold Builtin.«sorted»
  refine wpAny_bind (m := checkCount "sorted" 1 1 _) (wpAny_pure (wpAny_bind (collectT hl hz (wpAny_bind (wpAny_newList ?_ hz)))))
  have at1 : ((gathered s.heap vs).push (seqObj "list" vs.toArray 0)).get? (s.heap.objs.size + 1) = some (seqObj "list" vs.toArray 0) := by
    rw [← gathered_size s.heap vs]
    exact Heap.get?_push_size _ rfl
  have old : ∀ b o, s.heap.get? b = some o → ((gathered s.heap vs).push (seqObj "list" vs.toArray 0)).get? b = some o := fun b o q => Heap.get?_push_of_some _ (gathered_old q)
  show wpAny _ _ _ _ _ { s with heap := (gathered s.heap vs).push (seqObj "list" vs.toArray 0) }
  rw [gathered_size]
  refine wpAny_bind (wpAny_holding (wpAny_call_entry slot_list_sort ⟨_, at1, rfl⟩ entry_list_sort (list_sort_ord O at1 hz (fun h2 => ?_) fun out hs hb => ⟨_, rfl, ?_⟩) (args_list_sort _)))
  · refine laysSortable (s := { s with heap := (gathered s.heap vs).push (seqObj "list" vs.toArray 0) }) (by omega) (fun v hm => (hp v hm).keeps fun b o e _ => old b o e) fun o e => ?_
    have e' : some o = some (seqObj "list" vs.toArray 0) := e.symm.trans at1
    cases e'
    intro c
    exact absurd (Value.type.inj c) (by decide)
  · refine wpAny_pure ⟨_, rfl, h _ _ out hs hb (fun b o e => ?_) (Nat.le_succ _) (sortedHeap_at at1)⟩
    rw [sortedHeap_old (Nat.ne_of_lt (Nat.lt_succ_of_lt (Heap.lt_size e))) (Nat.lt_trans (Heap.lt_size e) (by rw [size_push', gathered_size]; omega))]
    exact old b o e
end
/-- sorted(t), t a tuple of layers -/
def rSortedT (K : PySem.W.Frag) : List V → Hp → VK → Prop := fun vs H Q => ∃ (a : Addr) (xs : List V) (ls : List Lay), vs = [V.ref a] ∧ SqT K H a xs ∧ DpAll K H xs (ls.map layD) ∧
  ∀ (ys : List V) (ms : List Lay) (p : Addr), ms.Perm ls → ms.Pairwise leL → DpAll K H ys (ms.map layD) → H p = none → Q (.ref p) (upd H p (.lst ys))
section
variable {X : Cx} {K : PySem.W.Frag}
theorem k_sortedT (h : X.K = K) : CallR X (.builtin "sorted") (rSortedT K) := by
  subst h
  intro pins s σ H vs us Q I r h
  obtain ⟨a, xs, ls, rfl, hs, hx, q⟩ := h
  obtain ⟨its, rv, ht, hz⟩ := I.tuple hs
  obtain ⟨u, rfl, ru⟩ := vals1 r
  obtain rfl : u = Value.ref a := ru
  obtain ⟨k, hk, e1, e2, mapk⟩ := laysOf I rv hx
  refine sortedLaysT (k := k) ht (by rw [← rv.length]; exact hz) (fun v hv => (hk v hv).1) fun h' d out h1 h2 kp hd hn => ?_
  have mem : ∀ u ∈ out, u ∈ its := fun u hu => h2.perm.mem_iff.mp hu
  have h3 : ∀ u ∈ out, ∃ a, u = Value.ref a := fun u hu => e2 u (mem u hu)
  obtain ⟨n, hn⟩ := hn
  have all : ∀ o : List Value, (∀ u ∈ o, u ∈ its) → DpAll X.K H (o.map backV) ((o.map k).map layD) := fun o => by
    induction o with
    | nil => exact fun _ => .nil
    | cons u o ih => exact fun m => .cons (hk u (m u (List.mem_cons_self ..))).2 (ih fun y my => m y (List.mem_cons_of_mem _ my))
  refine ⟨.ref d, upd H d (.lst (out.map backV)), I.laid (t' := s.toks) kp hd ⟨?_, out, n, vals_back h3, hn⟩, rfl, q _ (out.map k) d ?_ ?_ (all out mem) (I.hok.fresh hd)⟩
  · rw [List.length_map, h2.perm.length_eq, ← rv.length]
    exact hz
  · rw [← mapk]
    exact h2.perm.map k
  · exact List.pairwise_map.mpr h1
end
end Fd

/-! ### a comprehension of two clauses -/
namespace Fd
open PySem PySem.Spec PyProof.Rows L2
def Lc2K (J : It) (g : TG) (tt : TT) (wi1 : TI) (g1 : TG) (tt1 : TT) (te : TE) (vs vs1 : List Nat) (σ : L2.St) (Q : VK) (H1 : Hp) : Prop := ∀ D, H1 D = none → ∃ W : Nat → Nat → Hp → Prop, (∃ m, W 0 m (upd H1 D (.lst []))) ∧ ∀ i m H, W i m H →
  (J.stop i H ∧ Q (.ref D) H) ∨ (J.go i H ∧ ∃ Nx : Hp → Prop, (∀ H', Nx H' → ∃ m', m' < m ∧ W (i + 1) m' H') ∧ ∀ x H', J.yld i H x H' → g x (wipe σ vs) H' fun σ2 H2 => wipe σ2 vs = wipe σ vs ∧ tt σ2 H2 fun b H3 =>
    if b = true then wi1 σ2 H3 fun J1 H4 => ∃ W1 : Nat → Nat → Hp → Prop, (∃ m, W1 0 m H4) ∧ ∀ j k H, W1 j k H →
      (J1.stop j H ∧ Nx H) ∨ (J1.go j H ∧ ∃ Nx1 : Hp → Prop, (∀ H', Nx1 H' → ∃ k', k' < k ∧ W1 (j + 1) k' H') ∧ ∀ x H', J1.yld j H x H' → g1 x (wipe σ2 vs1) H' fun σ3 H5 => wipe σ3 vs1 = wipe σ2 vs1 ∧ tt1 σ3 H5 fun b H6 =>
        if b = true then te σ3 H6 fun y H7 => ∃ acc, H7 D = some (.lst acc) ∧ acc.length < sizeLine ∧ Nx1 (upd H7 D (.lst (acc ++ [y]))) else Nx1 H6)
    else Nx H3)
theorem tLc2E {wi : TI} {g : TG} {tt : TT} {wi1 : TI} {g1 : TG} {tt1 : TT} {te : TE} {vs vs1 : List Nat} {σ : L2.St} {H : Hp} {Q : VK} :
    tLc2 wi g tt wi1 g1 tt1 te vs vs1 σ H Q = wi σ H fun J H1 => Lc2K J g tt wi1 g1 tt1 te vs vs1 σ Q H1 := rfl
/-- over a list, and for each over a new list whose items are kept as they are -/
theorem lc2Lst {K : PySem.W.Frag} {wi1 : TI} {te : TE} {vs vs1 : List Nat} {σ : L2.St} {H1 : Hp} {Q : VK} {a : Addr} {xs : List V} {j0 j1 : Nat} (R : Nat → List PyData → Prop)
    (hx : H1 a = some (.lst xs)) (hb : ∀ i ds, R i ds → ds.length ≤ 1000) (r0 : R 0 [])
    (hw : ∀ x, wipe ((wipe σ vs).set j0 (some x)) vs = wipe σ vs) (hw1 : ∀ x y, wipe ((wipe ((wipe σ vs).set j0 (some x)) vs1).set j1 (some y)) vs1 = wipe ((wipe σ vs).set j0 (some x)) vs1)
    (hte : ∀ x y H (C : V → Hp → Prop), C y H → te ((wipe ((wipe σ vs).set j0 (some x)) vs1).set j1 (some y)) H C)
    (step : ∀ i x Ha ds (C : It → Hp → Prop), xs[i]? = some x → St none H1 Ha → flatTs ds = true → R i ds →
      (∀ q ys es, Ha q = none → DpAll K Ha ys es → flatTs es = true → R (i + 1) (ds ++ es) → C (Itl K q) (upd Ha q (.lst ys))) → wi1 ((wipe σ vs).set j0 (some x)) Ha C)
    (done : ∀ D acc ds H', H1 D = none → St none H1 H' → H' D = some (.lst acc) → flatTs ds = true → DpAll K H' acc ds → R xs.length ds → Q (.ref D) H') :
    Lc2K (Itl K a) (gName j0) tYes wi1 (gName j1) tYes te vs vs1 σ Q H1 := by
  intro D hD
  have line : (1000 : Nat) < sizeLine := by decide
  have w : Walk (Itl K a) xs.length (fun H => SqL K H a xs) (YAt xs) := walk_list
  let Pv : Nat → Hp → Prop := fun i H => ∃ acc ds, St none H1 H ∧ H D = some (.lst acc) ∧ flatTs ds = true ∧ DpAll K H acc ds ∧ R i ds
  refine ⟨fun i m H => m = xs.length - i ∧ i ≤ xs.length ∧ Pv i H, ⟨xs.length, by simp, Nat.zero_le _, [], [], St.new potN hD, upd_same, by simp [flatTs], .nil, r0⟩, ?_⟩
  rintro i m H ⟨rfl, hi, acc, ds, sH, hl, fl, al, r⟩
  have hxH := SqL.of (K := K) (sH.same a _ (fun z => nomatch z) hx)
  by_cases hlt : i < xs.length
  · refine .inr ⟨w.goes i H hlt hxH, Pv (i + 1), fun H' p' => ⟨xs.length - (i + 1), by omega, rfl, hlt, p'⟩, fun x H' y => ?_⟩
    obtain ⟨rfl, e⟩ := w.yields i H x H' hlt hxH y
    refine ⟨hw x, ?_⟩
    simp only [tYes, ↓reduceIte]
    refine step i x _ ds _ e sH fl r fun q ys es nq dy fe r' => ?_
    have nqD : D ≠ q := fun z => by rw [← z, hl] at nq; cases nq
    have w1 : Walk (Itl K q) ys.length (fun H => SqL K H q ys) (YAt ys) := walk_list
    have s4 : St none H' (upd H' q (.lst ys)) := St.new potN nq
    have lenE : ys.length = es.length := DpAll.len dy
    have lenA : acc.length = ds.length := DpAll.len al
    have bound := hb _ _ r'
    rw [List.length_append] at bound
    let Pw : Nat → Hp → Prop := fun j H => ∃ acc, St none H1 H ∧ H D = some (.lst acc) ∧ H q = some (.lst ys) ∧ DpAll K H ys es ∧ DpAll K H acc (ds ++ es.take j)
    refine ⟨fun j k H => k = ys.length - j ∧ j ≤ ys.length ∧ Pw j H, ⟨ys.length, by simp, Nat.zero_le _, acc, sH.trans s4, (upd_ne nqD).trans hl, upd_same, dpsSt potN s4 fe dy, by simpa using dpsSt potN s4 fl al⟩, ?_⟩
    rintro j k Hj ⟨rfl, hj, acc1, sj, hlj, hqj, dyj, alj⟩
    have hqs := SqL.of (K := K) hqj
    by_cases jlt : j < ys.length
    · refine .inr ⟨w1.goes j Hj jlt hqs, Pw (j + 1), fun H' p' => ⟨ys.length - (j + 1), by omega, rfl, jlt, p'⟩, fun y Hk yy => ?_⟩
      obtain ⟨rfl, ey⟩ := w1.yields j Hj y Hk jlt hqs yy
      refine ⟨hw1 x y, ?_⟩
      refine hte x y _ _ ⟨acc1, hlj, ?_, acc1 ++ [y], St.put potN sj hD, upd_same, (upd_ne (Ne.symm nqD)).trans hqj, DpAll.move (fun _ _ => tup_put hlj) fe dyj, ?_⟩
      · have := DpAll.len alj
        rw [List.length_append, List.length_take] at this
        omega
      · obtain ⟨d, ed, kd⟩ := DpAll.get dyj ey
        have fd : flatT d = true := flatTs_mem fe d (List.mem_of_getElem? ed)
        have e2 : ds ++ es.take (j + 1) = (ds ++ es.take j) ++ [d] := by
          rw [List.take_add_one, ed, List.append_assoc]
          rfl
        rw [e2]
        refine DpAll.app (DpAll.move (fun _ _ => tup_put hlj) (flatTs_app fl (flatTs_of fun z m => flatTs_mem fe z (List.mem_of_mem_take m))) alj) (.cons (Dp.move (fun _ _ => tup_put hlj) fd kd) .nil)
    · have ej : j = ys.length := by omega
      subst ej
      refine .inl ⟨w1.stops Hj hqs, acc1, ds ++ es, sj, hlj, flatTs_app fl fe, ?_, r'⟩
      rw [List.take_of_length_le (by omega)] at alj
      exact alj
  · have e : i = xs.length := by omega
    subst e
    exact .inl ⟨w.stops H hxH, done D acc ds H hD sH hl fl al r⟩
end Fd
namespace Fd
open PySem PySem.Spec PyProof.Rows L2
theorem pi_listK {X : Cx} {K : PySem.W.Frag} {tg l : Expr} {tl : TE} (h : X.K = K) (hl : PE X l tl) : PI X tg l (iList K tl) := h ▸ pi_list hl
end Fd

/-! ### repr of things that may be dicts of ints by texts -/
namespace Fd
open PySem PySem.Spec PyProof.Rows L2
/-- the entries, as values and as data -/
def entsV (es : List (Str × Int)) : List (L2.Key × V) := es.map fun e => (Sum.inr e.1, V.int e.2)
def entsD (es : List (Str × Int)) : PyData := .dict (es.map fun e => (.str e.1, .int e.2))
theorem readsEnts {P : Program} {w : World} {h : Heap} : ∀ {ds : List DictEntry} {vs : List (L2.Key × Value)} {es : List (Str × Int)}, Pairs (mixKind P w) ds vs → KV (entsV es) vs →
    ReadsAll h (ds.map (·.key)) (es.map fun e => PyData.str e.1) [] ∧ ReadsAll h (ds.map (·.val)) (es.map fun e => PyData.int e.2) []
  | _, _, [], p, q => by
    cases q
    cases p
    exact ⟨.nil, .nil⟩
  | _, _, e :: es, p, q => by
    cases q with
    | cons a t =>
      cases p with
      | cons k v r =>
        obtain ⟨i1, i2⟩ := readsEnts r t
        obtain ⟨a1, tk, a2⟩ := a
        rw [← a1] at k
        have k2 : keyIs (Sum.inr e.1) _ = true := k
        rcases keyIs_shape k2 with ⟨i, u, z, _⟩ | ⟨x, u, z, z2⟩
        · cases z
        · cases z
          refine ⟨?_, ?_⟩
          · refine .cons (as := []) (bs := []) ?_ i1
            show Reads h (DictEntry.key _) _ _
            rw [z2]
            exact .str _ _
          · refine .cons (as := []) (bs := []) ?_ i2
            show Reads h (DictEntry.val _) _ _
            rw [v, a2]
            exact .int _ _
/-- plain data that repr can tell, or a dict of ints by texts -/
def Th (K : PySem.W.Frag) (H : Hp) (v : V) (d : PyData) : Prop := (Dp K H v d ∧ Nice d) ∨
  ∃ a es, v = .ref a ∧ H a = some (.dK (entsV es)) ∧ d = entsD es ∧ d.showable = true ∧ d.shown.length ≤ 1000 ∧ d.depth ≤ 10
def rReprX (K : PySem.W.Frag) : List V → Hp → VK → Prop := fun xs H Q => ∃ v d, xs = [v] ∧ Th K H v d ∧ Q (.str d.shown) H
theorem k_reprX {X : Cx} {K : PySem.W.Frag} (h : X.K = K) (gd : X.A.guards = some []) (hu : X.A.units + 70 < cLine) : CallR X (.builtin "repr") (rReprX K) := by
  subst h
  intro pins s σ H xs us Q I r h
  obtain ⟨v, d, rfl, th, q⟩ := h
  rcases th with ⟨hd, nice⟩ | ⟨a, es, rfl, ha, rfl, sh, len, dp⟩
  · exact call_reprD gd hu pins s σ H _ us Q I r ⟨v, d, rfl, hd, nice, q⟩
  · obtain ⟨u, rfl, ru⟩ := vals1 r
    cases ru
    obtain ⟨z, sm, vs, kv, o, ds, ep, ho, ex, hdat, _, pr, _⟩ := dk_of I.hok ha
    obtain ⟨i1, i2⟩ := readsEnts (h := s.heap) pr kv
    have rd : Reads s.heap (.ref a) (entsD es) (a :: [] ++ []) := by
      refine .dict ho ex.1 hdat ?_ ?_
      · rw [List.map_map]
        exact i1
      · rw [List.map_map]
        exact i2
    have line : (1000 : Nat) < sizeLine := by decide
    exact repr_of_reads' rd sh (fun _ m => by
      have e : sysModules = a := by simpa using m
      rw [e] at sm
      simp at sm) gd (by omega) (fun _ _ e => e) (fun h' u tk k => ⟨.str _, H, I.kept k, ⟨_, rfl⟩, q⟩) (by omega)
end Fd
namespace Fd
open PySem PySem.Spec PyProof.Rows L2
mutual
/-- data stay where nothing that stood is written -/
theorem dpKeep {K : PySem.W.Frag} {H H1 : Hp} (s : Same H H1) : ∀ {v : V} {d : PyData}, Dp K H v d → Dp K H1 v d
  | _, _, .non => .non
  | _, _, .bl b => .bl b
  | _, _, .int i => .int i
  | _, _, .str x => .str x
  | _, _, .lst h k => .lst (s.seq h) (dpsKeep s k)
  | _, _, .tup h k => .tup (St.tup potN (St.ofSame potN s) h) (dpsKeep s k)
theorem dpsKeep {K : PySem.W.Frag} {H H1 : Hp} (s : Same H H1) : ∀ {vs : List V} {ds : List PyData}, DpAll K H vs ds → DpAll K H1 vs ds
  | _, _, .nil => .nil
  | _, _, .cons a b => .cons (dpKeep s a) (dpsKeep s b)
end
theorem Th.keep {K : PySem.W.Frag} {H H1 : Hp} {v : V} {d : PyData} (s : Same H H1) (h : Th K H v d) : Th K H1 v d := by
  rcases h with ⟨hd, n⟩ | ⟨a, es, e, ha, r⟩
  · exact .inl ⟨dpKeep s hd, n⟩
  · exact .inr ⟨a, es, e, s _ _ ha, r⟩
/-- what isinstance says of a thing -/
def Cl (K : PySem.W.Frag) (H : Hp) (v : V) : Prop := (∃ z : Str, v = .str z ∧ z.length ≤ 20 ∧ ∀ c ∈ z.cps.toList, c < 128) ∨ (∃ i : Int, v = .int i) ∨ (∃ b : Bool, v = .bl b) ∨
  ∃ t : String, TyX K H v (.type t) ∧ kitB t "str" = some false ∧ kitB t "int" = some false ∧ kitB t "bool" = some false ∧ (∀ z : Str, v ≠ .str z) ∧ (∀ i : Int, v ≠ .int i)
theorem Cl.keep {K : PySem.W.Frag} {H H1 : Hp} {v : V} (s : Same H H1) (h : Cl K H v) : Cl K H1 v := by
  rcases h with h | h | h | ⟨t, ty, r⟩
  · exact .inl h
  · exact .inr (.inl h)
  · exact .inr (.inr (.inl h))
  · refine .inr (.inr (.inr ⟨t, ?_, r⟩))
    cases ty with
    | base b =>
      cases b with
      | non => exact .base .non
      | bl x => exact .base (.bl x)
      | int x => exact .base (.int x)
      | str x => exact .base (.str x)
      | flt x => exact .base (.flt x)
      | lst e => exact .base (.lst (s _ _ e))
      | frz e => exact .base (.frz (s _ _ e))
      | tup e => exact .base (.tup (s _ _ e))
      | dK e => exact .base (.dK (s _ _ e))
      | dT e => exact .base (.dT (s _ _ e))
    | byt b => exact .byt b
    | set e => exact .set (s _ _ e)
    | kList e c => exact .kList e c
    | kTuple e c => exact .kTuple e c
    | kDict e c => exact .kDict e c
    | fTuple e => exact .fTuple (s _ _ e)
    | fDict e => exact .fDict (s _ _ e)
/-- a short text of plain signs -/
def TxtOk (z : Str) : Prop := z.length ≤ 20 ∧ ∀ c ∈ z.cps.toList, c < 128
theorem strOk_txt {z : Str} (h : ∀ c ∈ z.cps.toList, c < 128) : PyData.strOk z = true := by
  unfold PyData.strOk
  rw [Array.all_eq_true']
  intro c m
  have := h c (Array.mem_toList_iff.mpr m)
  simp
  omega
theorem niceW_txt {z : Str} (h : TxtOk z) : NiceW 20 (.str z) := by
  refine ⟨by simp only [PyData.showable], by simp only [PyData.hasDict], ?_, by simp only [PyData.weight]; exact h.1, ?_, by simp [PyData.depth]⟩
  · simp only [PyData.leavesShort, List.all_eq_true, decide_eq_true_eq]
    intro c m
    have := h.2 c m
    omega
  · simp only [PyData.canLay0]
    exact strOk_txt h.2
theorem nice_txt {z : Str} (h : TxtOk z) : Nice (.str z) := (niceW_txt h).nice (by decide)
theorem nice_txts {zs : List Str} (n : zs.length ≤ 60) (h : ∀ z ∈ zs, TxtOk z) : NiceW (21 * zs.length) (.list (zs.map PyData.str)) := by
  have q := niceWs (n := 20) (k := 0) (ds := zs.map PyData.str) fun d m => by
    obtain ⟨z, mz, rfl⟩ := List.mem_map.mp m
    exact ⟨niceW_txt (h z mz), by simp [PyData.depth]⟩
  have := q.lst (by decide)
  rw [List.length_map] at this
  exact this
theorem niceW_bool (b : Bool) : NiceW 10 (.bool b) := by
  refine ⟨by simp only [PyData.showable], by simp only [PyData.hasDict], ?_, ?_, ?_, by simp [PyData.depth]⟩ <;> cases b <;> decide
theorem nice_bools {bs : List Bool} (n : bs.length ≤ 60) : Nice (.list (bs.map PyData.bool)) := by
  have q := niceWs (n := 10) (k := 0) (ds := bs.map PyData.bool) fun d m => by
    obtain ⟨z, mz, rfl⟩ := List.mem_map.mp m
    exact ⟨niceW_bool z, by simp [PyData.depth]⟩
  refine (q.lst (by decide)).nice ?_
  rw [List.length_map]
  omega
theorem dps_bools {K : PySem.W.Frag} {H : Hp} : ∀ bs : List Bool, DpAll K H (bs.map V.bl) (bs.map PyData.bool)
  | [] => .nil
  | b :: bs => .cons (.bl b) (dps_bools bs)
end Fd
namespace Fd
open PySem PySem.Spec PyProof.Rows L2
/-- over a text, the target a name, with a test -/
theorem lcStrT {K : PySem.W.Frag} {tt : TT} {te : TE} {vs : List Nat} {σ : L2.St} {H1 : Hp} {Q : VK} {z : Str} {j : Nat} (p : Option Addr) (R : Nat → List PyData → Prop) (hp : PotO p H1) (hn : z.cps.size ≤ 1000000) (r0 : R 0 []) (hw : ∀ x, wipe ((wipe σ vs).set j (some x)) vs = wipe σ vs)
    (step : ∀ i c Ha ds (C : V → Hp → Prop) (N : Hp → Prop), z.cps[i]? = some c → St p H1 Ha → flatTs ds = true → R i ds →
      (∀ y H4 d, St p Ha H4 → flatT d = true → Dp K H4 y d → R (i + 1) (ds ++ [d]) → C y H4) → (∀ H3, St p Ha H3 → R (i + 1) ds → N H3) →
      tt ((wipe σ vs).set j (some (.str ⟨#[c]⟩))) Ha fun b H3 => if b = true then te ((wipe σ vs).set j (some (.str ⟨#[c]⟩))) H3 C else N H3)
    (done : ∀ D acc ds H', H1 D = none → St p H1 H' → H' D = some (.lst acc) → flatTs ds = true → DpAll K H' acc ds → R z.cps.size ds → Q (.ref D) H') : LcK (Its z) (gName j) tt te vs σ Q H1 := by
  refine lcW walk_str p R hp (fun _ _ => trivial) hn r0 ?_ done
  rintro i x Ha H' ds C N hi s fl r ⟨rfl, c, e, rfl⟩ k k2
  exact ⟨hw _, step i c _ ds C N e s fl r k k2⟩
theorem cps_get {z : Str} {i c : Nat} (h : z.cps[i]? = some c) : z.cps.toList[i]? = some c := by
  rw [Array.getElem?_toList]
  exact h
theorem cps_size (z : Str) : z.cps.toList.length = z.cps.size := Array.length_toList
end Fd

/-! ### rows alike: what is done to both keeps them alike -/
namespace Fd
open PySem PySem.Spec PyProof.Rows L2
/-- each layer with how many rank ahead of it; u stands below -/
def rkFrom (u : List Lay) : List Lay → List (Lay × Nat)
  | [] => []
  | x :: v => (x, u.countP (fun o => decide (x.2 < o.2)) + v.countP (fun o => decide (x.2 ≤ o.2))) :: rkFrom (u ++ [x]) v
def rk (ls : List Lay) : List (Lay × Nat) := rkFrom [] ls
theorem rkFrom_perm {u u' : List Lay} (p : u.Perm u') : ∀ v : List Lay, rkFrom u v = rkFrom u' v
  | [] => rfl
  | x :: v => by
    unfold rkFrom
    rw [p.countP_eq, rkFrom_perm (p.append_right [x]) v]
theorem rkFrom_fst : ∀ (u v : List Lay), (rkFrom u v).map Prod.fst = v
  | _, [] => rfl
  | u, x :: v => by
    show x :: (rkFrom (u ++ [x]) v).map Prod.fst = x :: v
    rw [rkFrom_fst]
theorem rk_fst (ls : List Lay) : (rk ls).map Prod.fst = ls := rkFrom_fst [] ls
theorem rkFrom_app : ∀ (u v w : List Lay), ∃ f : List (Lay × Nat), rkFrom u (v ++ w) = f ++ rkFrom (u ++ v) w ∧ ∀ w' : List Lay, w.Perm w' → rkFrom u (v ++ w') = f ++ rkFrom (u ++ v) w'
  | u, [], w => ⟨[], by simp, fun w' _ => by simp⟩
  | u, x :: v, w => by
    obtain ⟨f, h1, h2⟩ := rkFrom_app (u ++ [x]) v w
    refine ⟨(x, u.countP (fun o => decide (x.2 < o.2)) + (v ++ w).countP (fun o => decide (x.2 ≤ o.2))) :: f, ?_, fun w' p => ?_⟩
    · show _ :: rkFrom (u ++ [x]) (v ++ w) = _
      rw [h1, List.append_assoc]
      rfl
    · show _ :: rkFrom (u ++ [x]) (v ++ w') = _
      rw [h2 w' p, List.append_assoc, (List.Perm.append_left v p).countP_eq]
      rfl
/-- neighbours of unlike strengths exchanged: so are they with their ranks -/
theorem rk_swap {a b : Lay} (ne : a.2 ≠ b.2) (p r : List Lay) : ∃ f g x y, x ≠ y ∧ rk (p ++ a :: b :: r) = f ++ (a, x) :: (b, y) :: g ∧ rk (p ++ b :: a :: r) = f ++ (b, y) :: (a, x) :: g := by
  obtain ⟨f, h1, h2⟩ := rkFrom_app [] p (a :: b :: r)
  have h3 := h2 (b :: a :: r) (List.Perm.swap b a r)
  refine ⟨f, rkFrom (p ++ [a] ++ [b]) r, p.countP (fun o => decide (a.2 < o.2)) + (b :: r).countP (fun o => decide (a.2 ≤ o.2)), (p ++ [a]).countP (fun o => decide (b.2 < o.2)) + r.countP (fun o => decide (b.2 ≤ o.2)), ?_, ?_, ?_⟩
  · rw [List.countP_append, List.countP_cons, List.countP_cons, List.countP_nil]
    rcases Int.lt_trichotomy a.2 b.2 with q | q | q
    · have m1 : p.countP (fun o => decide (b.2 < o.2)) ≤ p.countP (fun o => decide (a.2 < o.2)) := List.countP_mono_left fun o _ h => by
        have := of_decide_eq_true h
        exact decide_eq_true (by omega)
      have m2 : r.countP (fun o => decide (b.2 ≤ o.2)) ≤ r.countP (fun o => decide (a.2 ≤ o.2)) := List.countP_mono_left fun o _ h => by
        have := of_decide_eq_true h
        exact decide_eq_true (by omega)
      rw [decide_eq_true (show a.2 ≤ b.2 by omega), decide_eq_false (show ¬ b.2 < a.2 by omega), if_pos rfl, if_neg (by decide)]
      omega
    · exact absurd q ne
    · have m1 : p.countP (fun o => decide (a.2 < o.2)) ≤ p.countP (fun o => decide (b.2 < o.2)) := List.countP_mono_left fun o _ h => by
        have := of_decide_eq_true h
        exact decide_eq_true (by omega)
      have m2 : r.countP (fun o => decide (a.2 ≤ o.2)) ≤ r.countP (fun o => decide (b.2 ≤ o.2)) := List.countP_mono_left fun o _ h => by
        have := of_decide_eq_true h
        exact decide_eq_true (by omega)
      rw [decide_eq_false (show ¬ a.2 ≤ b.2 by omega), decide_eq_true (show b.2 < a.2 by omega), if_pos rfl, if_neg (by decide)]
      omega
  · unfold rk
    rw [h1, List.nil_append]
    rfl
  · unfold rk
    rw [h3, List.nil_append]
    have pm : (p ++ [b] ++ [a]).Perm (p ++ [a] ++ [b]) := by
      rw [List.append_assoc, List.append_assoc]
      exact List.Perm.append_left p (List.Perm.swap a b [])
    show f ++ (b, _) :: (a, _) :: rkFrom (p ++ [b] ++ [a]) r = _
    rw [rkFrom_perm pm]
    congr 2
    · congr 1
      rw [List.countP_append, List.countP_cons, List.countP_cons, List.countP_nil]
      have e : (decide (b.2 ≤ a.2)) = decide (b.2 < a.2) := decide_eq_decide.mpr (by omega)
      rw [e]
      omega
    · congr 1
      congr 1
      rw [List.countP_append, List.countP_cons, List.countP_cons, List.countP_nil]
      have e : (decide (a.2 ≤ b.2)) = decide (a.2 < b.2) := decide_eq_decide.mpr (by omega)
      rw [e]
      omega
/-! ranks by numbers -/
theorem take_map {ls : List Lay} (d : Lay) {k : Nat} (h : k ≤ ls.length) : ls.take k = (List.range k).map fun o => ls[o]?.getD d := by
  refine List.ext_getElem? fun j => ?_
  rw [List.getElem?_map]
  by_cases q : j < k
  · rw [List.getElem?_take_of_lt q, List.getElem?_range q, List.getElem?_eq_getElem (show j < ls.length by omega)]
    simp [List.getElem?_eq_getElem (show j < ls.length by omega)]
  · rw [List.getElem?_eq_none (by rw [List.length_take]; omega), List.getElem?_eq_none (by simp; omega)]
    rfl
theorem drop_map {ls : List Lay} (d : Lay) {k : Nat} (h : k ≤ ls.length) : ls.drop k = (List.range (ls.length - k)).map fun j => ls[k + j]?.getD d := by
  refine List.ext_getElem? fun j => ?_
  rw [List.getElem?_map, List.getElem?_drop]
  by_cases q : j < ls.length - k
  · rw [List.getElem?_range q, List.getElem?_eq_getElem (show k + j < ls.length by omega)]
    simp [List.getElem?_eq_getElem (show k + j < ls.length by omega)]
  · rw [List.getElem?_eq_none (by omega), List.getElem?_eq_none (by simp; omega)]
    rfl
theorem cnt_count {ls : List Lay} {i : Nat} {l : Lay} (h : ls[i]? = some l) : cntA ls i = (ls.take i).countP (fun o => decide (l.2 < o.2)) + (ls.drop (i + 1)).countP (fun o => decide (l.2 ≤ o.2)) := by
  have hi := (List.getElem?_eq_some_iff.mp h).1
  have si := str_at h
  have st : ∀ o, o < ls.length → str ls o = (ls[o]?.getD l).2 := fun o ho => by
    rw [List.getElem?_eq_getElem ho]
    exact str_at (List.getElem?_eq_getElem ho)
  rw [take_map l (by omega), drop_map l (by omega), List.countP_map, List.countP_map, List.countP_eq_length_filter, List.countP_eq_length_filter]
  unfold cntA
  have e : ls.length = i + (1 + (ls.length - (i + 1))) := by omega
  conv => lhs; rw [e, List.range_add, List.filter_append, List.length_append, List.range_add, List.map_append, List.filter_append, List.length_append]
  have z : ((List.range 1).map (i + ·)).filter (fun o => decide (o ≠ i) && decide (Ahead ls o i)) = [] := by
    refine List.filter_eq_nil_iff.mpr fun o m => ?_
    obtain ⟨j, mj, rfl⟩ := List.mem_map.mp m
    have := List.mem_range.mp mj
    have : j = 0 := by omega
    simp [this]
  rw [z, List.length_nil, Nat.zero_add]
  congr 1
  · congr 1
    refine List.filter_congr fun o m => ?_
    have lt := List.mem_range.mp m
    have so := st o (by omega)
    show (decide (o ≠ i) && decide (Ahead ls o i)) = decide (l.2 < (ls[o]?.getD l).2)
    rw [decide_eq_true (show o ≠ i by omega), Bool.true_and]
    refine decide_eq_decide.mpr ?_
    unfold Ahead
    rw [si, so]
    omega
  · rw [List.map_map, List.filter_map, List.length_map]
    congr 1
    refine List.filter_congr fun j m => ?_
    have lt := List.mem_range.mp m
    have so := st (i + 1 + j) (by omega)
    have ei : i + (1 + j) = i + 1 + j := by omega
    show (decide (i + (1 + j) ≠ i) && decide (Ahead ls (i + (1 + j)) i)) = decide (l.2 ≤ (ls[i + 1 + j]?.getD l).2)
    rw [ei, decide_eq_true (show i + 1 + j ≠ i by omega), Bool.true_and]
    refine decide_eq_decide.mpr ?_
    unfold Ahead
    rw [si, so]
    omega
theorem rk_get {ls : List Lay} {i : Nat} {l : Lay} (h : ls[i]? = some l) : (rk ls)[i]? = some (l, cntA ls i) := by
  obtain ⟨hi, e⟩ := List.getElem?_eq_some_iff.mp h
  have split : ls = ls.take i ++ l :: ls.drop (i + 1) := by
    conv => lhs; rw [← List.take_append_drop i ls, List.drop_eq_getElem_cons hi, e]
  obtain ⟨f, h1, _⟩ := rkFrom_app [] (ls.take i) (l :: ls.drop (i + 1))
  rw [← split] at h1
  have lf : f.length = i := by
    have q : (rkFrom [] ls).map Prod.fst = (f ++ rkFrom ([] ++ ls.take i) (l :: ls.drop (i + 1))).map Prod.fst := by rw [h1]
    rw [rkFrom_fst, List.map_append, rkFrom_fst] at q
    have q2 := congrArg List.length q
    simp at q2
    omega
  unfold rk
  rw [h1, cnt_count h, List.getElem?_append_right (by omega), lf, Nat.sub_self]
  rfl
theorem rk_len (ls : List Lay) : (rk ls).length = ls.length := by
  have := congrArg List.length (rk_fst ls)
  rw [List.length_map] at this
  exact this
/-- the three doings, by ranks -/
theorem thin_rk (ls : List Lay) (m : Nat) : thinL ls m = ((rk ls).filter fun e => decide (e.2 < m)).map Prod.fst := by
  have e : rk ls = (List.range ls.length).map fun i => (ls[i]?.getD ((Str.ofString "", 0) : Lay), cntA ls i) := by
    refine List.ext_getElem? fun i => ?_
    rw [List.getElem?_map]
    by_cases h : i < ls.length
    · rw [rk_get (List.getElem?_eq_getElem h), List.getElem?_range h]
      simp [List.getElem?_eq_getElem h]
    · rw [List.getElem?_eq_none (by rw [rk_len]; omega), List.getElem?_eq_none (by simp; omega)]
      rfl
  rw [e, List.filter_map, List.map_map]
  unfold thinL keep sub
  rw [← List.filterMap_eq_map]
  refine fm_congr fun i mi => ?_
  have hi := List.mem_range.mp (List.mem_filter.mp mi).1
  simp [List.getElem?_eq_getElem hi]
/-! what exchanges leave, alike rows leave -/
theorem ins_inv {α : Type} {F : List Lay → α} (h : ∀ p a b r, a.1 = b.1 → F (p ++ a :: b :: r) = F (p ++ b :: a :: r)) (l : Lay) : ∀ (s p : List Lay), F (p ++ l :: s) = F (p ++ ins l s)
  | [], _ => rfl
  | m :: s, p => by
    unfold ins
    by_cases q : l.1 = m.1 ∧ m.2 < l.2
    · rw [if_pos q, h p l m s q.1]
      simpa using ins_inv h l s (p ++ [m])
    · rw [if_neg q]
theorem nrm_inv {α : Type} {F : List Lay → α} (h : ∀ p a b r, a.1 = b.1 → F (p ++ a :: b :: r) = F (p ++ b :: a :: r)) : ∀ (s p : List Lay), F (p ++ s) = F (p ++ nrm s)
  | [], _ => rfl
  | l :: s, p => by
    have e : ∀ t : List Lay, p ++ l :: t = (p ++ [l]) ++ t := fun t => by simp
    rw [e, nrm_inv h s (p ++ [l]), ← e]
    exact ins_inv h l (nrm s) p
theorem alike_inv {α : Type} {F : List Lay → α} (h : ∀ p a b r, a.1 = b.1 → F (p ++ a :: b :: r) = F (p ++ b :: a :: r)) {x y : List Lay} (e : nrm x = nrm y) : F x = F y := by
  have a := nrm_inv h x []
  have b := nrm_inv h y []
  rw [List.nil_append, List.nil_append] at a b
  rw [a, b, e]
theorem alike_add {x y : List Lay} (n : Int) (e : nrm x = nrm y) : nrm (addL x n) = nrm (addL y n) :=
  alike_inv (F := fun ls => nrm (addL ls n)) (fun p a b r t => by
    unfold addL
    rw [List.map_append, List.map_append, List.map_cons, List.map_cons, List.map_cons, List.map_cons]
    exact nrm_swap (a := (a.1, a.2 + n)) (b := (b.1, b.2 + n)) t _ _) e
theorem alike_app {x y : List Lay} (t : List Lay) (e : nrm x = nrm y) : nrm (x ++ t) = nrm (y ++ t) :=
  alike_inv (F := fun ls => nrm (ls ++ t)) (fun p a b r q => by
    show nrm (p ++ a :: b :: r ++ t) = nrm (p ++ b :: a :: r ++ t)
    rw [List.append_assoc, List.append_assoc]
    exact nrm_swap q _ _) e
theorem two_cases {f : Lay → Bool} {a b : Lay} (q : a.1 = b.1) (p r : List Lay) : nrm (p ++ [a, b].filter f ++ r) = nrm (p ++ [b, a].filter f ++ r) := by
  rw [List.filter_cons, List.filter_cons, List.filter_nil, List.filter_cons, List.filter_cons, List.filter_nil]
  by_cases fa : f a = true <;> by_cases fb : f b = true <;> simp only [fa, fb, if_true, if_false, Bool.false_eq_true]
  · rw [List.append_assoc, List.append_assoc]
    exact nrm_swap q r p
theorem alike_filter {x y : List Lay} (f : Lay → Bool) (e : nrm x = nrm y) : nrm (x.filter f) = nrm (y.filter f) :=
  alike_inv (F := fun ls => nrm (ls.filter f)) (fun p a b r q => by
    have c : ∀ u v : Lay, (p ++ u :: v :: r).filter f = p.filter f ++ [u, v].filter f ++ r.filter f := fun u v => by
      rw [show p ++ u :: v :: r = p ++ ([u, v] ++ r) from rfl, List.filter_append, List.filter_append, List.append_assoc]
    show nrm ((p ++ a :: b :: r).filter f) = nrm ((p ++ b :: a :: r).filter f)
    rw [c, c]
    exact two_cases q _ _) e
theorem alike_weak {x y : List Lay} (n : Int) (e : nrm x = nrm y) : nrm (weakL x n) = nrm (weakL y n) := alike_filter pos (alike_add (-n) e)
/-- by ranks: a choice of layers, each perhaps changed in strength -/
def byRk (g : Lay × Nat → Option Lay) (ls : List Lay) : List Lay := (rk ls).filterMap g
theorem alike_rk {x y : List Lay} (g : Lay × Nat → Option Lay) (hg : ∀ e l, g e = some l → l.1 = e.1.1) (e : nrm x = nrm y) : nrm (byRk g x) = nrm (byRk g y) :=
  alike_inv (F := fun ls => nrm (byRk g ls)) (fun p a b r q => by
    show nrm (byRk g (p ++ a :: b :: r)) = nrm (byRk g (p ++ b :: a :: r))
    by_cases st : a.2 = b.2
    · rw [show a = b from Prod.ext q st]
    · obtain ⟨f, h, i, j, _, e1, e2⟩ := rk_swap st p r
      unfold byRk
      rw [e1, e2, List.filterMap_append, List.filterMap_append]
      cases ga : g (a, i) with
      | none =>
        rw [List.filterMap_cons_none ga]
        cases gb : g (b, j) with
        | none => rw [List.filterMap_cons_none gb, List.filterMap_cons_none gb, List.filterMap_cons_none ga]
        | some b' => rw [List.filterMap_cons_some gb, List.filterMap_cons_some gb, List.filterMap_cons_none ga]
      | some a' =>
        rw [List.filterMap_cons_some ga]
        cases gb : g (b, j) with
        | none => rw [List.filterMap_cons_none gb, List.filterMap_cons_none gb, List.filterMap_cons_some ga]
        | some b' =>
          rw [List.filterMap_cons_some gb, List.filterMap_cons_some gb, List.filterMap_cons_some ga]
          refine nrm_swap ?_ _ _
          rw [hg _ _ ga, hg _ _ gb]
          exact q) e
/-- the layer at a rank -/
def atRk (ls : List Lay) (k : Nat) : List Lay := ((rk ls).filter fun e => e.2 == k).map Prod.fst
theorem alike_at {x y : List Lay} (k : Nat) (e : nrm x = nrm y) : atRk x k = atRk y k :=
  alike_inv (F := fun ls => atRk ls k) (fun p a b r q => by
    show atRk (p ++ a :: b :: r) k = atRk (p ++ b :: a :: r) k
    by_cases st : a.2 = b.2
    · rw [show a = b from Prod.ext q st]
    · obtain ⟨f, h, i, j, ne, e1, e2⟩ := rk_swap st p r
      unfold atRk
      rw [e1, e2, List.filter_append, List.filter_append, List.filter_cons, List.filter_cons, List.filter_cons, List.filter_cons]
      by_cases ik : i = k
      · have jk : ¬ j = k := fun z => ne (by rw [ik, z])
        simp [ik, jk]
      · by_cases jk : j = k
        · simp [ik, jk]
        · simp [ik, jk]) e
theorem thin_by (ls : List Lay) (m : Nat) : thinL ls m = byRk (fun e => if e.2 < m then some e.1 else none) ls := by
  rw [thin_rk]
  unfold byRk
  rw [← List.filterMap_eq_map, ← List.filterMap_eq_filter, List.filterMap_filterMap]
  congr 1
  funext e
  by_cases h : e.2 < m <;> simp [h, Option.guard]
theorem alike_thin {x y : List Lay} (m : Nat) (e : nrm x = nrm y) : nrm (thinL x m) = nrm (thinL y m) := by
  rw [thin_by, thin_by]
  exact alike_rk _ (fun e l h => by
    by_cases q : e.2 < m
    · rw [if_pos q] at h
      rw [← Option.some.inj h]
    · rw [if_neg q] at h
      cases h) e
end Fd

namespace Fd
open PySem PySem.Spec PyProof.Rows L2
/-! ### ranks by numbers, and what is done by them -/
theorem rk_eq (ls : List Lay) : rk ls = (List.range ls.length).map fun i => (ls[i]?.getD ((Str.ofString "", 0) : Lay), cntA ls i) := by
  refine List.ext_getElem? fun i => ?_
  rw [List.getElem?_map]
  by_cases h : i < ls.length
  · rw [rk_get (List.getElem?_eq_getElem h), List.getElem?_range h]
    simp [List.getElem?_eq_getElem h]
  · rw [List.getElem?_eq_none (by rw [rk_len]; omega), List.getElem?_eq_none (by simp; omega)]
    rfl
theorem cnt_top {ls : List Lay} {t i : Nat} (h : IsTop ls t) (hi : i < ls.length) : cntA ls i = 0 ↔ i = t := by
  constructor
  · intro z
    by_cases e : i = t
    · exact e
    · have ah := h.all i hi e
      unfold cntA at z
      have n := List.filter_eq_nil_iff.mp (List.eq_nil_of_length_eq_zero z) t (List.mem_range.mpr h.lt)
      have ti : t ≠ i := fun w => e w.symm
      exact absurd (by simp [ah, ti]) n
  · rintro rfl
    unfold cntA
    rw [List.filter_eq_nil_iff.mpr]
    · rfl
    · intro o mo
      have ho := List.mem_range.mp mo
      by_cases e : o = i
      · simp [e]
      · have a := h.all o ho e
        have na : ¬ Ahead ls o i := fun b => by
          unfold Ahead at a b
          omega
        simp [na]
theorem by_rk (g : Lay × Nat → Option Lay) (ls : List Lay) : byRk g ls = (List.range ls.length).filterMap fun i => g (ls[i]?.getD ((Str.ofString "", 0) : Lay), cntA ls i) := by
  unfold byRk
  rw [rk_eq, List.filterMap_map]
  rfl
theorem erase_by {ls : List Lay} {t : Nat} (h : ls ≠ [] → IsTop ls t) : ls.eraseIdx t = byRk (fun e => if e.2 = 0 then none else some e.1) ls := by
  rw [by_rk]
  have step : ∀ k, k ≤ ls.length → (ls.take k).eraseIdx t = (List.range k).filterMap fun i => (fun e : Lay × Nat => if e.2 = 0 then none else some e.1) (ls[i]?.getD ((Str.ofString "", 0) : Lay), cntA ls i) := by
    intro k
    induction k with
    | zero => intro _; simp
    | succ k ih =>
      intro hk
      have e := List.getElem?_eq_getElem (show k < ls.length by omega)
      have tp := h (fun z => by rw [z] at hk; simp at hk)
      rw [erase_step e, ih (by omega), List.range_succ, List.filterMap_append]
      congr 1
      have c := cnt_top tp (show k < ls.length by omega)
      by_cases kt : k = t
      · simp [kt, (cnt_top tp tp.lt).mpr rfl]
      · have nz : ¬ cntA ls k = 0 := fun z => kt (c.mp z)
        simp [kt, nz, e]
  have := step ls.length (Nat.le_refl _)
  rw [List.take_length] at this
  exact this
theorem rub_by {ls : List Lay} {t : Nat} {n : Int} (h : ls ≠ [] → IsTop ls t) : rubL ls t n = byRk (fun e => some (if e.2 = 0 then (e.1.1, e.1.2 - n) else e.1)) ls := by
  rw [by_rk, List.filterMap_eq_map']
  refine List.ext_getElem? fun i => ?_
  rw [List.getElem?_map]
  by_cases hi : i < ls.length
  · have e := List.getElem?_eq_getElem hi
    have tp := h (fun z => by rw [z] at hi; simp at hi)
    have c := cnt_top tp hi
    rw [rub_get e, List.getElem?_range hi]
    by_cases it : i = t
    · simp [it, (cnt_top tp tp.lt).mpr rfl, List.getElem?_eq_getElem tp.lt]
    · have nz : ¬ cntA ls i = 0 := fun z => it (c.mp z)
      simp [it, nz, e]
  · rw [List.getElem?_eq_none (by rw [rub_len]; omega), List.getElem?_eq_none (by simp; omega)]
    rfl
theorem alike_erase {x y : List Lay} {t u : Nat} (h : x ≠ [] → IsTop x t) (k : y ≠ [] → IsTop y u) (e : nrm x = nrm y) : nrm (x.eraseIdx t) = nrm (y.eraseIdx u) := by
  rw [erase_by h, erase_by k]
  refine alike_rk _ (fun e l q => ?_) e
  by_cases z : e.2 = 0
  · rw [if_pos z] at q; cases q
  · rw [if_neg z] at q
    rw [← Option.some.inj q]
theorem alike_rub {x y : List Lay} {t u : Nat} {n : Int} (h : x ≠ [] → IsTop x t) (k : y ≠ [] → IsTop y u) (e : nrm x = nrm y) : nrm ((rubL x t n).filter pos) = nrm ((rubL y u n).filter pos) := by
  refine alike_filter pos ?_
  rw [rub_by h, rub_by k]
  refine alike_rk _ (fun e l q => ?_) e
  rw [← Option.some.inj q]
  split <;> rfl
theorem count_range {n i : Nat} (h : i < n) : (List.range n).count i = 1 := by
  induction n with
  | zero => omega
  | succ n ih =>
    rw [List.range_succ, List.count_append, List.count_singleton]
    by_cases e : i = n
    · rw [List.count_eq_zero_of_not_mem (fun m => by have := List.mem_range.mp m; omega)]
      simp [e]
    · rw [ih (by omega)]
      have : (n == i) = false := by simp; omega
      simp [this]
/-- the layers by rank -/
theorem at_rank {ls : List Lay} {rs : List Nat} (h : IsRank ls rs) (k : Nat) : atRk ls k = ((sub ls rs)[k]?).toList := by
  unfold atRk
  rw [rk_eq, List.filter_map, List.map_map]
  rw [sub_get (fun i m => h.lt m)]
  cases e : rs[k]? with
  | none =>
    have lk : rs.length ≤ k := List.getElem?_eq_none_iff.mp e
    rw [List.filter_eq_nil_iff.mpr]
    · rfl
    · intro i mi
      have hi := List.mem_range.mp mi
      have := (cnt_lt h hi).1
      have len := h.len
      have ne : ¬ cntA ls i = k := by omega
      simpa using ne
  | some i0 =>
    have h0 := h.lt (List.mem_of_getElem? e)
    have same : (List.range ls.length).filter ((fun e => e.2 == k) ∘ fun i => (ls[i]?.getD ((Str.ofString "", 0) : Lay), cntA ls i)) = (List.range ls.length).filter (· == i0) := by
      refine List.filter_congr fun i mi => ?_
      have hi := List.mem_range.mp mi
      show (cntA ls i == k) = (i == i0)
      by_cases q : i = i0
      · rw [q, cnt_at h e]
        simp
      · have ne : ¬ cntA ls i = k := fun z => q (by
          have := (cnt_lt h hi).2
          rw [z, e] at this
          exact (Option.some.inj this).symm)
        rw [beq_eq_false_iff_ne.mpr ne, beq_eq_false_iff_ne.mpr q]
    have one : (List.range ls.length).filter (· == i0) = [i0] := by
      rw [List.filter_beq, count_range h0]
      rfl
    rw [same, one]
    simp [List.getElem?_eq_getElem h0]
theorem alike_ranks {x y : List Lay} {rs qs : List Nat} (h : IsRank x rs) (k : IsRank y qs) (e : nrm x = nrm y) : sub x rs = sub y qs := by
  refine List.ext_getElem? fun j => ?_
  have a := at_rank h j
  have b := at_rank k j
  rw [alike_at j e, b] at a
  cases p : (sub x rs)[j]? with
  | none =>
    cases q : (sub y qs)[j]? with
    | none => rfl
    | some l => rw [p, q] at a; cases a
  | some l =>
    cases q : (sub y qs)[j]? with
    | none => rw [p, q] at a; cases a
    | some m =>
      rw [p, q] at a
      have := (List.cons.inj a).1
      rw [this]
theorem at_top {ls : List Lay} {t : Nat} {l : Lay} (h : IsTop ls t) (e : ls[t]? = some l) : atRk ls 0 = [l] := by
  obtain ⟨rs, rk⟩ := rank_ex ls
  have c := (cnt_top h h.lt).mpr rfl
  have q := (cnt_lt rk h.lt).2
  rw [c] at q
  rw [at_rank rk 0, sub_get (fun i m => rk.lt m), q]
  show (ls[t]?).toList = [l]
  rw [e]
  rfl
end Fd

namespace Fd
open PySem PySem.Spec PyProof.Rows L2
/-! ### thinned behind a change of what was thinned -/
theorem ahead_trans {X : List Lay} {a b c : Nat} (h : Ahead X a b) (k : Ahead X b c) : Ahead X a c := by
  unfold Ahead at h k ⊢
  omega
theorem ahead_ne {X : List Lay} {a b : Nat} (h : Ahead X a b) : a ≠ b := fun e => by
  subst e
  unfold Ahead at h
  omega
theorem ahead_tot {X : List Lay} {a b : Nat} (h : a ≠ b) : Ahead X a b ∨ Ahead X b a := by
  unfold Ahead
  omega
/-- how many of I rank ahead of i -/
def cntI (X : List Lay) (I : List Nat) (i : Nat) : Nat := (I.filter fun o => decide (o ≠ i) && decide (Ahead X o i)).length
theorem cntI_range (X : List Lay) (i : Nat) : cntI X (List.range X.length) i = cntA X i := rfl
theorem Rising.nodup {n : Nat} {I : List Nat} (h : Rising n I) : I.Nodup := h.up.imp fun q => Nat.ne_of_lt q
theorem Rising.filter {n : Nat} {I : List Nat} (h : Rising n I) (f : Nat → Bool) : Rising n (I.filter f) := ⟨h.up.filter _, fun i m => h.lt i (List.mem_filter.mp m).1⟩
theorem rising_range (n : Nat) : Rising n (List.range n) := ⟨List.pairwise_lt_range, fun i m => List.mem_range.mp m⟩
theorem rising_ext {n : Nat} {I J : List Nat} (h : Rising n I) (k : Rising n J) (e : ∀ i, i ∈ I ↔ i ∈ J) : I = J :=
  List.Perm.eq_of_pairwise (le := (· ≤ ·)) (fun a b _ _ x y => by omega) (h.up.imp fun q => Nat.le_of_lt q) (k.up.imp fun q => Nat.le_of_lt q) ((List.perm_ext_iff_of_nodup h.nodup k.nodup).mpr e)
theorem cntI_mono {X : List Lay} {I J : List Nat} (nI : I.Nodup) {i : Nat} (h : ∀ o ∈ I, Ahead X o i → o ∈ J) : cntI X I i ≤ cntI X J i := by
  unfold cntI
  refine pigeon _ _ (nI.sublist List.filter_sublist) fun o mo => ?_
  obtain ⟨m1, m2⟩ := List.mem_filter.mp mo
  have a : Ahead X o i := by simpa using (Bool.and_eq_true_iff.mp m2).2
  exact List.mem_filter.mpr ⟨h o m1 a, m2⟩
theorem thin_of_sub {X : List Lay} {I : List Nat} (r : Rising X.length I) (m : Nat) : thinL (sub X I) m = sub X (I.filter fun i => decide (cntI X I i < m)) := by
  have e : thinL (sub X I) m = sub (sub X I) ((List.range I.length).filter fun j => decide (cntA (sub X I) j < m)) := by
    unfold thinL keep
    rw [sub_len r.lt]
  rw [e]
  exact sub_sub r.lt _ _ fun j i q => by rw [cnt_sub r q]; rfl
/-- what falls out has m of the rest ahead: the first m are the same -/
theorem thin_two {X : List Lay} {I J : List Nat} {m : Nat} (rI : Rising X.length I) (rJ : Rising X.length J) (sb : ∀ j ∈ J, j ∈ I) (c : ∀ d ∈ I, d ∉ J → m ≤ cntI X J d) : thinL (sub X J) m = thinL (sub X I) m := by
  rw [thin_of_sub rI, thin_of_sub rJ]
  congr 1
  refine rising_ext (rJ.filter _) (rI.filter _) fun i => ?_
  rw [List.mem_filter, List.mem_filter, decide_eq_true_eq, decide_eq_true_eq]
  have le : cntI X J i ≤ cntI X I i := cntI_mono rJ.nodup fun o mo _ => sb o mo
  constructor
  · rintro ⟨mi, lt⟩
    refine ⟨sb i mi, ?_⟩
    have : cntI X I i ≤ cntI X J i := cntI_mono rI.nodup fun o mo ah => by
      by_cases q : o ∈ J
      · exact q
      · have cm := c o mo q
        have le2 : cntI X J o ≤ cntI X J i := by
          unfold cntI
          refine pigeon _ _ (rJ.nodup.sublist List.filter_sublist) fun x mx => ?_
          obtain ⟨m1, m2⟩ := List.mem_filter.mp mx
          have a : Ahead X x o := by simpa using (Bool.and_eq_true_iff.mp m2).2
          have b := ahead_trans a ah
          exact List.mem_filter.mpr ⟨m1, by simp [b, ahead_ne b]⟩
        omega
    omega
  · rintro ⟨mi, lt⟩
    by_cases q : i ∈ J
    · exact ⟨q, by omega⟩
    · have := c i mi q
      omega
theorem sub_range (X : List Lay) : sub X (List.range X.length) = X := by
  refine List.ext_getElem? fun j => ?_
  rw [sub_get (fun i m => List.mem_range.mp m)]
  by_cases hj : j < X.length
  · rw [List.getElem?_range hj]
    rfl
  · rw [List.getElem?_eq_none (show (List.range X.length).length ≤ j by simp; omega), List.getElem?_eq_none (by omega)]
    rfl
theorem keep_full {R : List Lay} {M d : Nat} (hd : d < R.length) (nd : d ∉ keep R M) : M ≤ cntI R (keep R M) d := by
  obtain ⟨rs, rk⟩ := rank_ex R
  obtain ⟨c1, c2⟩ := cnt_lt rk hd
  have ge : M ≤ cntA R d := by
    by_cases q : cntA R d < M
    · exact absurd (List.mem_filter.mpr ⟨List.mem_range.mpr hd, decide_eq_true q⟩) nd
    · omega
  have nr : rs.Nodup := rk.perm.nodup_iff.mpr List.nodup_range
  have len := rk.len
  have q := pigeon ((keep R M).filter fun o => decide (o ≠ d) && decide (Ahead R o d)) (rs.take M) (nr.sublist (List.take_sublist _ _)) fun o mo => by
    obtain ⟨k, e⟩ := List.mem_iff_getElem?.mp mo
    have hk : k < M := by
      have := (List.getElem?_eq_some_iff.mp e).1
      rw [List.length_take] at this
      omega
    rw [List.getElem?_take_of_lt hk] at e
    have ho := rk.lt (List.mem_of_getElem? e)
    have co := cnt_at rk e
    have ne : o ≠ d := fun z => by
      rw [z] at co
      omega
    have ah : Ahead R o d := by
      rcases ahead_tot (X := R) ne with a | a
      · exact a
      · have := cnt_mono hd ho a
        omega
    refine List.mem_filter.mpr ⟨List.mem_filter.mpr ⟨List.mem_range.mpr ho, decide_eq_true (by omega)⟩, ?_⟩
    simp [ne, ah]
  rw [List.length_take] at q
  unfold cntI
  omega
theorem cntI_congr {X Y : List Lay} {I : List Nat} {d : Nat} (h : ∀ o ∈ I, o ≠ d → (Ahead X o d ↔ Ahead Y o d)) : cntI X I d = cntI Y I d := by
  unfold cntI
  congr 1
  refine List.filter_congr fun o mo => ?_
  by_cases e : o = d
  · simp [e]
  · rw [decide_eq_decide.mpr (h o mo e)]
theorem sub_map (f : Lay → Lay) (X : List Lay) (I : List Nat) : (sub X I).map f = sub (X.map f) I := by
  unfold sub
  rw [List.map_filterMap]
  refine fm_congr fun i _ => ?_
  rw [List.getElem?_map]
theorem str_add {R : List Lay} {c : Int} {i : Nat} (h : i < R.length) : str (addL R c) i = str R i + c := by
  have e := List.getElem?_eq_getElem h
  rw [str_at e]
  refine str_at (l := (R[i].1, R[i].2 + c)) ?_
  unfold addL
  rw [List.getElem?_map, e]
  rfl
theorem thin_add (R : List Lay) (M : Nat) (c : Int) : thinL (addL (thinL R M) c) M = thinL (addL R c) M := by
  have len : (addL R c).length = R.length := List.length_map ..
  have e : addL (thinL R M) c = sub (addL R c) (keep R M) := sub_map _ _ _
  have rK := keep_rising R M
  rw [e]
  conv => rhs; rw [← sub_range (addL R c)]
  refine thin_two (rising_range _) (by rw [len]; exact rK) (fun j mj => List.mem_range.mpr (by rw [len]; exact rK.lt j mj)) fun d md nd => ?_
  have hd : d < R.length := by
    have := List.mem_range.mp md
    omega
  rw [cntI_congr (Y := R) fun o mo ne => ?_]
  · exact keep_full hd nd
  · unfold Ahead
    rw [str_add (rK.lt o mo), str_add hd]
    omega
theorem sub_filter (f : Lay → Bool) {X : List Lay} : ∀ {I : List Nat}, (∀ i ∈ I, i < X.length) → (sub X I).filter f = sub X (I.filter fun i => f (X[i]?.getD ((Str.ofString "", 0) : Lay)))
  | [], _ => rfl
  | i :: I, h => by
    have hi := h i (List.mem_cons_self ..)
    have ih := sub_filter f (I := I) fun k m => h k (List.mem_cons_of_mem _ m)
    have e : ∀ J, sub X (i :: J) = X[i] :: sub X J := fun J => by
      unfold sub
      rw [List.filterMap_cons, List.getElem?_eq_getElem hi]
    rw [e, List.filter_cons, List.filter_cons, ih, List.getElem?_eq_getElem hi]
    by_cases q : f X[i] = true
    · rw [if_pos q, if_pos (show f ((some X[i]).getD _) = true from q), e]
    · rw [if_neg q, if_neg (show ¬ f ((some X[i]).getD _) = true from q)]
theorem thin_pos (L : List Lay) (m : Nat) : thinL (L.filter pos) m = (thinL L m).filter pos := by
  have e := sub_filter pos (X := L) (I := List.range L.length) fun i mi => List.mem_range.mp mi
  rw [sub_range] at e
  rw [e, thin_of_sub ((rising_range _).filter _)]
  unfold thinL
  rw [sub_filter pos (keep_rising L m).lt]
  congr 1
  unfold keep
  rw [List.filter_filter, List.filter_filter]
  refine List.filter_congr fun i mi => ?_
  have hi := List.mem_range.mp mi
  have ei := List.getElem?_eq_getElem hi
  by_cases q : pos (L[i]?.getD ((Str.ofString "", 0) : Lay)) = true
  · have pi : 0 < L[i].2 := by
      rw [ei] at q
      exact of_decide_eq_true q
    have c : cntI L ((List.range L.length).filter fun i => pos (L[i]?.getD ((Str.ofString "", 0) : Lay))) i = cntA L i := by
      refine Nat.le_antisymm ?_ ?_
      · rw [← cntI_range]
        exact cntI_mono ((rising_range _).filter _).nodup fun o mo _ => (List.mem_filter.mp mo).1
      · rw [← cntI_range]
        refine cntI_mono (rising_range _).nodup fun o mo ah => List.mem_filter.mpr ⟨mo, ?_⟩
        have ho := List.mem_range.mp mo
        have eo := List.getElem?_eq_getElem ho
        rw [eo]
        refine decide_eq_true ?_
        unfold Ahead at ah
        rw [str_at eo, str_at ei] at ah
        show 0 < L[o].2
        omega
    rw [c, q, Bool.and_true, Bool.true_and]
  · rw [Bool.not_eq_true] at q
    rw [q, Bool.and_false, Bool.false_and]
theorem thin_weak (R : List Lay) (M : Nat) (n : Int) : thinL (weakL (thinL R M) n) M = thinL (weakL R n) M := by
  unfold weakL
  rw [thin_pos, thin_pos, thin_add]
end Fd

namespace Fd
open PySem PySem.Spec PyProof.Rows L2
theorem fm_congr' {α β : Type} {f g : α → Option β} : ∀ {l : List α}, (∀ x ∈ l, f x = g x) → l.filterMap f = l.filterMap g
  | [], _ => rfl
  | x :: l, h => by
    rw [List.filterMap_cons, List.filterMap_cons, h x (List.mem_cons_self ..), fm_congr' fun y m => h y (List.mem_cons_of_mem _ m)]
theorem thin_rub {R : List Lay} {M t u : Nat} {n : Int} (hM : 1 ≤ M) (h : R ≠ [] → IsTop R t) (k : thinL R M ≠ [] → IsTop (thinL R M) u) :
    thinL ((rubL (thinL R M) u n).filter pos) (M - 1) = thinL ((rubL R t n).filter pos) (M - 1) := by
  rw [thin_pos, thin_pos]
  congr 1
  have len : (rubL R t n).length = R.length := rub_len
  have rK := keep_rising R M
  have rK' : Rising (rubL R t n).length (keep R M) := by rw [len]; exact rK
  have e : rubL (thinL R M) u n = sub (rubL R t n) (keep R M) := by
    refine List.ext_getElem? fun j => ?_
    rw [sub_get rK'.lt]
    cases ej : (keep R M)[j]? with
    | none =>
      have : (keep R M).length ≤ j := List.getElem?_eq_none_iff.mp ej
      rw [List.getElem?_eq_none (by rw [rub_len, thin_len]; exact this)]
      rfl
    | some i =>
      have hi := rK.lt i (List.mem_of_getElem? ej)
      have ei := List.getElem?_eq_getElem hi
      have et : (thinL R M)[j]? = some R[i] := by
        unfold thinL
        rw [sub_get rK.lt, ej]
        exact ei
      have jl : j < (thinL R M).length := (List.getElem?_eq_some_iff.mp et).1
      have tp := h (fun z => by rw [z] at hi; simp at hi)
      have up := k (fun z => by rw [z] at jl; simp at jl)
      have c1 := cnt_top up jl
      rw [cnt_thin ej] at c1
      have c2 := cnt_top tp hi
      rw [rub_get et]
      show _ = (rubL R t n)[i]?
      rw [rub_get ei]
      by_cases q : i = t
      · rw [if_pos q, if_pos (c1.mp (c2.mpr q))]
      · rw [if_neg q, if_neg (fun z => q (c2.mp (c1.mpr z)))]
  rw [e]
  conv => rhs; rw [← sub_range (rubL R t n)]
  refine thin_two (rising_range _) rK' (fun j mj => List.mem_range.mpr (rK'.lt j mj)) fun d md nd => ?_
  have hd : d < R.length := by
    have := List.mem_range.mp md
    omega
  have tp := h (fun z => by rw [z] at hd; simp at hd)
  have tk : t ∈ keep R M := List.mem_filter.mpr ⟨List.mem_range.mpr tp.lt, decide_eq_true (by rw [(cnt_top tp tp.lt).mpr rfl]; omega)⟩
  have dt : d ≠ t := fun z => nd (z ▸ tk)
  have full := keep_full hd nd
  have se : ∀ o, o < R.length → o ≠ t → str (rubL R t n) o = str R o := fun o ho ne => by
    have eo := List.getElem?_eq_getElem ho
    have g := rub_get (t := t) (n := n) eo
    rw [if_neg ne] at g
    rw [str_at g, str_at eo]
  have q := pigeon (t :: (keep R M).filter fun o => decide (o ≠ d) && decide (Ahead (rubL R t n) o d)) ((keep R M).filter fun o => decide (o ≠ d) && decide (Ahead R o d)) (rK.nodup.sublist List.filter_sublist) fun o mo => by
    obtain ⟨m1, m2⟩ := List.mem_filter.mp mo
    by_cases ot : o = t
    · rw [ot]
      exact List.mem_cons_self ..
    · refine List.mem_cons_of_mem _ (List.mem_filter.mpr ⟨m1, ?_⟩)
      have a : Ahead R o d := by simpa using (Bool.and_eq_true_iff.mp m2).2
      have b : Ahead (rubL R t n) o d := by
        unfold Ahead at a ⊢
        rw [se o (rK.lt o m1) ot, se d hd dt]
        exact a
      simp [b, ahead_ne b]
  unfold cntI at full ⊢
  rw [List.length_cons] at q
  omega
theorem erase_sub {R : List Lay} {t : Nat} (h : R ≠ [] → IsTop R t) : R.eraseIdx t = sub R ((List.range R.length).filter fun i => decide (cntA R i ≠ 0)) := by
  rw [erase_by h, by_rk]
  unfold sub
  rw [← List.filterMap_eq_filter, List.filterMap_filterMap]
  refine fm_congr' fun i mi => ?_
  have hi := List.mem_range.mp mi
  by_cases z : cntA R i = 0
  · simp [z, Option.guard]
  · simp [z, Option.guard, List.getElem?_eq_getElem hi]
theorem rk_thin (R : List Lay) (M : Nat) : rk (thinL R M) = (keep R M).map fun i => (R[i]?.getD ((Str.ofString "", 0) : Lay), cntA R i) := by
  refine List.ext_getElem? fun j => ?_
  rw [List.getElem?_map]
  cases ej : (keep R M)[j]? with
  | none =>
    have : (keep R M).length ≤ j := List.getElem?_eq_none_iff.mp ej
    rw [List.getElem?_eq_none (by rw [rk_len, thin_len]; exact this)]
    rfl
  | some i =>
    have hi := (keep_rising R M).lt i (List.mem_of_getElem? ej)
    have ei := List.getElem?_eq_getElem hi
    have et : (thinL R M)[j]? = some R[i] := by
      unfold thinL
      rw [sub_get (keep_rising R M).lt, ej]
      exact ei
    rw [rk_get et, cnt_thin ej]
    simp [ei]
theorem thin_erase {R : List Lay} {M t u : Nat} (hM : 1 ≤ M) (h : R ≠ [] → IsTop R t) (k : thinL R M ≠ [] → IsTop (thinL R M) u) :
    thinL ((thinL R M).eraseIdx u) (M - 1) = thinL (R.eraseIdx t) (M - 1) := by
  have rK := keep_rising R M
  have e : (thinL R M).eraseIdx u = sub R ((keep R M).filter fun i => decide (cntA R i ≠ 0)) := by
    rw [erase_by k]
    unfold byRk sub
    rw [rk_thin, List.filterMap_map, ← List.filterMap_eq_filter, List.filterMap_filterMap]
    refine fm_congr' fun i mi => ?_
    have hi := rK.lt i mi
    by_cases z : cntA R i = 0
    · simp [z, Option.guard]
    · simp [z, Option.guard, List.getElem?_eq_getElem hi]
  rw [e, erase_sub h]
  refine thin_two ((rising_range _).filter _) (rK.filter _) (fun j mj => ?_) fun d md nd => ?_
  · obtain ⟨m1, m2⟩ := List.mem_filter.mp mj
    exact List.mem_filter.mpr ⟨List.mem_range.mpr (rK.lt j m1), m2⟩
  · obtain ⟨m1, m2⟩ := List.mem_filter.mp md
    have hd := List.mem_range.mp m1
    have nk : d ∉ keep R M := fun z => nd (List.mem_filter.mpr ⟨z, m2⟩)
    have full := keep_full hd nk
    have tp := h (fun z => by rw [z] at hd; simp at hd)
    have q := pigeon (t :: ((keep R M).filter fun i => decide (cntA R i ≠ 0)).filter fun o => decide (o ≠ d) && decide (Ahead R o d)) ((keep R M).filter fun o => decide (o ≠ d) && decide (Ahead R o d)) (rK.nodup.sublist List.filter_sublist) fun o mo => by
      obtain ⟨p1, p2⟩ := List.mem_filter.mp mo
      by_cases ot : o = t
      · rw [ot]
        exact List.mem_cons_self ..
      · have nz : cntA R o ≠ 0 := fun z => ot ((cnt_top tp (rK.lt o p1)).mp z)
        exact List.mem_cons_of_mem _ (List.mem_filter.mpr ⟨List.mem_filter.mpr ⟨p1, decide_eq_true nz⟩, p2⟩)
    unfold cntI at full ⊢
    rw [List.length_cons] at q
    omega
theorem thin_app (R T : List Lay) (M : Nat) : thinL (thinL R M ++ T) M = thinL (R ++ T) M := by
  have rK := keep_rising R M
  have e : thinL R M ++ T = sub (R ++ T) (keep R M ++ (List.range T.length).map (R.length + ·)) := by
    rw [sub_append]
    congr 1
    · unfold thinL sub
      refine fm_congr fun i mi => ?_
      rw [List.getElem?_append_left (rK.lt i mi)]
    · unfold sub
      rw [List.filterMap_map]
      conv => lhs; rw [← sub_range T]
      unfold sub
      refine fm_congr fun j _ => ?_
      show T[j]? = (R ++ T)[R.length + j]?
      rw [List.getElem?_append_right (by omega)]
      congr 1
      omega
  have len : (R ++ T).length = R.length + T.length := List.length_append
  have rJ : Rising (R ++ T).length (keep R M ++ (List.range T.length).map (R.length + ·)) := by
    refine ⟨List.pairwise_append.mpr ⟨rK.up, List.pairwise_map.mpr (List.pairwise_lt_range.imp fun q => by omega), fun a ma b mb => ?_⟩, fun i mi => ?_⟩
    · obtain ⟨j, _, rfl⟩ := List.mem_map.mp mb
      have := rK.lt a ma
      omega
    · rcases List.mem_append.mp mi with m | m
      · have := rK.lt i m
        omega
      · obtain ⟨j, mj, rfl⟩ := List.mem_map.mp m
        have := List.mem_range.mp mj
        omega
  rw [e]
  conv => rhs; rw [← sub_range (R ++ T)]
  refine thin_two (rising_range _) rJ (fun j mj => List.mem_range.mpr (rJ.lt j mj)) fun d md nd => ?_
  have dl := List.mem_range.mp md
  have nk : d ∉ keep R M := fun z => nd (List.mem_append_left _ z)
  have hd : d < R.length := by
    by_cases q : d < R.length
    · exact q
    · exact absurd (List.mem_append_right _ (List.mem_map.mpr ⟨d - R.length, List.mem_range.mpr (by omega), by omega⟩)) nd
  have full := keep_full hd nk
  have se : ∀ o, o < R.length → str (R ++ T) o = str R o := fun o ho => by
    have eo := List.getElem?_eq_getElem ho
    rw [str_at eo]
    refine str_at ?_
    rw [List.getElem?_append_left ho]
    exact eo
  have q := pigeon ((keep R M ++ (List.range T.length).map (R.length + ·)).filter fun o => decide (o ≠ d) && decide (Ahead (R ++ T) o d)) ((keep R M).filter fun o => decide (o ≠ d) && decide (Ahead R o d)) (rK.nodup.sublist List.filter_sublist) fun o mo => by
    obtain ⟨p1, p2⟩ := List.mem_filter.mp mo
    refine List.mem_filter.mpr ⟨List.mem_append_left _ p1, ?_⟩
    have a : Ahead R o d := by simpa using (Bool.and_eq_true_iff.mp p2).2
    have b : Ahead (R ++ T) o d := by
      unfold Ahead at a ⊢
      rw [se o (rK.lt o p1), se d hd]
      exact a
    simp [b, ahead_ne b]
  unfold cntI at full ⊢
  omega
end Fd


/-! ### runs joined: the plain mathematics -/
namespace Fd
abbrev Pr := Int × Nat
def sameLast (fs : List Pr) (t : Nat) : Bool := match fs.getLast? with
  | none => false
  | some y => y.2 == t
def bump (fs : List Pr) (n : Int) : List Pr := match fs.getLast? with
  | none => fs
  | some y => fs.dropLast ++ [(y.1 + n, y.2)]
def addJ (fs : List Pr) (x : Pr) : List Pr := if x.1 = 0 then fs else if sameLast fs x.2 = true then bump fs x.1 else fs ++ [x]
def joinL (ps : List Pr) : List Pr := ps.foldl addJ []
theorem joinL_snoc (ps : List Pr) (x : Pr) : joinL (ps ++ [x]) = addJ (joinL ps) x := by
  unfold joinL
  rw [List.foldl_append]
  rfl
theorem sameLast_snoc (fs : List Pr) (y : Pr) (t : Nat) : sameLast (fs ++ [y]) t = (y.2 == t) := by
  unfold sameLast
  rw [List.getLast?_concat]
theorem bump_snoc (fs : List Pr) (y : Pr) (n : Int) : bump (fs ++ [y]) n = fs ++ [(y.1 + n, y.2)] := by
  unfold bump
  rw [List.getLast?_concat, List.dropLast_concat]
theorem snoc_cases {α : Type} (l : List α) : l = [] ∨ ∃ r x, l = r ++ [x] := by
  cases e : l.getLast? with
  | none => exact .inl (List.getLast?_eq_none_iff.mp e)
  | some x =>
    obtain ⟨r, q⟩ := List.getLast?_eq_some_iff.mp e
    exact .inr ⟨r, x, q⟩
theorem snoc_ind {α : Type} {P : List α → Prop} (h0 : P []) (hs : ∀ l x, P l → P (l ++ [x])) (l : List α) : P l := by
  have key : ∀ r : List α, P r.reverse := fun r => by
    induction r with
    | nil => exact h0
    | cons x r ih =>
      rw [List.reverse_cons]
      exact hs _ _ ih
  have := key l.reverse
  rwa [List.reverse_reverse] at this
/-- no count 0 or below, no two neighbours alike -/
def Tidy (fs : List Pr) : Prop := (∀ y ∈ fs, 0 < y.1) ∧ ∀ r y s, fs = r ++ y :: s → sameLast r y.2 = false
theorem Tidy.nil : Tidy [] := ⟨(fun _ m => nomatch m), fun r y s e => by cases r <;> cases e⟩
theorem Tidy.init {fs : List Pr} {x : Pr} (h : Tidy (fs ++ [x])) : Tidy fs ∧ 0 < x.1 ∧ sameLast fs x.2 = false :=
  ⟨⟨fun y m => h.1 y (List.mem_append_left _ m), fun r y s e => h.2 r y (s ++ [x]) (by rw [e]; simp)⟩, h.1 x (by simp), h.2 fs x [] rfl⟩
theorem Tidy.snoc {fs : List Pr} {x : Pr} (h : Tidy fs) (p : 0 < x.1) (q : sameLast fs x.2 = false) : Tidy (fs ++ [x]) := by
  refine ⟨fun y m => ?_, fun r y s e => ?_⟩
  · rcases List.mem_append.mp m with m | m
    · exact h.1 y m
    · rw [List.mem_singleton.mp m]
      exact p
  · rcases snoc_cases s with rfl | ⟨s', z, rfl⟩
    · obtain ⟨e1, e2⟩ := List.append_inj' e rfl
      rw [← e1, ← (List.cons.inj e2).1]
      exact q
    · have e' : fs ++ [x] = (r ++ y :: s') ++ [z] := by rw [e]; simp
      obtain ⟨e1, _⟩ := List.append_inj' e' rfl
      exact h.2 r y s' e1
theorem tidy_add {fs : List Pr} {x : Pr} (h : Tidy fs) (p : 0 ≤ x.1) : Tidy (addJ fs x) := by
  unfold addJ
  split
  · exact h
  · rename_i nz
    have p1 : 0 < x.1 := by omega
    split
    · rename_i sl
      rcases snoc_cases fs with rfl | ⟨r, y, rfl⟩
      · simp [sameLast] at sl
      · rw [bump_snoc]
        obtain ⟨h1, h2, h3⟩ := h.init
        exact h1.snoc (by show 0 < y.1 + x.1; omega) h3
    · rename_i sl
      exact h.snoc p1 (by simpa using sl)
theorem tidy_join : ∀ ps : List Pr, (∀ x ∈ ps, 0 ≤ x.1) → Tidy (joinL ps) := by
  refine snoc_ind (fun _ => Tidy.nil) fun l x ih h => ?_
  rw [joinL_snoc]
  exact tidy_add (ih fun y m => h y (List.mem_append_left _ m)) (h x (by simp))
theorem join_tidy : ∀ fs : List Pr, Tidy fs → joinL fs = fs := by
  refine snoc_ind (fun _ => rfl) fun l x ih h => ?_
  obtain ⟨h1, h2, h3⟩ := h.init
  rw [joinL_snoc, ih h1]
  unfold addJ
  rw [if_neg (by omega), h3, if_neg (by decide)]
theorem join_join {ps : List Pr} (h : ∀ x ∈ ps, 0 ≤ x.1) : joinL (joinL ps) = joinL ps := join_tidy _ (tidy_join ps h)
def left (ps : List Pr) : List Pr := ps.filter fun x => decide (x.1 ≠ 0)
theorem join_left : ∀ ps : List Pr, joinL (left ps) = joinL ps := by
  refine snoc_ind rfl fun l x ih => ?_
  unfold left at ih ⊢
  rw [List.filter_append, joinL_snoc]
  by_cases e : x.1 = 0
  · rw [List.filter_cons, if_neg (by simp [e]), List.filter_nil, List.append_nil, ih]
    unfold addJ
    rw [if_pos e]
  · rw [List.filter_cons, if_pos (by simp [e]), List.filter_nil, joinL_snoc, ih]
/-! the law's own way -/
def newAt (l : List Pr) (k : Nat) : Bool := decide (k = 0) || decide ((l.map (·.2))[k]? ≠ (l.map (·.2))[k - 1]?)
def begins (l : List Pr) : List Nat := (List.range l.length).filter (newAt l)
def cntIn (l : List Pr) (b e : Nat) : Int := (((l.take e).drop b).map (·.1)).sum
def oneOf (l : List Pr) (z : Nat × Nat) : Pr := (cntIn l z.1 z.2, ((l.map (·.2))[z.1]?).getD 0)
def ends (B : List Nat) (n : Nat) : List Nat := B.tail ++ [n]
def dueL (l : List Pr) : List Pr := ((begins l).zip (ends (begins l) l.length)).map (oneOf l)
theorem ends_len {B : List Nat} {n : Nat} (h : B ≠ []) : (ends B n).length = B.length := by
  unfold ends
  cases B with
  | nil => exact absurd rfl h
  | cons b r => simp
theorem zip_snoc (B : List Nat) (b n : Nat) : (B ++ [b]).zip (ends (B ++ [b]) n) = B.zip (ends B b) ++ [(b, n)] := by
  cases B with
  | nil => rfl
  | cons c r =>
    have e : ends (c :: r ++ [b]) n = ends (c :: r) b ++ [n] := by simp [ends]
    rw [e, List.zip_append (by rw [ends_len (by simp)])]
    rfl
theorem begins_lt {l : List Pr} {b : Nat} (h : b ∈ begins l) : b < l.length := List.mem_range.mp (List.mem_filter.mp h).1
theorem newAt_old (l : List Pr) (x : Pr) {k : Nat} (h : k < l.length) : newAt (l ++ [x]) k = newAt l k := by
  unfold newAt
  rw [List.map_append, List.getElem?_append_left (by simpa using h), List.getElem?_append_left (by simp; omega)]
theorem newAt_end (l : List Pr) (x : Pr) : newAt (l ++ [x]) l.length = !sameLast l x.2 := by
  unfold newAt
  rcases snoc_cases l with rfl | ⟨r, y, rfl⟩
  · rfl
  · rw [sameLast_snoc]
    have e1 : (((r ++ [y] ++ [x]).map (·.2))[(r ++ [y]).length]?) = some x.2 := by simp
    have e2 : (((r ++ [y] ++ [x]).map (·.2))[(r ++ [y]).length - 1]?) = some y.2 := by
      simp
    have e3 : ((r ++ [y]).length = 0) = False := by simp
    rw [e1, e2]
    simp only [e3, decide_false, Bool.false_or]
    by_cases q : y.2 = x.2
    · simp [q]
    · have q2 : ¬ x.2 = y.2 := fun z => q z.symm
      simp [q, q2]
theorem begins_snoc (l : List Pr) (x : Pr) : begins (l ++ [x]) = begins l ++ (if sameLast l x.2 = true then [] else [l.length]) := by
  unfold begins
  have e : (l ++ [x]).length = l.length + 1 := by simp
  rw [e, List.range_succ, List.filter_append]
  congr 1
  · exact List.filter_congr fun k m => newAt_old l x (List.mem_range.mp m)
  · rw [List.filter_cons, newAt_end]
    cases sameLast l x.2 <;> simp
theorem begins_ne {l : List Pr} (h : l ≠ []) : begins l ≠ [] := by
  cases l with
  | nil => exact absurd rfl h
  | cons x r =>
    have : 0 ∈ begins (x :: r) := List.mem_filter.mpr ⟨List.mem_range.mpr (by simp), rfl⟩
    intro e
    rw [e] at this
    cases this
theorem one_old (l : List Pr) (x : Pr) {z : Nat × Nat} (h1 : z.1 < l.length) (h2 : z.2 ≤ l.length) : oneOf (l ++ [x]) z = oneOf l z := by
  unfold oneOf cntIn
  rw [List.take_append_of_le_length h2, List.map_append, List.getElem?_append_left (by simpa using h1)]
theorem zip_old {l : List Pr} {b : Nat} (B : List Nat) (hB : ∀ c ∈ B, c < l.length) (hb : b ≤ l.length) : ∀ z ∈ B.zip (ends B b), z.1 < l.length ∧ z.2 ≤ l.length := fun z m => by
  obtain ⟨m1, m2⟩ := List.of_mem_zip m
  refine ⟨hB _ m1, ?_⟩
  unfold ends at m2
  rcases List.mem_append.mp m2 with m3 | m3
  · exact Nat.le_of_lt (hB _ (List.mem_of_mem_tail m3))
  · rw [List.mem_singleton.mp m3]
    exact hb
theorem due_snoc (l : List Pr) (x : Pr) (hx : x.1 ≠ 0) (hl : dueL l = joinL l) (last : ∀ t, sameLast (joinL l) t = sameLast l t) : dueL (l ++ [x]) = addJ (joinL l) x := by
  have en : (l ++ [x]).length = l.length + 1 := by simp
  unfold addJ
  rw [if_neg hx, last]
  by_cases s : sameLast l x.2 = true
  · rw [if_pos s]
    have lne : l ≠ [] := fun e => by
      rw [e] at s
      simp [sameLast] at s
    rcases snoc_cases (begins l) with e | ⟨B, b, e⟩
    · exact absurd e (begins_ne lne)
    · have lt : ∀ c ∈ B ++ [b], c < l.length := fun c m => begins_lt (by rw [e]; exact m)
      have hb : b < l.length := lt b (by simp)
      have d1 : dueL l = (B.zip (ends B b)).map (oneOf l) ++ [oneOf l (b, l.length)] := by
        unfold dueL
        rw [e, zip_snoc, List.map_append]
        rfl
      have d2 : dueL (l ++ [x]) = (B.zip (ends B b)).map (oneOf l) ++ [oneOf (l ++ [x]) (b, l.length + 1)] := by
        unfold dueL
        rw [begins_snoc, if_pos s, List.append_nil, e, zip_snoc, List.map_append, en]
        congr 1
        exact List.map_congr_left fun z m => one_old l x (zip_old B (fun c mc => lt c (List.mem_append_left _ mc)) (Nat.le_of_lt hb) z m).1 (zip_old B (fun c mc => lt c (List.mem_append_left _ mc)) (Nat.le_of_lt hb) z m).2
      rw [← hl, d1, bump_snoc, d2]
      congr 2
      unfold oneOf cntIn
      have t1 : (l ++ [x]).take (l.length + 1) = l ++ [x] := List.take_of_length_le (by simp)
      have t2 : l.take l.length = l := List.take_length
      refine Prod.ext ?_ ?_
      · show (((l ++ [x]).take (l.length + 1)).drop b |>.map (·.1)).sum = _
        rw [t1, t2, List.drop_append_of_le_length (Nat.le_of_lt hb), List.map_append, List.sum_append]
        simp
      · show ((List.map (·.2) (l ++ [x]))[b]?).getD 0 = _
        rw [List.map_append, List.getElem?_append_left (by simpa using hb)]
  · rw [if_neg s]
    have d2 : dueL (l ++ [x]) = ((begins l).zip (ends (begins l) l.length)).map (oneOf l) ++ [oneOf (l ++ [x]) (l.length, l.length + 1)] := by
      unfold dueL
      rw [begins_snoc, if_neg s, zip_snoc, List.map_append, en]
      congr 1
      exact List.map_congr_left fun z m => one_old l x (zip_old _ (fun c mc => begins_lt mc) (Nat.le_refl _) z m).1 (zip_old _ (fun c mc => begins_lt mc) (Nat.le_refl _) z m).2
    rw [d2, ← hl]
    show _ ++ _ = _ ++ _
    congr 1
    unfold oneOf cntIn
    have t1 : (l ++ [x]).take (l.length + 1) = l ++ [x] := List.take_of_length_le (by simp)
    refine congrArg (fun y => [y]) (Prod.ext ?_ ?_)
    · show (((l ++ [x]).take (l.length + 1)).drop l.length |>.map (·.1)).sum = _
      rw [t1, List.drop_append_of_le_length (Nat.le_refl _), List.drop_length]
      simp
    · show ((List.map (·.2) (l ++ [x]))[l.length]?).getD 0 = _
      simp
theorem last_join : ∀ l : List Pr, (∀ x ∈ l, x.1 ≠ 0) → ∀ t, sameLast (joinL l) t = sameLast l t := by
  refine snoc_ind (fun _ _ => rfl) fun l x ih h t => ?_
  have ih' := ih fun y m => h y (List.mem_append_left _ m)
  rw [joinL_snoc, sameLast_snoc]
  unfold addJ
  rw [if_neg (h x (by simp)), ih']
  by_cases s : sameLast l x.2 = true
  · rw [if_pos s]
    have s' := s
    rw [← ih'] at s'
    rcases snoc_cases (joinL l) with e | ⟨r, y, e⟩
    · rw [e] at s'
      simp [sameLast] at s'
    · rw [e, bump_snoc, sameLast_snoc]
      rw [e, sameLast_snoc] at s'
      show (y.2 == t) = _
      rw [beq_iff_eq.mp s']
  · rw [if_neg s, sameLast_snoc]
theorem due_join : ∀ l : List Pr, (∀ x ∈ l, x.1 ≠ 0) → dueL l = joinL l := by
  refine snoc_ind (fun _ => rfl) fun l x ih h => ?_
  have hl := fun y m => h y (List.mem_append_left [x] m)
  rw [joinL_snoc]
  exact due_snoc l x (h x (by simp)) (ih hl) (last_join l hl)
theorem due_left (ps : List Pr) : dueL (left ps) = joinL ps := by
  rw [due_join (left ps) (fun x m => of_decide_eq_true (List.mem_filter.mp m).2), join_left]
end Fd
namespace Fd
/-! sums, bounds -/
def total (ps : List Pr) : Int := (ps.map (·.1)).sum
theorem total_snoc (ps : List Pr) (x : Pr) : total (ps ++ [x]) = total ps + x.1 := by
  unfold total
  rw [List.map_append, List.sum_append]
  simp
theorem total_add (fs : List Pr) (x : Pr) : total (addJ fs x) = total fs + x.1 := by
  unfold addJ
  split
  · rename_i e
    omega
  · split
    · rename_i sl
      rcases snoc_cases fs with rfl | ⟨r, y, rfl⟩
      · simp [sameLast] at sl
      · rw [bump_snoc, total_snoc, total_snoc]
        show total r + (y.1 + x.1) = _
        omega
    · exact total_snoc fs x
theorem total_join : ∀ ps : List Pr, total (joinL ps) = total ps := by
  refine snoc_ind rfl fun l x ih => ?_
  rw [joinL_snoc, total_add, ih, total_snoc]
theorem total_nonneg : ∀ {ps : List Pr}, (∀ x ∈ ps, 0 ≤ x.1) → 0 ≤ total ps
  | [], _ => Int.le_refl _
  | x :: r, h => by
    have ih := total_nonneg (ps := r) fun y m => h y (List.mem_cons_of_mem _ m)
    have h1 := h x (List.mem_cons_self ..)
    show 0 ≤ x.1 + total r
    omega
theorem le_total : ∀ {ps : List Pr}, (∀ x ∈ ps, 0 ≤ x.1) → ∀ y ∈ ps, y.1 ≤ total ps
  | [], _, _, m => nomatch m
  | x :: r, h, y, m => by
    have hr := fun y m => h y (List.mem_cons_of_mem x m)
    have h1 := h x (List.mem_cons_self ..)
    have h2 := total_nonneg hr
    show y.1 ≤ x.1 + total r
    rcases List.mem_cons.mp m with e | m
    · rw [e]
      omega
    · have := le_total hr y m
      omega
theorem total_le {B : Int} : ∀ {ps : List Pr}, (∀ x ∈ ps, x.1 ≤ B) → total ps ≤ ps.length * B
  | [], _ => by simp [total]
  | x :: r, h => by
    have ih := total_le (ps := r) fun y m => h y (List.mem_cons_of_mem _ m)
    have h1 := h x (List.mem_cons_self ..)
    show x.1 + total r ≤ _
    rw [List.length_cons]
    have e : ((r.length + 1 : Nat) : Int) * B = r.length * B + B := by
      rw [Int.natCast_add, Int.add_mul]
      simp
    omega
theorem add_len (fs : List Pr) (x : Pr) : (addJ fs x).length ≤ fs.length + 1 := by
  unfold addJ
  split
  · omega
  · split
    · rcases snoc_cases fs with rfl | ⟨r, y, rfl⟩
      · simp [bump]
      · rw [bump_snoc]
        simp
    · simp
theorem join_len : ∀ ps : List Pr, (joinL ps).length ≤ ps.length := by
  refine snoc_ind (Nat.le_refl _) fun l x ih => ?_
  have := add_len (joinL l) x
  rw [joinL_snoc, List.length_append]
  simp only [List.length_cons, List.length_nil]
  omega
theorem add_things {fs : List Pr} {x : Pr} {n : Nat} (h : ∀ y ∈ fs, y.2 < n) (hx : x.2 < n) : ∀ y ∈ addJ fs x, y.2 < n := by
  intro y m
  unfold addJ at m
  split at m
  · exact h y m
  · split at m
    · rcases snoc_cases fs with rfl | ⟨r, z, rfl⟩
      · simp [bump] at m
      · rw [bump_snoc] at m
        rcases List.mem_append.mp m with m | m
        · exact h y (List.mem_append_left _ m)
        · rw [List.mem_singleton.mp m]
          exact h z (by simp)
    · rcases List.mem_append.mp m with m | m
      · exact h y m
      · rw [List.mem_singleton.mp m]
        exact hx
theorem join_things {n : Nat} : ∀ ps : List Pr, (∀ x ∈ ps, x.2 < n) → ∀ y ∈ joinL ps, y.2 < n := by
  refine snoc_ind (fun _ _ m => nomatch m) fun l x ih h => ?_
  rw [joinL_snoc]
  exact add_things (ih fun y m => h y (List.mem_append_left _ m)) (h x (by simp))
/-- what is joined: few, counts from 0 on and below a bound, things by their numbers -/
structure PrsOk (ps : List Pr) : Prop where
  nn : ∀ x ∈ ps, 0 ≤ x.1
  th : ∀ x ∈ ps, x.2 < 8
  len : ps.length ≤ 40
  tot : total ps < 2 ^ 200
theorem PrsOk.join {ps : List Pr} (h : PrsOk ps) : PrsOk (joinL ps) :=
  ⟨fun x m => Int.le_of_lt ((tidy_join ps h.nn).1 x m), join_things ps h.th, Nat.le_trans (join_len ps) h.len, by rw [total_join]; exact h.tot⟩
theorem PrsOk.small {ps : List Pr} (h : PrsOk ps) : ∀ x ∈ ps, x.1.natAbs < 2 ^ 250 := fun x m => by
  have h1 := h.nn x m
  have h2 := le_total h.nn x m
  have h3 := h.tot
  omega
end Fd

namespace Fl
open PySem PySem.Spec PyProof.Rows L2 Fd
def topS (i : Nat) : Stmt := PySem.Challenge.pw_fadeleaf_k51_runs_joined.main.body.getD i (.Pass ⟨0, 0, 0, 0⟩)
structure Blt (mg : Str → Option Value) : Prop where
  len : mg "len" = none
  max : mg "max" = none
  min : mg "min" = none
  abs : mg "abs" = none
  divmod : mg "divmod" = none
  range : mg "range" = none
  tuple : mg "tuple" = none
  list : mg "list" = none
  all : mg "all" = none
  repr : mg "repr" = none
  sorted : mg "sorted" = none
  enumerate : mg "enumerate" = none
  isinstance : mg "isinstance" = none
  int : mg "int" = none
  str : mg "str" = none
  bool : mg "bool" = none
  zip : mg "zip" = none
  sum : mg "sum" = none

/-! ### the draws -/
section
variable {P : Program} {w : World} {K : PySem.W.Frag} {mg : Str → Option Value} {base : Heap}
abbrev s_take : Stmt := topS 6
theorem sc_take : FnScope ["_law_pot_here", "_law_many", "_law_digit"] ["_law_pot_here", "_law_many"] (defScope s_take) := ⟨rfl, rfl, rfl, by decide +kernel, rfl, by decide +kernel, by decide +kernel⟩

def spTake : Sp := fun vs H Q _ => ∃ (p : Addr) (m : Int), vs = [.ref p, .int m] ∧ Pot H p ∧ 0 < m ∧ m.natAbs.log2 < 9000 ∧
  ∀ d H', 0 ≤ d → d < m → Fd.St (some p) H H' → Q (.int d) H'
theorem ok_take {f : Addr} {fd : FuncData} (F : Fun K "_law_take" "_law_take" s_take f fd) (M : Blt mg) : FnOk P w K mg base CX0 1 f fd ["_law_pot_here", "_law_many"] spTake := by
  refine F.ok sc_take (fun vs H Q E h => ?_) (fun cdv A outer s H vs Q E hr h => ?_)
  · obtain ⟨p, m, rfl, _⟩ := h
    rfl
  · obtain ⟨p, m, rfl, ⟨a, b, hp⟩, hm, hl, k⟩ := h
    have pp : Pot H p := ⟨a, b, hp⟩
    refine ⟨_, (pss_cons (ps_if (pt_cmpR op_gt (pe_ix (k_ixL (K := K) rfl) (pv 0) pe_int (fun _ _ => rfl)) pe_int (nomark _)) (pss_cons (ps_asg (pe_callB call_divmodW (by rfl) M.divmod (by decide +kernel) (pa_cons (pe_ix (k_ixL (K := K) rfl) (pv 0) pe_int (fun _ _ => rfl)) (pa_cons (pv 1) pa_nil))) (pg_tup (n := 2) (by rfl) (pgs_cons (pg_sub (pv 0) pe_int set_list) (pgs_cons (pg_name (i := 2) sc_take.nd rfl (by first | exact Or.inl rfl | exact Or.inr rfl)) pgs_nil))))
      (pss_one (ps_ret (pv 2)))) pss_nil)
      (pss_cons (ps_asg (pe_op op_mod (pe_op op_add (pe_op op_mul (pe_ix (k_ixL (K := K) rfl) (pv 0) pe_int (fun _ _ => rfl)) pe_int) pe_int) pe_int) (pg_sub (pv 0) pe_int set_list))
      (pss_one (ps_ret (pe_op op_mod (pe_op op_fdiv (pe_op op_mod (pe_op op_mul (pe_ix (k_ixL (K := K) rfl) (pv 0) pe_int (fun _ _ => rfl)) (pe_ix (k_ixL (K := K) rfl) (pv 0) pe_int (fun _ _ => rfl))) pe_int) pe_int) (pv 1)))))), ?_⟩
    simp only [tSeq, tIfS, tTest, tOp, tUn, tVar, tC, rI, rI0, rU, rEq, rNe, rIxL, rIxT, rIxS, tCB, tCons, tNil, tRet, tRetN, tAsg, gTup, gCons, gNil, gName, gSub, rSetL, tNext, tDrop, tLst, tTup, tCall, tIf, tB, tAnd, tOr, tNot, tSl, tPart, tNoPart, tM1, tM0, tBM, tBM0, tLcE, tForE, iRng1, iRng2, iTup, iList, iStr, tYes, wipe, startDef, cxK, noxK, exists_and_left, exists_eq_left', exists_eq_left, exists_eq_right, Option.some.injEq, V.int.injEq, V.ref.injEq, V.str.injEq, V.bl.injEq, List.cons.injEq, and_true, true_and, List.append_nil, List.map_cons, List.map_nil, List.length_cons, List.length_nil, List.replicate, List.nil_append, List.cons_append, List.set_cons_zero, List.set_cons_succ, List.getElem?_cons_zero, List.getElem?_cons_succ, decide_eq_true_eq, exists_const, Nat.reduceAdd, Nat.reduceSub, List.replicate_succ, List.replicate_zero, exists_prop, and_assoc, List.set_nil, rLenK, rTupK, rLstK, rReprK, rEqD, rNeD, rIn, rAll, rAppend, rCat, ↓reduceIte, Bool.false_eq_true, iEnumT, rSortedPO, rIsi, rRep, rReverse, tLstRg, tTupRg, tRg1, tRg2, rSlL, rSlT, rSortedI, rSlF, rCatF, rMax, tLc2E, rSortedL, rSortedT, gUnl, tPar, rReprX, tChain, tDNewK, tDisp, tPairs, tAndV, tNotV]
    refine ⟨_, SqL.of hp, _, rfl, a, rfl, ?_⟩
    by_cases ha : 0 < a
    · rw [if_pos ha]
      refine ⟨_, SqL.of hp, _, rfl, a, rfl, ⟨hm, PyProof.noPylong_of_log2 hl⟩, fun t ht => ?_⟩
      have ne := pp.ne ht
      refine ⟨_, SqT.of upd_same, rfl, _, _, rfl, _, (upd_ne ne.symm).trans hp, 0, rfl, _, _, rfl, rfl, ?_⟩
      exact k _ _ (Int.emod_nonneg _ (by omega)) (Int.emod_lt_of_pos _ hm) (St.potSet (St.new pp.potO ht))
    · rw [if_neg ha]
      refine ⟨_, SqL.of hp, _, rfl, b, rfl, .inr (by decide), by decide, _, hp, 1, rfl, _, SqL.of upd_same, _, rfl, _, SqL.of upd_same, _, rfl, _, rfl, _, rfl, ?_⟩
      have c0 : 0 ≤ (b * 45991 + 4057) % 2147483647 := Int.emod_nonneg _ (by decide)
      have c1 : (b * 45991 + 4057) % 2147483647 < 2147483647 := Int.emod_lt_of_pos _ (by decide)
      refine ⟨.inl ⟨by omega, by omega⟩, by decide, ⟨by decide, by decide⟩, hm, ?_⟩
      exact k _ _ (Int.emod_nonneg _ (by omega)) (Int.emod_lt_of_pos _ hm) (St.potSet pp.rfl)
abbrev s_cell : Stmt := topS 4
theorem sc_cell : FnScope ["_law_script", "_law_k"] ["_law_script", "_law_k"] (defScope s_cell) := ⟨rfl, rfl, rfl, by decide +kernel, rfl, by decide +kernel, by decide +kernel⟩

def spCell (K : PySem.W.Frag) : Sp := fun vs H Q _ => ∃ (a : Addr) (ns : List Int) (j : Nat), vs = [.ref a, .int j] ∧ SqL K H a (ns.map V.int) ∧ ∀ c, Q (.int c) H
theorem ok_cell {f : Addr} {fd : FuncData} (F : Fun K "_law_cell" "_law_cell" s_cell f fd) (M : Blt mg) : FnOk P w K mg base CX0 1 f fd ["_law_script", "_law_k"] (spCell K) := by
  refine F.ok sc_cell (fun vs H Q E h => ?_) (fun cdv A outer s H vs Q E hr h => ?_)
  · obtain ⟨a, ns, j, rfl, _⟩ := h
    rfl
  · obtain ⟨a, ns, j, rfl, hs, k⟩ := h
    refine ⟨_, (pss_one (ps_ret (pe_ifExp (pt_cmpR op_lt (pv 1) (pe_callB (k_len (K := K) rfl) (by rfl) M.len (by decide +kernel) (pa_cons (pv 0) pa_nil)) (nomark _)) (pe_ix (k_ixL (K := K) rfl) (pv 0) (pv 1) (fun _ _ => rfl)) pe_int))), ?_⟩
    simp only [tSeq, tIfS, tTest, tOp, tUn, tVar, tC, rI, rI0, rU, rEq, rNe, rIxL, rIxT, rIxS, tCB, tCons, tNil, tRet, tRetN, tAsg, gTup, gCons, gNil, gName, gSub, rSetL, tNext, tDrop, tLst, tTup, tCall, tIf, tB, tAnd, tOr, tNot, tSl, tPart, tNoPart, tM1, tM0, tBM, tBM0, tLcE, tForE, iRng1, iRng2, iTup, iList, iStr, tYes, wipe, startDef, cxK, noxK, exists_and_left, exists_eq_left', exists_eq_left, exists_eq_right, Option.some.injEq, V.int.injEq, V.ref.injEq, V.str.injEq, V.bl.injEq, List.cons.injEq, and_true, true_and, List.append_nil, List.map_cons, List.map_nil, List.length_cons, List.length_nil, List.replicate, List.nil_append, List.cons_append, List.set_cons_zero, List.set_cons_succ, List.getElem?_cons_zero, List.getElem?_cons_succ, decide_eq_true_eq, exists_const, Nat.reduceAdd, Nat.reduceSub, List.replicate_succ, List.replicate_zero, exists_prop, and_assoc, List.set_nil, rLenK, rTupK, rLstK, rReprK, rEqD, rNeD, rIn, rAll, rAppend, rCat, ↓reduceIte, Bool.false_eq_true, iEnumT, rSortedPO, rIsi, rRep, rReverse, tLstRg, tTupRg, tRg1, tRg2, rSlL, rSlT, rSortedI, rSlF, rCatF, rMax, tLc2E, rSortedL, rSortedT, gUnl, tPar, rReprX, tChain, tDNewK, tDisp, tPairs, tAndV, tNotV]
    refine ⟨_, .inl hs, ?_⟩
    by_cases hj : (j : Int) < ((ns.map V.int).length : Int)
    · rw [if_pos hj]
      have hj' : j < ns.length := by
        rw [List.length_map] at hj
        omega
      refine ⟨_, hs, .int ns[j], atI_nat (by rw [List.getElem?_map, List.getElem?_eq_getElem hj']; rfl), ?_⟩
      exact k _
    · rw [if_neg hj]
      exact k _
abbrev s_pot : Stmt := topS 5
theorem sc_pot : FnScope ["_law_cell_here", "_law_k"] ["_law_cell_here", "_law_k"] (defScope s_pot) := ⟨rfl, rfl, rfl, by decide +kernel, rfl, by decide +kernel, by decide +kernel⟩

def spPot : Sp := fun vs H Q _ => ∃ (c : Int) (j : Nat), vs = [.int c, .int j] ∧ ∀ p H', H p = none → Same H H' → Pot H' p → Q (.ref p) H'
theorem ok_pot {f : Addr} {fd : FuncData} (F : Fun K "_law_pot" "_law_pot" s_pot f fd) (M : Blt mg) : FnOk P w K mg base CX0 1 f fd ["_law_cell_here", "_law_k"] spPot := by
  refine F.ok sc_pot (fun vs H Q E h => ?_) (fun cdv A outer s H vs Q E hr h => ?_)
  · obtain ⟨c, j, rfl, _⟩ := h
    rfl
  · obtain ⟨c, j, rfl, k⟩ := h
    refine ⟨_, (pss_one (ps_ret (pe_lst (pa_cons (pe_callB (call_max2 rfl) (by rfl) M.max (by decide +kernel) (pa_cons pe_int (pa_cons (pe_op op_sub (pe_callB call_abs (by rfl) M.abs (by decide +kernel) (pa_cons (pv 0) pa_nil)) (pe_op op_pow pe_int pe_int)) pa_nil))) (pa_cons (pe_op op_add (pe_op op_add (pe_op op_mod (pe_callB call_abs (by rfl) M.abs (by decide +kernel) (pa_cons (pv 0) pa_nil)) pe_int) (pe_op op_mul pe_int (pv 1))) pe_int) pa_nil))))), ?_⟩
    simp only [tSeq, tIfS, tTest, tOp, tUn, tVar, tC, rI, rI0, rU, rEq, rNe, rIxL, rIxT, rIxS, tCB, tCons, tNil, tRet, tRetN, tAsg, gTup, gCons, gNil, gName, gSub, rSetL, tNext, tDrop, tLst, tTup, tCall, tIf, tB, tAnd, tOr, tNot, tSl, tPart, tNoPart, tM1, tM0, tBM, tBM0, tLcE, tForE, iRng1, iRng2, iTup, iList, iStr, tYes, wipe, startDef, cxK, noxK, exists_and_left, exists_eq_left', exists_eq_left, exists_eq_right, Option.some.injEq, V.int.injEq, V.ref.injEq, V.str.injEq, V.bl.injEq, List.cons.injEq, and_true, true_and, List.append_nil, List.map_cons, List.map_nil, List.length_cons, List.length_nil, List.replicate, List.nil_append, List.cons_append, List.set_cons_zero, List.set_cons_succ, List.getElem?_cons_zero, List.getElem?_cons_succ, decide_eq_true_eq, exists_const, Nat.reduceAdd, Nat.reduceSub, List.replicate_succ, List.replicate_zero, exists_prop, and_assoc, List.set_nil, rLenK, rTupK, rLstK, rReprK, rEqD, rNeD, rIn, rAll, rAppend, rCat, ↓reduceIte, Bool.false_eq_true, iEnumT, rSortedPO, rIsi, rRep, rReverse, tLstRg, tTupRg, tRg1, tRg2, rSlL, rSlT, rSortedI, rSlF, rCatF, rMax, tLc2E, rSortedL, rSortedT, gUnl, tPar, rReprX, tChain, tDNewK, tDisp, tPairs, tAndV, tNotV]
    refine ⟨⟨by decide, by decide, by decide⟩, by decide, .inl (by decide), by decide, fun p hp => ?_⟩
    exact k _ _ hp (same_new hp) ⟨_, _, upd_same⟩
structure CTake (P : Program) (w : World) (K : PySem.W.Frag) (mg : Str → Option Value) (base : Heap) : Prop where
  take : Has P w K mg base "_law_take" 1 ["_law_pot_here", "_law_many"] spTake
end

/-! ### runs: joined -/
section
variable {P : Program} {w : World} {K : PySem.W.Frag} {mg : Str → Option Value} {base : Heap}
def thD : Nat → PyData
  | 0 => .int 3
  | 1 => .int 40
  | 2 => .str "a"
  | 3 => .str ""
  | 4 => .none
  | 5 => .tuple [.int 1, .int 2]
  | 6 => .tuple [.str "a", .tuple []]
  | 7 => .tuple [.tuple [], .tuple []]
  | _ => .none
theorem lt8 {P : Nat → Prop} (h0 : P 0) (h1 : P 1) (h2 : P 2) (h3 : P 3) (h4 : P 4) (h5 : P 5) (h6 : P 6) (h7 : P 7) {i : Nat} (h : i < 8) : P i := by
  match i, h with
  | 0, _ => exact h0
  | 1, _ => exact h1
  | 2, _ => exact h2
  | 3, _ => exact h3
  | 4, _ => exact h4
  | 5, _ => exact h5
  | 6, _ => exact h6
  | 7, _ => exact h7
theorem flat_th {i : Nat} (h : i < 8) : flatT (thD i) = true := lt8 (P := fun i => flatT (thD i) = true) (by decide) (by decide) (by decide) (by decide) (by decide) (by decide) (by decide) (by decide) h
theorem a_txt : TxtOk "a" := ⟨by decide +kernel, by decide +kernel⟩
theorem e_txt : TxtOk "" := ⟨by decide +kernel, by decide +kernel⟩
theorem nw_emp : NiceW 0 (.tuple []) := (niceWs (n := 0) (k := 0) (ds := []) fun _ m => nomatch m).tup (by decide)
theorem nwUp {n m : Nat} {d : PyData} (h : NiceW n d) (k : n ≤ m) : NiceW m d := ⟨h.sh, h.nd, h.lf, Nat.le_trans h.wt k, h.lay, h.dp⟩
theorem nw_th {i : Nat} (h : i < 8) : NiceW 600 (thD i) ∧ (thD i).depth ≤ 2 := by
  have ni : ∀ j : Int, j.natAbs < 2 ^ 250 → NiceW 250 (.int j) := fun j h => niceW_int h
  have np : ∀ d e : PyData, NiceW 250 d → NiceW 250 e → d.depth ≤ 1 → e.depth ≤ 1 → NiceW 600 (.tuple [d, e]) := fun d e hd he dd de => by
    have q := niceWs (n := 250) (k := 1) (ds := [d, e]) fun x m => by
      rcases List.mem_cons.mp m with r | m
      · rw [r]
        exact ⟨hd, dd⟩
      · rw [List.mem_singleton.mp m]
        exact ⟨he, de⟩
    exact nwUp (q.tup (by decide)) (by show (250 + 1) * 2 ≤ 600; decide)
  refine lt8 (P := fun i => NiceW 600 (thD i) ∧ (thD i).depth ≤ 2) ?_ ?_ ?_ ?_ ?_ ?_ ?_ ?_ h
  · exact ⟨nwUp (ni 3 (by decide)) (by decide), by decide⟩
  · exact ⟨nwUp (ni 40 (by decide)) (by decide), by decide⟩
  · exact ⟨nwUp (niceW_txt a_txt) (by decide), by decide⟩
  · exact ⟨nwUp (niceW_txt e_txt) (by decide), by decide⟩
  · refine ⟨⟨?_, ?_, ?_, ?_, ?_, ?_⟩, ?_⟩ <;> simp [thD, PyData.showable, PyData.hasDict, PyData.leavesShort, PyData.weight, PyData.canLay0, PyData.depth]
  · exact ⟨np _ _ (ni 1 (by decide)) (ni 2 (by decide)) (by decide) (by decide), by decide⟩
  · exact ⟨np _ _ (nwUp (niceW_txt a_txt) (by decide)) (nwUp nw_emp (by decide)) (by decide) (by decide), by decide⟩
  · exact ⟨np _ _ (nwUp nw_emp (by decide)) (nwUp nw_emp (by decide)) (by decide) (by decide), by decide⟩
theorem eqv_th {i j : Nat} (h : i < 8) (k : j < 8) : PyData.eqv (thD i) (thD j) = (i == j) := by
  refine lt8 (P := fun i => PyData.eqv (thD i) (thD j) = (i == j)) ?_ ?_ ?_ ?_ ?_ ?_ ?_ ?_ h <;>
  · refine lt8 (P := fun j => PyData.eqv (thD _) (thD j) = (_ == j)) ?_ ?_ ?_ ?_ ?_ ?_ ?_ ?_ k <;> decide +kernel
def pairD (x : Pr) : PyData := .tuple [.int x.1, thD x.2]
def prsD (ps : List Pr) : PyData := .list (ps.map pairD)
theorem flat_pair {x : Pr} (h : x.2 < 8) : flatT (pairD x) = true := by
  simp only [pairD, flatT, flatTs, flat_th h, Bool.and_self]
theorem flat_pairs {ps : List Pr} (h : ∀ x ∈ ps, x.2 < 8) : flatTs (ps.map pairD) = true := flatTs_of fun d m => by
  obtain ⟨x, mx, rfl⟩ := List.mem_map.mp m
  exact flat_pair (h x mx)
theorem nice_prs {ps : List Pr} (h : PrsOk ps) : Nice (prsD ps) := by
  have q := niceWs (n := 1202) (k := 3) (ds := ps.map pairD) fun d m => by
    obtain ⟨x, mx, rfl⟩ := List.mem_map.mp m
    have nt := nw_th (h.th x mx)
    have q := niceWs (n := 600) (k := 2) (ds := [.int x.1, thD x.2]) fun d m => by
      rcases List.mem_cons.mp m with r | m
      · rw [r]
        exact ⟨nwUp (niceW_int (h.small x mx)) (by decide), by simp [PyData.depth]⟩
      · rw [List.mem_singleton.mp m]
        exact nt
    refine ⟨q.tup (by decide), ?_⟩
    have := nt.2
    simp only [pairD, PyData.depth, PyData.depthAll]
    omega
  have l := h.len
  refine (q.lst (by decide)).nice ?_
  rw [List.length_map]
  omega

/-- a list of pairs -/
def PrsAt (K : PySem.W.Frag) (H : Hp) (a : Addr) (ps : List Pr) : Prop := ∃ xs, H a = some (.lst xs) ∧ DpAll K H xs (ps.map pairD)
theorem PrsAt.dp {H : Hp} {a : Addr} {ps : List Pr} (h : PrsAt K H a ps) : Dp K H (.ref a) (prsD ps) := by
  obtain ⟨xs, e, al⟩ := h
  exact .lst (SqL.of e) al
theorem PrsAt.same {H H1 : Hp} {a : Addr} {ps : List Pr} (h : PrsAt K H a ps) (s : Same H H1) : PrsAt K H1 a ps := by
  obtain ⟨xs, e, al⟩ := h
  exact ⟨xs, s _ _ e, dpsKeep s al⟩
theorem pair_get {H : Hp} {xs : List V} {ps : List Pr} {i : Nat} {x : V} (al : DpAll K H xs (ps.map pairD)) (e : xs[i]? = some x) :
    ∃ (y : Pr) (b : Addr) (v : V), ps[i]? = some y ∧ x = .ref b ∧ SqT K H b [.int y.1, v] ∧ Dp K H v (thD y.2) := by
  obtain ⟨d, q, k⟩ := DpAll.get al e
  rw [List.getElem?_map] at q
  cases w : ps[i]? with
  | none => rw [w] at q; cases q
  | some y =>
    rw [w] at q
    obtain rfl : pairD y = d := Option.some.inj q
    obtain ⟨b, zs, e2, s, al2⟩ := Dp.tupInv k
    cases al2 with
    | cons h1 h2 =>
      cases h2 with
      | cons h2 h3 =>
        cases h3
        cases h1
        exact ⟨y, b, _, rfl, e2, s, h2⟩
theorem dps_snoc {H : Hp} : ∀ {xs : List V} {ds : List PyData} {d : PyData}, DpAll K H xs (ds ++ [d]) → ∃ ys v, xs = ys ++ [v] ∧ DpAll K H ys ds ∧ Dp K H v d
  | _, [], _, h => by
    cases h with
    | cons a b =>
      cases b
      exact ⟨[], _, rfl, .nil, a⟩
  | _, e :: ds, d, h => by
    cases h with
    | cons a b =>
      obtain ⟨ys, v, q, r, k⟩ := dps_snoc b
      exact ⟨_ :: ys, v, by rw [q]; rfl, .cons a r, k⟩
theorem ty_tup {H : Hp} {a : Addr} {xs : List V} (h : SqT K H a xs) : TyX K H (.ref a) (.type "tuple") := by
  rcases h with (h | ⟨o, h⟩) | ⟨o, its, n, lk, c, _⟩
  · exact .base (.tup h)
  · exact .fTuple h
  · exact .kTuple lk c
abbrev s_own : Stmt := topS 2
theorem sc_own : FnScope ["thing", "item"] ["thing"] (defScope s_own) := ⟨rfl, rfl, rfl, by decide +kernel, rfl, by decide +kernel, by decide +kernel⟩

def spOwn (K : PySem.W.Frag) (n : Nat) : Sp := fun vs H Q _ => ∃ (v : V) (d : PyData), vs = [v] ∧ Dp K H v d ∧ flatT d = true ∧ d.depth ≤ n ∧ d.weight ≤ 50000 ∧ ∀ v' H', Dp K H' v' d → Same H H' → Q v' H'
theorem wt_len : ∀ {ds : List PyData}, ds.length ≤ PyData.weightAll ds
  | [] => Nat.le_refl _
  | d :: r => by
    have := wt_len (ds := r)
    simp only [PyData.weightAll, List.length_cons]
    omega
theorem wt_mem : ∀ {ds : List PyData} {d : PyData}, d ∈ ds → d.weight ≤ PyData.weightAll ds
  | [], _, m => nomatch m
  | e :: r, d, m => by
    simp only [PyData.weightAll]
    rcases List.mem_cons.mp m with q | m
    · rw [q]
      omega
    · have := wt_mem m
      omega
theorem dp_mem : ∀ {ds : List PyData} {d : PyData}, d ∈ ds → d.depth ≤ PyData.depthAll ds
  | [], _, m => nomatch m
  | e :: r, d, m => by
    simp only [PyData.depthAll]
    rcases List.mem_cons.mp m with q | m
    · rw [q]
      omega
    · have := dp_mem m
      omega
structure COwn (P : Program) (w : World) (K : PySem.W.Frag) (mg : Str → Option Value) (base : Heap) (k : Nat) : Prop where
  own : Has P w K mg base "_own" (k + 1) ["thing"] (spOwn K k)
theorem step_own {k : Nat} {f : Addr} {fd : FuncData} (F : Fun K "_own" "_own" s_own f fd) (M : Blt mg) (C : ∀ j, j + 1 = k → COwn P w K mg base j) : FnOk P w K mg base CX0 (k + 1) f fd ["thing"] (spOwn K k) := by
  refine F.ok sc_own (fun vs H Q E h => ?_) (fun cdv A outer s H vs Q E hr h => ?_)
  · obtain ⟨v, d, rfl, _⟩ := h
    rfl
  · obtain ⟨v, d, rfl, hd, fl, dp, wt, go⟩ := h
    cases k with
    | zero =>
      refine ⟨_, pss_cons (ps_if (pt_val (pe_callB (k_isi (K := K) rfl) (by rfl) M.isinstance (by decide +kernel) (pa_cons (pv 0) (pa_cons (pe_bltn (v := .ty "list") (by rfl) M.list (by decide +kernel) rfl) pa_nil)))) (pss_one ps_never) pss_nil)
        (pss_cons (ps_if (pt_val (pe_callB (k_isi (K := K) rfl) (by rfl) M.isinstance (by decide +kernel) (pa_cons (pv 0) (pa_cons (pe_bltn (v := .ty "tuple") (by rfl) M.tuple (by decide +kernel) rfl) pa_nil)))) (pss_one ps_never) pss_nil)
          (pss_one (ps_ret (pv 0)))), ?_⟩
      simp only [tSeq, tIfS, tTest, tOp, tUn, tVar, tC, rI, rI0, rU, rEq, rNe, rIxL, rIxT, rIxS, tCB, tCons, tNil, tRet, tRetN, tAsg, gTup, gCons, gNil, gName, gSub, rSetL, tNext, tDrop, tLst, tTup, tCall, tIf, tB, tAnd, tOr, tNot, tSl, tPart, tNoPart, tM1, tM0, tBM, tBM0, tLcE, tForE, iRng1, iRng2, iTup, iList, iStr, tYes, wipe, startDef, cxK, noxK, exists_and_left, exists_eq_left', exists_eq_left, exists_eq_right, Option.some.injEq, V.int.injEq, V.ref.injEq, V.str.injEq, V.bl.injEq, List.cons.injEq, and_true, true_and, List.append_nil, List.map_cons, List.map_nil, List.length_cons, List.length_nil, List.replicate, List.nil_append, List.cons_append, List.set_cons_zero, List.set_cons_succ, List.getElem?_cons_zero, List.getElem?_cons_succ, decide_eq_true_eq, exists_const, Nat.reduceAdd, Nat.reduceSub, List.replicate_succ, List.replicate_zero, exists_prop, and_assoc, List.set_nil, rLenK, rTupK, rLstK, rReprK, rEqD, rNeD, rIn, rAll, rAppend, rCat, ↓reduceIte, Bool.false_eq_true, iEnumT, rSortedPO, rIsi, rRep, rReverse, tLstRg, tTupRg, tRg1, tRg2, rSlL, rSlT, rSortedI, rSlF, rCatF, rMax, tLc2E, rSortedL, rSortedT, gUnl, tPar, rReprX, tChain, tDNewK, tDisp, tPairs, tAndV, tNotV]
      have fin := go v H hd (fun _ _ e => e)
      cases hd with
      | non => exact ⟨_, _, .ty "list", .base .non, false, kit_ty (by decide +kernel), by rw [if_neg (by decide)]; exact ⟨_, _, .ty "tuple", .base .non, false, kit_ty (by decide +kernel), by rw [if_neg (by decide)]; exact fin⟩⟩
      | bl b => exact ⟨_, _, .ty "list", .base (.bl b), false, kit_ty (by decide +kernel), by rw [if_neg (by decide)]; exact ⟨_, _, .ty "tuple", .base (.bl b), false, kit_ty (by decide +kernel), by rw [if_neg (by decide)]; exact fin⟩⟩
      | int b => exact ⟨_, _, .ty "list", .base (.int b), false, kit_ty (by decide +kernel), by rw [if_neg (by decide)]; exact ⟨_, _, .ty "tuple", .base (.int b), false, kit_ty (by decide +kernel), by rw [if_neg (by decide)]; exact fin⟩⟩
      | str b => exact ⟨_, _, .ty "list", .base (.str b), false, kit_ty (by decide +kernel), by rw [if_neg (by decide)]; exact ⟨_, _, .ty "tuple", .base (.str b), false, kit_ty (by decide +kernel), by rw [if_neg (by decide)]; exact fin⟩⟩
      | lst a b => simp [flatT] at fl
      | tup a b => simp [PyData.depth] at dp
    | succ k =>
      obtain ⟨C⟩ : COwn P w K mg base k := C k rfl
      have C : COwn P w K mg base k := ⟨C⟩
      refine ⟨_, (pss_cons (ps_if (pt_val (pe_callB (k_isi (K := K) rfl) (by rfl) M.isinstance (by decide +kernel) (pa_cons (pv 0) (pa_cons (pe_bltn (v := .ty "list") (by rfl) M.list (by decide +kernel) rfl) pa_nil)))) (pss_one ps_never) pss_nil)
      (pss_cons (ps_if (pt_val (pe_callB (k_isi (K := K) rfl) (by rfl) M.isinstance (by decide +kernel) (pa_cons (pv 0) (pa_cons (pe_bltn (v := .ty "tuple") (by rfl) M.tuple (by decide +kernel) rfl) pa_nil)))) (pss_one (ps_ret (pe_callTy (k_tup (K := K) rfl) (by rfl) M.tuple (by decide +kernel) (pa_cons (pe_lc (own := [("item", 1)]) (g := gName 1) (tt := tYes) rfl sc_own.nd (pi_tup (pv 0)) (blkOk_by (own := [("item", 1)]) (N := ["thing", "item"]) (sc := defScope s_own) (by decide +kernel)) (fun _ _ _ _ _ => (pg_name (i := 1) sc_own.nd rfl (by first | exact Or.inl rfl | exact Or.inr rfl))) (fun _ _ _ _ _ => pts_nil) (fun _ _ _ _ _ => (callH C.own hr (by rfl) (pa_cons (pv 1) pa_nil) (Nat.le_refl _)))) pa_nil)))) pss_nil)
      (pss_one (ps_ret (pv 0))))), ?_⟩
      simp only [tSeq, tIfS, tTest, tOp, tUn, tVar, tC, rI, rI0, rU, rEq, rNe, rIxL, rIxT, rIxS, tCB, tCons, tNil, tRet, tRetN, tAsg, gTup, gCons, gNil, gName, gSub, rSetL, tNext, tDrop, tLst, tTup, tCall, tIf, tB, tAnd, tOr, tNot, tSl, tPart, tNoPart, tM1, tM0, tBM, tBM0, tLcE, tForE, iRng1, iRng2, iTup, iList, iStr, tYes, wipe, startDef, cxK, noxK, exists_and_left, exists_eq_left', exists_eq_left, exists_eq_right, Option.some.injEq, V.int.injEq, V.ref.injEq, V.str.injEq, V.bl.injEq, List.cons.injEq, and_true, true_and, List.append_nil, List.map_cons, List.map_nil, List.length_cons, List.length_nil, List.replicate, List.nil_append, List.cons_append, List.set_cons_zero, List.set_cons_succ, List.getElem?_cons_zero, List.getElem?_cons_succ, decide_eq_true_eq, exists_const, Nat.reduceAdd, Nat.reduceSub, List.replicate_succ, List.replicate_zero, exists_prop, and_assoc, List.set_nil, rLenK, rTupK, rLstK, rReprK, rEqD, rNeD, rIn, rAll, rAppend, rCat, ↓reduceIte, Bool.false_eq_true, iEnumT, rSortedPO, rIsi, rRep, rReverse, tLstRg, tTupRg, tRg1, tRg2, rSlL, rSlT, rSortedI, rSlF, rCatF, rMax, tLc2E, rSortedL, rSortedT, gUnl, tPar, rReprX, tChain, tDNewK, tDisp, tPairs, tAndV, tNotV, spOwn]
      have fin := go v H hd (fun _ _ e => e)
      cases hd with
      | non => exact ⟨_, _, .ty "list", .base .non, false, kit_ty (by decide +kernel), by rw [if_neg (by decide)]; exact ⟨_, _, .ty "tuple", .base .non, false, kit_ty (by decide +kernel), by rw [if_neg (by decide)]; exact fin⟩⟩
      | bl b => exact ⟨_, _, .ty "list", .base (.bl b), false, kit_ty (by decide +kernel), by rw [if_neg (by decide)]; exact ⟨_, _, .ty "tuple", .base (.bl b), false, kit_ty (by decide +kernel), by rw [if_neg (by decide)]; exact fin⟩⟩
      | int b => exact ⟨_, _, .ty "list", .base (.int b), false, kit_ty (by decide +kernel), by rw [if_neg (by decide)]; exact ⟨_, _, .ty "tuple", .base (.int b), false, kit_ty (by decide +kernel), by rw [if_neg (by decide)]; exact fin⟩⟩
      | str b => exact ⟨_, _, .ty "list", .base (.str b), false, kit_ty (by decide +kernel), by rw [if_neg (by decide)]; exact ⟨_, _, .ty "tuple", .base (.str b), false, kit_ty (by decide +kernel), by rw [if_neg (by decide)]; exact fin⟩⟩
      | lst a b => simp [flatT] at fl
      | @tup a xs ds hx al =>
        clear fin
        have fls : flatTs ds = true := by simpa [flatT] using fl
        have dps : PyData.depthAll ds ≤ k := by
          simp only [PyData.depth] at dp
          omega
        have wts : PyData.weightAll ds ≤ 50000 := by simpa only [PyData.weight] using wt
        have ln : xs.length = ds.length := DpAll.len al
        have lw := wt_len (ds := ds)
        refine ⟨_, _, .ty "list", ty_tup hx, false, kit_ty (by decide +kernel), ?_⟩
        rw [if_neg (by decide)]
        refine ⟨_, _, .ty "tuple", ty_tup hx, true, kit_ty (by decide +kernel), ?_⟩
        rw [if_pos rfl]
        refine ⟨a, rfl, ⟨_, hx⟩, ?_⟩
        refine lcTup (K := K) none (fun i es => es = ds.take i) potN hx (by omega) rfl (fun _ => rfl) ?_ ?_
        · rintro i x Ha es C1 N hi sa fl1 rfl go1 _
          obtain ⟨d1, q1, k1⟩ := DpAll.get al hi
          have m1 := List.mem_of_getElem? q1
          simp only [tSeq, tIfS, tTest, tOp, tUn, tVar, tC, rI, rI0, rU, rEq, rNe, rIxL, rIxT, rIxS, tCB, tCons, tNil, tRet, tRetN, tAsg, gTup, gCons, gNil, gName, gSub, rSetL, tNext, tDrop, tLst, tTup, tCall, tIf, tB, tAnd, tOr, tNot, tSl, tPart, tNoPart, tM1, tM0, tBM, tBM0, tLcE, tForE, iRng1, iRng2, iTup, iList, iStr, tYes, wipe, startDef, cxK, noxK, exists_and_left, exists_eq_left', exists_eq_left, exists_eq_right, Option.some.injEq, V.int.injEq, V.ref.injEq, V.str.injEq, V.bl.injEq, List.cons.injEq, and_true, true_and, List.append_nil, List.map_cons, List.map_nil, List.length_cons, List.length_nil, List.replicate, List.nil_append, List.cons_append, List.set_cons_zero, List.set_cons_succ, List.getElem?_cons_zero, List.getElem?_cons_succ, decide_eq_true_eq, exists_const, Nat.reduceAdd, Nat.reduceSub, List.replicate_succ, List.replicate_zero, exists_prop, and_assoc, List.set_nil, rLenK, rTupK, rLstK, rReprK, rEqD, rNeD, rIn, rAll, rAppend, rCat, ↓reduceIte, Bool.false_eq_true, iEnumT, rSortedPO, rIsi, rRep, rReverse, tLstRg, tTupRg, tRg1, tRg2, rSlL, rSlT, rSortedI, rSlF, rCatF, rMax, tLc2E, rSortedL, rSortedT, gUnl, tPar, rReprX, tChain, tDNewK, tDisp, tPairs, tAndV, tNotV, spOwn]
          refine ⟨d1, dpSt potN sa (flatTs_mem fls d1 m1) k1, flatTs_mem fls d1 m1, Nat.le_trans (dp_mem m1) dps, Nat.le_trans (wt_mem m1) wts, fun v' H' dv' sm => ?_⟩
          refine go1 _ _ d1 (St.ofSame potN sm) (flatTs_mem fls d1 m1) dv' ?_
          rw [List.take_add_one, q1]
          rfl
        · rintro D acc es H' hD sD hl fl1 al1 rfl
          rw [ln, List.take_length] at al1
          simp only [tSeq, tIfS, tTest, tOp, tUn, tVar, tC, rI, rI0, rU, rEq, rNe, rIxL, rIxT, rIxS, tCB, tCons, tNil, tRet, tRetN, tAsg, gTup, gCons, gNil, gName, gSub, rSetL, tNext, tDrop, tLst, tTup, tCall, tIf, tB, tAnd, tOr, tNot, tSl, tPart, tNoPart, tM1, tM0, tBM, tBM0, tLcE, tForE, iRng1, iRng2, iTup, iList, iStr, tYes, wipe, startDef, cxK, noxK, exists_and_left, exists_eq_left', exists_eq_left, exists_eq_right, Option.some.injEq, V.int.injEq, V.ref.injEq, V.str.injEq, V.bl.injEq, List.cons.injEq, and_true, true_and, List.append_nil, List.map_cons, List.map_nil, List.length_cons, List.length_nil, List.replicate, List.nil_append, List.cons_append, List.set_cons_zero, List.set_cons_succ, List.getElem?_cons_zero, List.getElem?_cons_succ, decide_eq_true_eq, exists_const, Nat.reduceAdd, Nat.reduceSub, List.replicate_succ, List.replicate_zero, exists_prop, and_assoc, List.set_nil, rLenK, rTupK, rLstK, rReprK, rEqD, rNeD, rIn, rAll, rAppend, rCat, ↓reduceIte, Bool.false_eq_true, iEnumT, rSortedPO, rIsi, rRep, rReverse, tLstRg, tTupRg, tRg1, tRg2, rSlL, rSlT, rSortedI, rSlF, rCatF, rMax, tLc2E, rSortedL, rSortedT, gUnl, tPar, rReprX, tChain, tDNewK, tDisp, tPairs, tAndV, tNotV]
          refine ⟨acc, .inl ⟨SqL.of hl, fun t ht => ?_⟩⟩
          have s2 : Fd.St none H' (upd H' t (.tup acc)) := St.new potN ht
          exact go _ _ (.tup (SqT.of upd_same) (dpsSt potN s2 fls al1)) (sD.trans s2).toSame
theorem ok_own {f : Addr} {fd : FuncData} (F : Fun K "_own" "_own" s_own f fd) (M : Blt mg) (e1 : mg "_own" = some (.ref f)) (e2 : Binds K fd ["thing"] []) : ∀ k, FnOk P w K mg base CX0 (k + 1) f fd ["thing"] (spOwn K k)
  | 0 => step_own F M fun j e => absurd e (by omega)
  | k + 1 => step_own F M fun j e => by
    obtain rfl : j = k := by omega
    exact ⟨⟨_, _, ok_own F M e1 e2 j, e1, F.kp, e2⟩⟩
abbrev s_joined : Stmt := topS 1
theorem sc_joined : FnScope ["pairs", "found", "many", "thing", "before", "same"] ["pairs"] (defScope s_joined) := ⟨rfl, rfl, rfl, by decide +kernel, rfl, by decide +kernel, by decide +kernel⟩

def spJoined (K : PySem.W.Frag) : Sp := fun vs H Q _ => ∃ (a : Addr) (ps : List Pr), vs = [.ref a] ∧ PrsAt K H a ps ∧ PrsOk ps ∧ ∀ p H', H p = none → Same H H' → PrsAt K H' p (joinL ps) → Q (.ref p) H'
theorem ok_joined {f : Addr} {fd : FuncData} (F : Fun K "joined" "joined" s_joined f fd) (M : Blt mg) (C : COwn P w K mg base 2) : FnOk P w K mg base CX0 4 f fd ["pairs"] (spJoined K) := by
  refine F.ok sc_joined (fun vs H Q E h => ?_) (fun cdv A outer s H vs Q E hr h => ?_)
  · obtain ⟨a, ps, rfl, _⟩ := h
    rfl
  · obtain ⟨a, ps, rfl, ⟨xs, hx, al⟩, ok, go⟩ := h
    have ln : xs.length = ps.length := by rw [DpAll.len al, List.length_map]
    have l50 := ok.len
    have line : (100 : Nat) < sizeLine := by decide
    refine ⟨_, (pss_cons (ps_set (i := 1) sc_joined.nd rfl (by first | exact Or.inl rfl | exact Or.inr rfl) (pe_lst pa_nil))
      (pss_cons (ps_for PassesOwn.never rfl (pi_list (pv 0)) (pg_tup (n := 2) (by rfl) (pgs_cons (pg_name (i := 2) sc_joined.nd rfl (by first | exact Or.inl rfl | exact Or.inr rfl)) (pgs_cons (pg_name (i := 3) sc_joined.nd rfl (by first | exact Or.inl rfl | exact Or.inr rfl)) pgs_nil))) (pss_cons (ps_if (pt_cmpR op_eq (pv 2) pe_int (nomark _)) (pss_one ps_continue) pss_nil)
      (pss_one (ps_if (PW.pt (pw_and (pt_truth (pv 1) (by intro _; rfl)) (pw_and1 (pt_cmpR (k_eqD (K := K) rfl hr.units) (pe_ix (k_ixT (K := K) rfl) (pe_ix (k_ixL (K := K) rfl) (pv 1) (pe_un un_neg pe_int) (fun _ _ => rfl)) pe_int (fun _ _ => rfl)) (pv 3) (nomark _))))) (pss_cons (ps_asg (pe_ix (k_ixL (K := K) rfl) (pv 1) (pe_un un_neg pe_int) (fun _ _ => rfl)) (pg_tup (n := 2) (by rfl) (pgs_cons (pg_name (i := 4) sc_joined.nd rfl (by first | exact Or.inl rfl | exact Or.inr rfl)) (pgs_cons (pg_name (i := 5) sc_joined.nd rfl (by first | exact Or.inl rfl | exact Or.inr rfl)) pgs_nil))))
      (pss_one (ps_asg (pe_tup (pa_cons (pe_op op_add (pv 4) (pv 2)) (pa_cons (pv 5) pa_nil))) (pg_sub (pv 1) (pe_un un_neg pe_int) set_list)))) (pss_one (ps_expr (pe_bm PySem.F.plainAttrs_list PySem.F.slot_list_append PySem.F.type_list_append mt_append (pv 1) (pa_cons (pe_tup (pa_cons (pv 2) (pa_cons (callH C.own hr (by rfl) (pa_cons (pv 3) pa_nil)) pa_nil))) pa_nil))))))))
      (pss_one (ps_ret (pv 1))))), ?_⟩
    simp only [tSeq, tIfS, tTest, tOp, tUn, tVar, tC, rI, rI0, rU, rEq, rNe, rIxL, rIxT, rIxS, tCB, tCons, tNil, tRet, tRetN, tAsg, gTup, gCons, gNil, gName, gSub, rSetL, tNext, tDrop, tLst, tTup, tCall, tIf, tB, tAnd, tOr, tNot, tSl, tPart, tNoPart, tM1, tM0, tBM, tBM0, tLcE, tForE, iRng1, iRng2, iTup, iList, iStr, tYes, wipe, startDef, cxK, noxK, exists_and_left, exists_eq_left', exists_eq_left, exists_eq_right, Option.some.injEq, V.int.injEq, V.ref.injEq, V.str.injEq, V.bl.injEq, List.cons.injEq, and_true, true_and, List.append_nil, List.map_cons, List.map_nil, List.length_cons, List.length_nil, List.replicate, List.nil_append, List.cons_append, List.set_cons_zero, List.set_cons_succ, List.getElem?_cons_zero, List.getElem?_cons_succ, decide_eq_true_eq, exists_const, Nat.reduceAdd, Nat.reduceSub, List.replicate_succ, List.replicate_zero, exists_prop, and_assoc, List.set_nil, rLenK, rTupK, rLstK, rReprK, rEqD, rNeD, rIn, rAll, rAppend, rCat, ↓reduceIte, Bool.false_eq_true, iEnumT, rSortedPO, rIsi, rRep, rReverse, tLstRg, tTupRg, tRg1, tRg2, rSlL, rSlT, rSortedI, rSlF, rCatF, rMax, tLc2E, rSortedL, rSortedT, gUnl, tPar, rReprX, tChain, tDNewK, tDisp, tPairs, tAndV, tNotV]
    refine ⟨by decide, fun l hl => ⟨⟨_, SqL.of ((upd_ne (ne_of_none hx hl)).trans hx)⟩, ?_⟩⟩
    refine forLst (xs := xs) (fun i σ H' => ∃ (a2 a3 a4 a5 : Option V) (acc : List V), σ = [some (.ref a), some (.ref l), a2, a3, a4, a5] ∧ Fd.St none H H' ∧ H' l = some (.lst acc) ∧ DpAll K H' acc ((joinL (ps.take i)).map pairD))
      ⟨none, none, none, none, [], rfl, St.new potN hl, upd_same, .nil⟩ ?_ ?_ ?_
    · rintro i σ H' _ ⟨a2, a3, a4, a5, acc, rfl, sa, _⟩
      exact SqL.of (sa.same a _ (fun z => nomatch z) hx)
    · rintro i x σ Ha hi ⟨a2, a3, a4, a5, acc, rfl, sa, hla, ala⟩
      obtain ⟨y, b, v, qy, rfl, sq, dv⟩ := pair_get al hi
      have my := List.mem_of_getElem? qy
      have ty := ok.th y my
      have fv := flat_th ty
      have sqa := St.tup potN sa sq
      have dva := dpSt potN sa fv dv
      have step1 : joinL (ps.take (i + 1)) = addJ (joinL (ps.take i)) y := by
        rw [List.take_add_one, qy]
        exact joinL_snoc _ _
      have ths : ∀ z ∈ joinL (ps.take i), z.2 < 8 := join_things _ fun z m => ok.th z (List.mem_of_mem_take m)
      have lacc : acc.length ≤ 50 := by
        have h1 := DpAll.len ala
        have h2 := join_len (ps.take i)
        rw [List.length_map] at h1
        rw [List.length_take] at h2
        omega
      have Hl : H l = none := hl
      simp only [tSeq, tIfS, tTest, tOp, tUn, tVar, tC, rI, rI0, rU, rEq, rNe, rIxL, rIxT, rIxS, tCB, tCons, tNil, tRet, tRetN, tAsg, gTup, gCons, gNil, gName, gSub, rSetL, tNext, tDrop, tLst, tTup, tCall, tIf, tB, tAnd, tOr, tNot, tSl, tPart, tNoPart, tM1, tM0, tBM, tBM0, tLcE, tForE, iRng1, iRng2, iTup, iList, iStr, tYes, wipe, startDef, cxK, noxK, exists_and_left, exists_eq_left', exists_eq_left, exists_eq_right, Option.some.injEq, V.int.injEq, V.ref.injEq, V.str.injEq, V.bl.injEq, List.cons.injEq, and_true, true_and, List.append_nil, List.map_cons, List.map_nil, List.length_cons, List.length_nil, List.replicate, List.nil_append, List.cons_append, List.set_cons_zero, List.set_cons_succ, List.getElem?_cons_zero, List.getElem?_cons_succ, decide_eq_true_eq, exists_const, Nat.reduceAdd, Nat.reduceSub, List.replicate_succ, List.replicate_zero, exists_prop, and_assoc, List.set_nil, rLenK, rTupK, rLstK, rReprK, rEqD, rNeD, rIn, rAll, rAppend, rCat, ↓reduceIte, Bool.false_eq_true, iEnumT, rSortedPO, rIsi, rRep, rReverse, tLstRg, tTupRg, tRg1, tRg2, rSlL, rSlT, rSortedI, rSlF, rCatF, rMax, tLc2E, rSortedL, rSortedT, gUnl, tPar, rReprX, tChain, tDNewK, tDisp, tPairs, tAndV, tNotV, tCont, spOwn]
      refine ⟨_, sqa, rfl, _, _, rfl, _, _, rfl, rfl, rfl, ?_⟩
      by_cases z0 : y.1 = 0
      · rw [if_pos (by simpa using z0)]
        refine ⟨sa, acc, hla, ?_⟩
        rw [step1]
        unfold addJ
        rw [if_pos z0]
        exact ala
      · rw [if_neg (by simpa using z0)]
        rcases snoc_cases (joinL (ps.take i)) with ej | ⟨r, z, ej⟩
        · have sl : sameLast (joinL (ps.take i)) y.2 = false := by rw [ej]; rfl
          have e0 : acc = [] := by
            have ala0 := ala
            rw [ej] at ala0
            cases ala0
            rfl
          refine ⟨false, .inl ⟨acc, SqL.of hla, by rw [e0]; rfl⟩, ?_⟩
          rw [if_neg (by decide)]
          refine ⟨.inl ⟨rfl, _, SqL.of hla⟩, _, dva, fv, (nw_th ty).2, Nat.le_trans (nw_th ty).1.wt (by decide), fun v' H2 dv' sm => ⟨by decide, fun t ht => ?_⟩⟩
          have nl := ne_of_none (sm _ _ hla) ht
          have s2 : Same Ha (upd H2 t (.tup [.int y.1, v'])) := sm.trans (same_new ht)
          have fl : flatTs ((joinL (ps.take i)).map pairD) = true := flat_pairs ths
          refine ⟨_, (upd_ne nl).trans (sm _ _ hla), by omega, St.put potN (sa.trans (St.ofSame potN s2)) Hl, _, upd_same, ?_⟩
          rw [step1, addJ, if_neg z0, sl, if_neg (by decide), List.map_append]
          refine DpAll.app (DpAll.move (fun _ _ => tup_put ((upd_ne nl).trans (sm _ _ hla))) fl (dpsSame s2 fl ala)) (.cons ?_ .nil)
          refine Dp.move (fun _ _ => tup_put ((upd_ne nl).trans (sm _ _ hla))) (flat_pair ty) ?_
          exact .tup (SqT.of upd_same) (.cons (.int _) (.cons (dpSame (same_new ht) fv dv') .nil))
        · have tz : z.2 < 8 := ths z (by rw [ej]; simp)
          have ala0 := ala
          rw [ej, List.map_append] at ala0
          obtain ⟨acc0, x0, e0, al0, dz⟩ := dps_snoc ala0
          obtain ⟨c, zs, rfl, sc, alc⟩ := Dp.tupInv dz
          obtain ⟨vz, rfl, dvz⟩ : ∃ vz, zs = [.int z.1, vz] ∧ Dp K Ha vz (thD z.2) := by
            cases alc with
            | cons h1 h2 =>
              cases h2 with
              | cons h2 h3 =>
                cases h3
                cases h1
                exact ⟨_, rfl, h2⟩
          refine ⟨true, .inl ⟨acc, SqL.of hla, by rw [e0]; simp⟩, ?_⟩
          rw [if_pos rfl]
          refine ⟨_, SqL.of hla, .ref c, by rw [e0]; exact atI_last _ _, c, rfl, _, sc, vz, atI_nat (j := 1) rfl, _, dvz, _, dva, ((nw_th tz).1.nice (by decide)).shaped, ((nw_th ty).1.nice (by decide)).shaped, ?_⟩
          rw [eqv_th tz ty]
          by_cases sl : sameLast (joinL (ps.take i)) y.2 = true
          · have ez : (z.2 == y.2) = true := by
              rw [ej, sameLast_snoc] at sl
              exact sl
            rw [if_pos ez]
            refine ⟨_, SqL.of hla, .ref c, by rw [e0]; exact atI_last _ _, _, rfl, _, sc, rfl, _, _, rfl, _, _, rfl, rfl, ?_⟩
            refine ⟨_, rfl, _, rfl, by decide, fun t ht => ?_⟩
            have nl := ne_of_none hla ht
            have s2 : Same Ha (upd Ha t (.tup [.int (z.1 + y.1), vz])) := same_new ht
            have fl0 : flatTs (r.map pairD) = true := flat_pairs fun q m => ths q (by rw [ej]; exact List.mem_append_left _ m)
            have la : (upd Ha t (.tup [.int (z.1 + y.1), vz])) l = some (.lst acc) := (upd_ne nl).trans hla
            refine ⟨acc, la, acc0.length, ?_, St.put potN (sa.trans (St.ofSame potN s2)) Hl, _, upd_same, ?_⟩
            · rw [e0]
              unfold ixN
              rw [List.length_append, List.length_singleton, if_neg (by decide), if_pos (by omega)]
              congr 1
              omega
            · have es : acc.set acc0.length (.ref t) = acc0 ++ [.ref t] := by
                rw [e0, List.set_append_right _ _ (Nat.le_refl _)]
                simp
              rw [step1, addJ, if_neg z0, if_pos sl, ej, bump_snoc, List.map_append, es]
              refine DpAll.app (DpAll.move (fun _ _ => tup_put la) fl0 (dpsSame s2 fl0 al0)) (.cons ?_ .nil)
              refine Dp.move (fun _ _ => tup_put la) (flat_pair (x := (z.1 + y.1, z.2)) tz) ?_
              exact .tup (SqT.of upd_same) (.cons (.int _) (.cons (dpSame s2 (flat_th tz) dvz) .nil))
          · have sl : sameLast (joinL (ps.take i)) y.2 = false := by simpa using sl
            have ez : ¬ (z.2 == y.2) = true := by
              rw [ej, sameLast_snoc] at sl
              rw [sl]
              decide
            rw [if_neg ez]
            refine ⟨.inl ⟨rfl, _, SqL.of hla⟩, _, dva, fv, (nw_th ty).2, Nat.le_trans (nw_th ty).1.wt (by decide), fun v' H2 dv' sm => ⟨by decide, fun t ht => ?_⟩⟩
            have nl := ne_of_none (sm _ _ hla) ht
            have s2 : Same Ha (upd H2 t (.tup [.int y.1, v'])) := sm.trans (same_new ht)
            have fl : flatTs ((joinL (ps.take i)).map pairD) = true := flat_pairs ths
            refine ⟨_, (upd_ne nl).trans (sm _ _ hla), by omega, St.put potN (sa.trans (St.ofSame potN s2)) Hl, _, upd_same, ?_⟩
            rw [step1, addJ, if_neg z0, sl, if_neg (by decide), List.map_append]
            refine DpAll.app (DpAll.move (fun _ _ => tup_put ((upd_ne nl).trans (sm _ _ hla))) fl (dpsSame s2 fl ala)) (.cons ?_ .nil)
            refine Dp.move (fun _ _ => tup_put ((upd_ne nl).trans (sm _ _ hla))) (flat_pair ty) ?_
            exact .tup (SqT.of upd_same) (.cons (.int _) (.cons (dpSame (same_new ht) fv dv') .nil))
    · rintro σ H' ⟨a2, a3, a4, a5, acc, rfl, sa, hla, ala⟩
      rw [ln, List.take_length] at ala
      simp only [tSeq, tIfS, tTest, tOp, tUn, tVar, tC, rI, rI0, rU, rEq, rNe, rIxL, rIxT, rIxS, tCB, tCons, tNil, tRet, tRetN, tAsg, gTup, gCons, gNil, gName, gSub, rSetL, tNext, tDrop, tLst, tTup, tCall, tIf, tB, tAnd, tOr, tNot, tSl, tPart, tNoPart, tM1, tM0, tBM, tBM0, tLcE, tForE, iRng1, iRng2, iTup, iList, iStr, tYes, wipe, startDef, cxK, noxK, exists_and_left, exists_eq_left', exists_eq_left, exists_eq_right, Option.some.injEq, V.int.injEq, V.ref.injEq, V.str.injEq, V.bl.injEq, List.cons.injEq, and_true, true_and, List.append_nil, List.map_cons, List.map_nil, List.length_cons, List.length_nil, List.replicate, List.nil_append, List.cons_append, List.set_cons_zero, List.set_cons_succ, List.getElem?_cons_zero, List.getElem?_cons_succ, decide_eq_true_eq, exists_const, Nat.reduceAdd, Nat.reduceSub, List.replicate_succ, List.replicate_zero, exists_prop, and_assoc, List.set_nil, rLenK, rTupK, rLstK, rReprK, rEqD, rNeD, rIn, rAll, rAppend, rCat, ↓reduceIte, Bool.false_eq_true, iEnumT, rSortedPO, rIsi, rRep, rReverse, tLstRg, tTupRg, tRg1, tRg2, rSlL, rSlT, rSortedI, rSlF, rCatF, rMax, tLc2E, rSortedL, rSortedT, gUnl, tPar, rReprX, tChain, tDNewK, tDisp, tPairs, tAndV, tNotV]
      exact go l H' hl sa.toSame ⟨acc, hla, ala⟩
abbrev s_pairs : Stmt := topS 7
theorem sc_pairs : FnScope ["_law_pot_here", "_law_some", "_law_things", "_law_k", "_law_found", "_law_count"] ["_law_pot_here"] (defScope s_pairs) := ⟨rfl, rfl, rfl, by decide +kernel, rfl, by decide +kernel, by decide +kernel⟩

def spPairs (K : PySem.W.Frag) : Sp := fun vs H Q _ => ∃ p : Addr, vs = [.ref p] ∧ Pot H p ∧ ∀ l ps H', PrsOk ps → H l = none → PrsAt K H' l ps → Fd.St (some p) H H' → Q (.ref l) H'
theorem ok_pairs {f : Addr} {fd : FuncData} (F : Fun K "_law_pairs" "_law_pairs" s_pairs f fd) (M : Blt mg) (C : CTake P w K mg base) : FnOk P w K mg base CX0 2 f fd ["_law_pot_here"] (spPairs K) := by
  refine F.ok sc_pairs (fun vs H Q E h => ?_) (fun cdv A outer s H vs Q E hr h => ?_)
  · obtain ⟨p, rfl, _⟩ := h
    rfl
  · obtain ⟨p, rfl, pp, go⟩ := h
    have line : (100 : Nat) < sizeLine := by decide
    refine ⟨_, (pss_cons (ps_set (i := 1) sc_pairs.nd rfl (by first | exact Or.inl rfl | exact Or.inr rfl) (pe_lst (pa_cons pe_int (pa_cons pe_int (pa_cons pe_str (pa_cons pe_str (pa_cons pe_non (pa_cons (pe_tup (pa_cons pe_int (pa_cons pe_int pa_nil))) (pa_cons (pe_tup (pa_cons pe_str (pa_cons (pe_tup pa_nil) pa_nil))) (pa_cons (pe_tup (pa_cons (pe_tup pa_nil) (pa_cons (pe_tup pa_nil) pa_nil))) pa_nil))))))))))
      (pss_cons (ps_setLc (i := 2) (own := [("_law_k", 3)]) (g := gName 3) (tt := tYes) rfl sc_pairs.nd rfl rfl (sw_true rfl rfl rfl (by decide +kernel)) (pi_range1 (by rfl) M.range (pa_cons (pe_op op_add pe_int (callH C.take hr (by rfl) (pa_cons (pv 0) (pa_cons pe_int pa_nil)))) pa_nil)) (blkOk_by (own := [("_law_k", 3)]) (N := ["_law_pot_here", "_law_some", "_law_things", "_law_k", "_law_found", "_law_count"]) (sc := defScope s_pairs) (by decide +kernel)) (fun _ _ _ _ _ => (pg_name (i := 3) sc_pairs.nd rfl (by first | exact Or.inl rfl | exact Or.inr rfl))) (fun _ _ _ _ _ => pts_nil) (fun _ _ _ _ _ => (pe_ix (k_ixL (K := K) rfl) (pv 1) (callH C.take hr (by rfl) (pa_cons (pv 0) (pa_cons pe_int pa_nil))) (fun _ _ => rfl))))
      (pss_cons (ps_set (i := 4) sc_pairs.nd rfl (by first | exact Or.inl rfl | exact Or.inr rfl) (pe_lst pa_nil))
      (pss_cons (ps_for PassesOwn.never rfl (pi_range1 (by rfl) M.range (pa_cons (callH C.take hr (by rfl) (pa_cons (pv 0) (pa_cons pe_int pa_nil))) pa_nil)) (pg_name (i := 3) sc_pairs.nd rfl (by first | exact Or.inl rfl | exact Or.inr rfl)) (pss_cons (ps_set (i := 5) sc_pairs.nd rfl (by first | exact Or.inl rfl | exact Or.inr rfl) (pe_ix (k_ixL (K := K) rfl) (pe_lst (pa_cons pe_int (pa_cons pe_int (pa_cons (callH C.take hr (by rfl) (pa_cons (pv 0) (pa_cons pe_int pa_nil))) (pa_cons (callH C.take hr (by rfl) (pa_cons (pv 0) (pa_cons (pe_op op_pow pe_int pe_int) pa_nil))) pa_nil))))) (callH C.take hr (by rfl) (pa_cons (pv 0) (pa_cons pe_int pa_nil))) (fun _ _ => rfl)))
      (pss_one (ps_expr (pe_bm PySem.F.plainAttrs_list PySem.F.slot_list_append PySem.F.type_list_append mt_append (pv 4) (pa_cons (pe_tup (pa_cons (pv 5) (pa_cons (pe_ix (k_ixL (K := K) rfl) (pv 2) (callH C.take hr (by rfl) (pa_cons (pv 0) (pa_cons (pe_callB (k_len (K := K) rfl) (by rfl) M.len (by decide +kernel) (pa_cons (pv 2) pa_nil)) pa_nil))) (fun _ _ => rfl)) pa_nil))) pa_nil))))))
      (pss_one (ps_ret (pv 4))))))), ?_⟩
    simp only [tSeq, tIfS, tTest, tOp, tUn, tVar, tC, rI, rI0, rU, rEq, rNe, rIxL, rIxT, rIxS, tCB, tCons, tNil, tRet, tRetN, tAsg, gTup, gCons, gNil, gName, gSub, rSetL, tNext, tDrop, tLst, tTup, tCall, tIf, tB, tAnd, tOr, tNot, tSl, tPart, tNoPart, tM1, tM0, tBM, tBM0, tLcE, tForE, iRng1, iRng2, iTup, iList, iStr, tYes, wipe, startDef, cxK, noxK, exists_and_left, exists_eq_left', exists_eq_left, exists_eq_right, Option.some.injEq, V.int.injEq, V.ref.injEq, V.str.injEq, V.bl.injEq, List.cons.injEq, and_true, true_and, List.append_nil, List.map_cons, List.map_nil, List.length_cons, List.length_nil, List.replicate, List.nil_append, List.cons_append, List.set_cons_zero, List.set_cons_succ, List.getElem?_cons_zero, List.getElem?_cons_succ, decide_eq_true_eq, exists_const, Nat.reduceAdd, Nat.reduceSub, List.replicate_succ, List.replicate_zero, exists_prop, and_assoc, List.set_nil, rLenK, rTupK, rLstK, rReprK, rEqD, rNeD, rIn, rAll, rAppend, rCat, ↓reduceIte, Bool.false_eq_true, iEnumT, rSortedPO, rIsi, rRep, rReverse, tLstRg, tTupRg, tRg1, tRg2, rSlL, rSlT, rSortedI, rSlF, rCatF, rMax, tLc2E, rSortedL, rSortedT, gUnl, tPar, rReprX, tChain, tDNewK, tDisp, tPairs, tAndV, tNotV, spTake]
    refine ⟨by decide, fun t1 n1 => ⟨by decide, fun t2 n2 => ⟨by decide, fun t3 n3 => ⟨by decide, fun t4 n4 => ⟨by decide, fun t5 n5 => ⟨by decide, fun t6 n6 => ⟨by decide, fun l n7 => ?_⟩⟩⟩⟩⟩⟩⟩
    have q1 := same_new (o := HO.tup [V.int 1, V.int 2]) n1
    have h1 : (upd H t1 (HO.tup [V.int 1, V.int 2])) t1 = some (.tup [.int 1, .int 2]) := upd_same
    generalize upd H t1 (HO.tup [V.int 1, V.int 2]) = H1 at *
    have q2 := same_new (o := HO.tup []) n2
    have h2 : (upd H1 t2 (HO.tup [])) t2 = some (.tup []) := upd_same
    generalize upd H1 t2 (HO.tup []) = H2 at *
    have q3 := same_new (o := HO.tup [V.str "a", V.ref t2]) n3
    have h3 : (upd H2 t3 (HO.tup [V.str "a", V.ref t2])) t3 = some (.tup [.str "a", .ref t2]) := upd_same
    generalize upd H2 t3 (HO.tup [V.str "a", V.ref t2]) = H3 at *
    have q4 := same_new (o := HO.tup []) n4
    have h4 : (upd H3 t4 (HO.tup [])) t4 = some (.tup []) := upd_same
    generalize upd H3 t4 (HO.tup []) = H4 at *
    have q5 := same_new (o := HO.tup []) n5
    have h5 : (upd H4 t5 (HO.tup [])) t5 = some (.tup []) := upd_same
    generalize upd H4 t5 (HO.tup []) = H5 at *
    have q6 := same_new (o := HO.tup [V.ref t4, V.ref t5]) n6
    have h6 : (upd H5 t6 (HO.tup [V.ref t4, V.ref t5])) t6 = some (.tup [.ref t4, .ref t5]) := upd_same
    generalize upd H5 t6 (HO.tup [V.ref t4, V.ref t5]) = H6 at *
    have q7 := same_new (o := HO.lst [V.int 3, V.int 40, V.str "a", V.str "", V.non, V.ref t1, V.ref t3, V.ref t6]) n7
    have h7 : (upd H6 l (HO.lst [V.int 3, V.int 40, V.str "a", V.str "", V.non, V.ref t1, V.ref t3, V.ref t6])) l = some (HO.lst [V.int 3, V.int 40, V.str "a", V.str "", V.non, V.ref t1, V.ref t3, V.ref t6]) := upd_same
    generalize upd H6 l (HO.lst [V.int 3, V.int 40, V.str "a", V.str "", V.non, V.ref t1, V.ref t3, V.ref t6]) = H7 at *
    have q07 := q1.trans (q2.trans (q3.trans (q4.trans (q5.trans (q6.trans q7)))))
    have Hl : H l = none := (q1.trans (q2.trans (q3.trans (q4.trans (q5.trans q6))))).free n7
    have al : DpAll K H7 [V.int 3, V.int 40, V.str "a", V.str "", V.non, V.ref t1, V.ref t3, V.ref t6] ((List.range 8).map thD) := by
      have e1 := (q2.trans (q3.trans (q4.trans (q5.trans (q6.trans q7))))) _ _ h1
      have e2 := (q3.trans (q4.trans (q5.trans (q6.trans q7)))) _ _ h2
      have e3 := (q4.trans (q5.trans (q6.trans q7))) _ _ h3
      have e4 := (q5.trans (q6.trans q7)) _ _ h4
      have e5 := (q6.trans q7) _ _ h5
      have e6 := q7 _ _ h6
      exact .cons (.int _) (.cons (.int _) (.cons (.str _) (.cons (.str _) (.cons .non (.cons (.tup (SqT.of e1) (.cons (.int _) (.cons (.int _) .nil))) (.cons (.tup (SqT.of e3) (.cons (.str _) (.cons (.tup (SqT.of e2) .nil) .nil)))
        (.cons (.tup (SqT.of e6) (.cons (.tup (SqT.of e4) .nil) (.cons (.tup (SqT.of e5) .nil) .nil))) .nil)))))))
    generalize hxs : [V.int 3, V.int 40, V.str "a", V.str "", V.non, V.ref t1, V.ref t3, V.ref t6] = xs at *
    have lx : xs.length = 8 := by rw [← hxs]; rfl
    have s7 : Fd.St (some p) H H7 := St.ofSame pp.potO q07
    have nlp : some l ≠ some p := pp.potO.ne Hl
    have fl8 : flatTs ((List.range 8).map thD) = true := flatTs_of fun d m => by
      obtain ⟨j, mj, rfl⟩ := List.mem_map.mp m
      exact flat_th (List.mem_range.mp mj)
    refine ⟨s7.pt, by decide, by decide, fun d8 H8 d0 d1 s8 => ⟨by omega, by omega, ?_⟩⟩
    have h8 := s8.same l _ nlp h7
    have al8 := dpsSt s7.pot s8 fl8 al
    refine lcRng (K := K) (some p) (fun i ds => ∃ js : List Nat, ds = js.map thD ∧ js.length = i ∧ ∀ j ∈ js, j < 8) s8.pot (by omega) ⟨[], rfl, rfl, fun _ h => nomatch h⟩ (fun _ => rfl) ?_ ?_
    · rintro i Ha ds C1 hi sa fl ⟨js, rfl, hn, hj⟩ go1
      simp only [tSeq, tIfS, tTest, tOp, tUn, tVar, tC, rI, rI0, rU, rEq, rNe, rIxL, rIxT, rIxS, tCB, tCons, tNil, tRet, tRetN, tAsg, gTup, gCons, gNil, gName, gSub, rSetL, tNext, tDrop, tLst, tTup, tCall, tIf, tB, tAnd, tOr, tNot, tSl, tPart, tNoPart, tM1, tM0, tBM, tBM0, tLcE, tForE, iRng1, iRng2, iTup, iList, iStr, tYes, wipe, startDef, cxK, noxK, exists_and_left, exists_eq_left', exists_eq_left, exists_eq_right, Option.some.injEq, V.int.injEq, V.ref.injEq, V.str.injEq, V.bl.injEq, List.cons.injEq, and_true, true_and, List.append_nil, List.map_cons, List.map_nil, List.length_cons, List.length_nil, List.replicate, List.nil_append, List.cons_append, List.set_cons_zero, List.set_cons_succ, List.getElem?_cons_zero, List.getElem?_cons_succ, decide_eq_true_eq, exists_const, Nat.reduceAdd, Nat.reduceSub, List.replicate_succ, List.replicate_zero, exists_prop, and_assoc, List.set_nil, rLenK, rTupK, rLstK, rReprK, rEqD, rNeD, rIn, rAll, rAppend, rCat, ↓reduceIte, Bool.false_eq_true, iEnumT, rSortedPO, rIsi, rRep, rReverse, tLstRg, tTupRg, tRg1, tRg2, rSlL, rSlT, rSortedI, rSlF, rCatF, rMax, tLc2E, rSortedL, rSortedT, gUnl, tPar, rReprX, tChain, tDNewK, tDisp, tPairs, tAndV, tNotV, spTake]
      refine ⟨sa.pt, by decide, by decide, fun e Hb e0 e1 sb => ?_⟩
      obtain ⟨j, rfl⟩ : ∃ j : Nat, e = (j : Int) := ⟨e.toNat, by omega⟩
      have lj : j < 8 := by omega
      have hb := (sa.trans sb).same l _ nlp h8
      have alb := dpsSt s8.pot (sa.trans sb) fl8 al8
      have ex : xs[j]? = some (xs[j]'(by omega)) := List.getElem?_eq_getElem (by omega)
      obtain ⟨d, qd, kd⟩ := DpAll.get alb ex
      rw [List.getElem?_map, List.getElem?_range lj] at qd
      obtain rfl : thD j = d := Option.some.inj qd
      refine ⟨_, SqL.of hb, _, atI_nat ex, ?_⟩
      refine go1 _ _ _ sb (flat_th lj) kd ⟨js ++ [j], by simp, by simp [hn], fun k m => ?_⟩
      rcases List.mem_append.mp m with m | m
      · exact hj k m
      · rw [List.mem_singleton.mp m]
        exact lj
    · rintro D acc ds H9 hD s9 h9 fl9 al9 ⟨js, rfl, hn, hj⟩
      have nDp : some D ≠ some p := s8.pot.ne hD
      have la : acc.length = js.length := by rw [DpAll.len al9, List.length_map]
      refine ⟨by decide, fun r hr0 => ?_⟩
      have s10 : Fd.St (some p) H9 (upd H9 r (.lst [])) := St.new s9.pot hr0
      have h10 := s10.same D _ nDp h9
      have al10 := dpsSt s9.pot s10 fl9 al9
      have Hr : H r = none := St.free pp.potO ((s7.trans s8).trans s9) hr0
      have hr10 : (upd H9 r (HO.lst [])) r = some (.lst []) := upd_same
      have s010 := ((s7.trans s8).trans s9).trans s10
      have nrD : r ≠ D := fun e => by
        rw [e, h9] at hr0
        cases hr0
      generalize upd H9 r (HO.lst []) = H10 at *
      refine ⟨s010.pt, by decide, by decide, fun d11 H11 e0 e1 s11 => ⟨by omega, by omega, ?_⟩⟩
      have nrp : some r ≠ some p := pp.potO.ne Hr
      have h11 := s11.same D _ nDp h10
      have al11 := dpsSt s010.pot s11 fl9 al10
      have hr11 := s11.same r _ nrp hr10
      refine forRng (fun i σ H' => ∃ (a3 a5 : Option V) (zs : List V) (ps : List Pr), σ = [some (.ref p), some (.ref l), some (.ref D), a3, some (.ref r), a5] ∧ Fd.St (some p) H H' ∧ H' D = some (.lst acc) ∧ DpAll K H' acc (js.map thD) ∧
        H' r = some (.lst zs) ∧ DpAll K H' zs (ps.map pairD) ∧ ps.length = i ∧ ∀ x ∈ ps, 0 ≤ x.1 ∧ x.1 ≤ 10 ^ 30 ∧ x.2 < 8) ⟨_, _, [], [], rfl, s010.trans s11, h11, al11, hr11, .nil, rfl, fun _ m => nomatch m⟩ ?_ ?_
      · rintro i σ Ha hi ⟨a3, a5, zs, ps, rfl, sa, hDa, alD, hra, alr, hn2, ok⟩
        simp only [tSeq, tIfS, tTest, tOp, tUn, tVar, tC, rI, rI0, rU, rEq, rNe, rIxL, rIxT, rIxS, tCB, tCons, tNil, tRet, tRetN, tAsg, gTup, gCons, gNil, gName, gSub, rSetL, tNext, tDrop, tLst, tTup, tCall, tIf, tB, tAnd, tOr, tNot, tSl, tPart, tNoPart, tM1, tM0, tBM, tBM0, tLcE, tForE, iRng1, iRng2, iTup, iList, iStr, tYes, wipe, startDef, cxK, noxK, exists_and_left, exists_eq_left', exists_eq_left, exists_eq_right, Option.some.injEq, V.int.injEq, V.ref.injEq, V.str.injEq, V.bl.injEq, List.cons.injEq, and_true, true_and, List.append_nil, List.map_cons, List.map_nil, List.length_cons, List.length_nil, List.replicate, List.nil_append, List.cons_append, List.set_cons_zero, List.set_cons_succ, List.getElem?_cons_zero, List.getElem?_cons_succ, decide_eq_true_eq, exists_const, Nat.reduceAdd, Nat.reduceSub, List.replicate_succ, List.replicate_zero, exists_prop, and_assoc, List.set_nil, rLenK, rTupK, rLstK, rReprK, rEqD, rNeD, rIn, rAll, rAppend, rCat, ↓reduceIte, Bool.false_eq_true, iEnumT, rSortedPO, rIsi, rRep, rReverse, tLstRg, tTupRg, tRg1, tRg2, rSlL, rSlT, rSortedI, rSlF, rCatF, rMax, tLc2E, rSortedL, rSortedT, gUnl, tPar, rReprX, tChain, tDNewK, tDisp, tPairs, tAndV, tNotV, spTake]
        have big : (10 : Int) ^ Int.toNat 30 = 10 ^ 30 := by decide
        refine ⟨sa.pt, by decide, by decide, fun a Hb a0 a1 s1 => ⟨⟨by decide, by decide, by decide⟩, s1.pt, by decide, by decide, fun b Hc b0 b1 s2 => ⟨by decide, fun c hc => ?_⟩⟩⟩
        have s3 : Fd.St (some p) Hc (upd Hc c (.lst [.int 0, .int 1, .int a, .int b])) := St.new s2.pot hc
        have nc : some c ≠ some p := s2.pot.ne hc
        have h3 : (upd Hc c (HO.lst [V.int 0, V.int 1, V.int a, V.int b])) c = some (.lst [.int 0, .int 1, .int a, .int b]) := upd_same
        generalize upd Hc c (HO.lst [V.int 0, V.int 1, V.int a, V.int b]) = Hd at *
        refine ⟨s3.pt, by decide, by decide, fun d He d0 d1 s4 => ?_⟩
        rw [big] at b1
        obtain ⟨cn, cn0, cn1, ecn⟩ : ∃ cn : Int, 0 ≤ cn ∧ cn ≤ 10 ^ 30 ∧ atI [V.int 0, V.int 1, V.int a, V.int b] d = some (.int cn) := by
          have dd : d = 0 ∨ d = 1 ∨ d = 2 ∨ d = 3 := by omega
          rcases dd with rfl | rfl | rfl | rfl
          · exact ⟨0, by omega, by decide, rfl⟩
          · exact ⟨1, by omega, by decide, rfl⟩
          · exact ⟨a, by omega, by omega, rfl⟩
          · exact ⟨b, by omega, by omega, rfl⟩
        have s14 := ((s1.trans s2).trans s3).trans s4
        have hD4 := s14.same D _ nDp hDa
        have alD4 := dpsSt sa.pot s14 fl9 alD
        have hr4 := s14.same r _ nrp hra
        have lj : 0 < js.length := by omega
        refine ⟨_, SqL.of (s4.same c _ nc h3), _, ecn, .inl ⟨rfl, _, SqL.of hr4⟩, acc, .inl (SqL.of hD4), s4.pt, by omega, Nat.lt_of_le_of_lt (Nat.log2_le_self _) (by omega), fun e Hf e0 e1 s5 => ?_⟩
        obtain ⟨m, rfl⟩ : ∃ m : Nat, e = (m : Int) := ⟨e.toNat, by omega⟩
        have lm : m < acc.length := by omega
        have hD5 := s5.same D _ nDp hD4
        have alD5 := dpsSt s4.pot s5 fl9 alD4
        have hr5 := s5.same r _ nrp hr4
        have ex : acc[m]? = some acc[m] := List.getElem?_eq_getElem lm
        obtain ⟨dt, qd, kd⟩ := DpAll.get alD5 ex
        rw [List.getElem?_map, List.getElem?_eq_getElem (by omega : m < js.length)] at qd
        obtain rfl : thD (js[m]'(by omega)) = dt := Option.some.inj qd
        have tj : (js[m]'(by omega)) < 8 := hj _ (List.getElem_mem _)
        generalize (js[m]'(by omega)) = jm at *
        refine ⟨_, SqL.of hD5, _, atI_nat ex, by decide, fun t ht => ?_⟩
        have s6 : Fd.St (some p) Hf (upd Hf t (.tup [.int cn, acc[m]])) := St.new s5.pot ht
        have ntr := ne_of_none hr5 ht
        have ntD := ne_of_none hD5 ht
        have flz : flatTs (ps.map pairD) = true := flat_pairs fun x m => (ok x m).2.2
        have lz : zs.length ≤ 30 := by
          rw [DpAll.len alr, List.length_map]
          omega
        have alr6 := dpsSt sa.pot ((s14.trans s5).trans s6) flz alr
        have hr6 := (upd_ne (o := .tup [.int cn, acc[m]]) ntr).trans hr5
        have hD6 := (upd_ne (o := .tup [.int cn, acc[m]]) ntD).trans hD5
        refine ⟨_, hr6, by omega, St.put pp.potO (((sa.trans s14).trans s5).trans s6) Hr, (upd_ne nrD.symm).trans hD6, DpAll.move (fun _ _ => tup_put hr6) fl9 (dpsSt s5.pot s6 fl9 alD5), _, upd_same, ps ++ [(cn, jm)], ?_, by simp; omega, fun x mx => ?_⟩
        · rw [List.map_append]
          refine DpAll.app (DpAll.move (fun _ _ => tup_put hr6) flz alr6) (.cons ?_ .nil)
          refine Dp.move (fun _ _ => tup_put hr6) (flat_pair (x := (cn, jm)) tj) ?_
          exact .tup (SqT.of upd_same) (.cons (.int _) (.cons (dpSt s5.pot s6 (flat_th tj) kd) .nil))
        · rcases List.mem_append.mp mx with mx | mx
          · exact ok x mx
          · rw [List.mem_singleton.mp mx]
            exact ⟨cn0, cn1, tj⟩
      · rintro σ H' ⟨a3, a5, zs, ps, rfl, sa, hDa, alD, hra, alr, hn2, ok⟩
        simp only [tSeq, tIfS, tTest, tOp, tUn, tVar, tC, rI, rI0, rU, rEq, rNe, rIxL, rIxT, rIxS, tCB, tCons, tNil, tRet, tRetN, tAsg, gTup, gCons, gNil, gName, gSub, rSetL, tNext, tDrop, tLst, tTup, tCall, tIf, tB, tAnd, tOr, tNot, tSl, tPart, tNoPart, tM1, tM0, tBM, tBM0, tLcE, tForE, iRng1, iRng2, iTup, iList, iStr, tYes, wipe, startDef, cxK, noxK, exists_and_left, exists_eq_left', exists_eq_left, exists_eq_right, Option.some.injEq, V.int.injEq, V.ref.injEq, V.str.injEq, V.bl.injEq, List.cons.injEq, and_true, true_and, List.append_nil, List.map_cons, List.map_nil, List.length_cons, List.length_nil, List.replicate, List.nil_append, List.cons_append, List.set_cons_zero, List.set_cons_succ, List.getElem?_cons_zero, List.getElem?_cons_succ, decide_eq_true_eq, exists_const, Nat.reduceAdd, Nat.reduceSub, List.replicate_succ, List.replicate_zero, exists_prop, and_assoc, List.set_nil, rLenK, rTupK, rLstK, rReprK, rEqD, rNeD, rIn, rAll, rAppend, rCat, ↓reduceIte, Bool.false_eq_true, iEnumT, rSortedPO, rIsi, rRep, rReverse, tLstRg, tTupRg, tRg1, tRg2, rSlL, rSlT, rSortedI, rSlF, rCatF, rMax, tLc2E, rSortedL, rSortedT, gUnl, tPar, rReprX, tChain, tDNewK, tDisp, tPairs, tAndV, tNotV]
        have nn : ∀ x ∈ ps, 0 ≤ x.1 := fun x m => (ok x m).1
        refine go r ps H' ⟨nn, fun x m => (ok x m).2.2, by omega, ?_⟩ Hr ⟨zs, hra, alr⟩ sa
        have t1 := total_le (B := 10 ^ 30) (ps := ps) fun x m => (ok x m).2.1
        have t2 : (ps.length : Int) ≤ 21 := by omega
        have t3 : (ps.length : Int) * 10 ^ 30 ≤ 21 * 10 ^ 30 := Int.mul_le_mul_of_nonneg_right t2 (by decide)
        have t4 : (21 : Int) * 10 ^ 30 < 2 ^ 200 := by decide
        omega
theorem k_sum {X : Cx} {K : PySem.W.Frag} (h : X.K = K) (hc : X.calm = true) : CallR X (.builtin "sum") (rSum K) := h ▸ cr_sum hc
theorem cut_two (xs : List V) {b e : Nat} (hb : b ≤ xs.length) (he : e ≤ xs.length) : cutV xs (some (b : Int)) (some (e : Int)) = (xs.take e).drop b := by
  unfold cutV
  rw [HT.sIx_nat, HT.sIx_nat, Nat.min_eq_left hb, Nat.min_eq_left he, List.drop_take]
theorem forZip {J : Nat} {a b : Addr} {xs ys : List V} {g : TG} {tb : TS} {D : Ends} {σ : L2.St} {H1 : Hp} (hn : J = min xs.length ys.length) (Pv : Nat → L2.St → Hp → Prop) (h0 : Pv 0 σ H1) (hG : ∀ i σ H, i ≤ J → Pv i σ H → SqL K H a xs ∧ SqL K H b ys)
    (hs : ∀ i x y T σ H, xs[i]? = some x → ys[i]? = some y → Pv i σ H → H T = none → g (.ref T) σ (upd H T (.tup [x, y])) fun σ2 H2 => tb { D with nx := Pv (i + 1), ct := Pv (i + 1), bk := D.nx } σ2 H2) (hd : ∀ σ H, Pv J σ H → D.nx σ H) : ForK (Itz K a b) g tb D σ H1 :=
  for_it (walk_zip hn) Pv h0 hG (by
    rintro i x σ H H' hi p ⟨T, x1, x2, rfl, nT, rfl, e1, e2⟩
    exact hs i x1 x2 T σ H e1 e2 p nT) hd
theorem lcPrs {tt : TT} {te : TE} {vs : List Nat} {σ : L2.St} {H1 : Hp} {Q : VK} {a : Addr} {xs : List V} {ps : List Pr} {j1 j2 : Nat} (R : Nat → List PyData → Prop) (hx : SqL K H1 a xs) (al : DpAll K H1 xs (ps.map pairD)) (hn : ps.length ≤ 1000000) (r0 : R 0 [])
    (hw : ∀ x y, wipe (((wipe σ vs).set j1 (some x)).set j2 (some y)) vs = wipe σ vs)
    (step : ∀ i y v Ha ds (C : V → Hp → Prop) (N : Hp → Prop), ps[i]? = some y → Fd.St none H1 Ha → flatTs ds = true → R i ds →
      (∀ y H4 d, Fd.St none Ha H4 → flatT d = true → Dp K H4 y d → R (i + 1) (ds ++ [d]) → C y H4) → (∀ H3, Fd.St none Ha H3 → R (i + 1) ds → N H3) →
      tt (((wipe σ vs).set j1 (some (.int y.1))).set j2 (some v)) Ha fun b H3 => if b = true then te (((wipe σ vs).set j1 (some (.int y.1))).set j2 (some v)) H3 C else N H3)
    (done : ∀ D acc ds H', H1 D = none → Fd.St none H1 H' → H' D = some (.lst acc) → flatTs ds = true → DpAll K H' acc ds → R ps.length ds → Q (.ref D) H') :
    LcK (Itl K a) (gTup K 2 (gCons (gName j1) (gCons (gName j2) gNil))) tt te vs σ Q H1 := by
  have len : xs.length = ps.length := by rw [DpAll.len al, List.length_map]
  refine lcW walk_list none R potN (fun H s => St.frzL potN s (fun z => nomatch z) hx) (by omega) r0 ?_ (by rw [len]; exact done)
  rintro i x Ha H' ds C N hi s fl r ⟨rfl, e⟩ k k2
  obtain ⟨y, b, v, q, rfl, sq, _⟩ := pair_get al e
  exact ⟨_, _, rfl, St.tup potN s sq, rfl, _, _, rfl, _, _, rfl, rfl, hw _ _, step i y v _ ds C N q s fl r k k2⟩
abbrev s_due : Stmt := topS 8
theorem sc_due : FnScope ["_law_pairs_here", "_law_left", "_law_pair", "_law_begins", "_law_k", "_law_found", "_law_begin", "_law_end", "_law_count", "_law_thing"] ["_law_pairs_here"] (defScope s_due) := ⟨rfl, rfl, rfl, by decide +kernel, rfl, by decide +kernel, by decide +kernel⟩

def spDue (K : PySem.W.Frag) : Sp := fun vs H Q _ => ∃ (a : Addr) (ps : List Pr), vs = [.ref a] ∧ PrsAt K H a ps ∧ PrsOk ps ∧ ∀ p H', H p = none → Same H H' → PrsAt K H' p (joinL ps) → Q (.ref p) H'
theorem ok_due {f : Addr} {fd : FuncData} (F : Fun K "_law_due" "_law_due" s_due f fd) (M : Blt mg) : FnOk P w K mg base CX0 1 f fd ["_law_pairs_here"] (spDue K) := by
  refine F.ok sc_due (fun vs H Q E h => ?_) (fun cdv A outer s H vs Q E hr h => ?_)
  · obtain ⟨a, ps, rfl, _⟩ := h
    rfl
  · obtain ⟨a, ps, rfl, ⟨xs, hx, al⟩, ok, go⟩ := h
    have ln : xs.length = ps.length := by rw [DpAll.len al, List.length_map]
    have l40 := ok.len
    have line : (100 : Nat) < sizeLine := by decide
    refine ⟨_, (pss_cons (ps_set (i := 1) sc_due.nd rfl (by first | exact Or.inl rfl | exact Or.inr rfl) (pe_lc (own := [("_law_pair", 2)]) (g := gName 2)  rfl sc_due.nd (pi_list (pv 0)) (blkOk_by (own := [("_law_pair", 2)]) (N := ["_law_pairs_here", "_law_left", "_law_pair", "_law_begins", "_law_k", "_law_found", "_law_begin", "_law_end", "_law_count", "_law_thing"]) (sc := defScope s_due) (by decide +kernel)) (fun _ _ _ _ _ => (pg_name (i := 2) sc_due.nd rfl (by first | exact Or.inl rfl | exact Or.inr rfl))) (fun _ _ _ _ _ => (pts_one (pt_cmpR op_ne (pe_ix (k_ixT (K := K) rfl) (pv 2) pe_int (fun _ _ => rfl)) pe_int (nomark _)))) (fun _ _ _ _ _ => (pv 2))))
      (pss_cons (ps_setLc (i := 3) (own := [("_law_k", 4)]) (g := gName 4)  rfl sc_due.nd rfl rfl (sw_true rfl rfl rfl (by decide +kernel)) (pi_range1 (by rfl) M.range (pa_cons (pe_callB (k_len (K := K) rfl) (by rfl) M.len (by decide +kernel) (pa_cons (pv 1) pa_nil)) pa_nil)) (blkOk_by (own := [("_law_k", 4)]) (N := ["_law_pairs_here", "_law_left", "_law_pair", "_law_begins", "_law_k", "_law_found", "_law_begin", "_law_end", "_law_count", "_law_thing"]) (sc := defScope s_due) (by decide +kernel)) (fun _ _ _ _ _ => (pg_name (i := 4) sc_due.nd rfl (by first | exact Or.inl rfl | exact Or.inr rfl))) (fun _ _ _ _ _ => (pts_one (PW.pt (pw_or (pt_cmpR op_eq (pv 4) pe_int (nomark _)) (pw_or1 (pt_cmpR (k_neD (K := K) rfl hr.units) (pe_ix (k_ixT (K := K) rfl) (pe_ix (k_ixL (K := K) rfl) (pv 1) (pv 4) (fun _ _ => rfl)) pe_int (fun _ _ => rfl)) (pe_ix (k_ixT (K := K) rfl) (pe_ix (k_ixL (K := K) rfl) (pv 1) (pe_op op_sub (pv 4) pe_int) (fun _ _ => rfl)) pe_int (fun _ _ => rfl)) (nomark _))))))) (fun _ _ _ _ _ => (pv 4)))
      (pss_cons (ps_set (i := 5) sc_due.nd rfl (by first | exact Or.inl rfl | exact Or.inr rfl) (pe_lst pa_nil))
      (pss_cons (ps_for PassesOwn.never rfl (pi_zip (by rfl) M.zip (pa_cons (pv 3) (pa_cons (pe_op op_cat (pe_slice (k_slL (K := K) rfl) (pv 3) (po_some pe_int) po_none) (pe_lst (pa_cons (pe_callB (k_len (K := K) rfl) (by rfl) M.len (by decide +kernel) (pa_cons (pv 1) pa_nil)) pa_nil))) pa_nil))) (pg_tup (n := 2) (by rfl) (pgs_cons (pg_name (i := 6) sc_due.nd rfl (by first | exact Or.inl rfl | exact Or.inr rfl)) (pgs_cons (pg_name (i := 7) sc_due.nd rfl (by first | exact Or.inl rfl | exact Or.inr rfl)) pgs_nil))) (pss_one (ps_expr (pe_bm PySem.F.plainAttrs_list PySem.F.slot_list_append PySem.F.type_list_append mt_append (pv 5) (pa_cons (pe_tup (pa_cons (pe_callB (k_sum (K := K) rfl rfl) (by rfl) M.sum (by decide +kernel) (pa_cons (pe_lc (own := [("_law_count", 8), ("_law_thing", 9)]) (g := gTup K 2 (gCons (gName 8) (gCons (gName 9) gNil))) (tt := tYes) rfl sc_due.nd (pi_list (pe_slice (k_slL (K := K) rfl) (pv 1) (po_some (pv 6)) (po_some (pv 7)))) (blkOk_by (own := [("_law_count", 8), ("_law_thing", 9)]) (N := ["_law_pairs_here", "_law_left", "_law_pair", "_law_begins", "_law_k", "_law_found", "_law_begin", "_law_end", "_law_count", "_law_thing"]) (sc := defScope s_due) (by decide +kernel)) (fun _ _ _ _ _ => (pg_tup (n := 2) (by rfl) (pgs_cons (pg_name (i := 8) sc_due.nd rfl (by first | exact Or.inl rfl | exact Or.inr rfl)) (pgs_cons (pg_name (i := 9) sc_due.nd rfl (by first | exact Or.inl rfl | exact Or.inr rfl)) pgs_nil)))) (fun _ _ _ _ _ => pts_nil) (fun _ _ _ _ _ => (pv 8))) pa_nil)) (pa_cons (pe_ix (k_ixT (K := K) rfl) (pe_ix (k_ixL (K := K) rfl) (pv 1) (pv 6) (fun _ _ => rfl)) pe_int (fun _ _ => rfl)) pa_nil))) pa_nil)))))
      (pss_one (ps_ret (pv 5))))))), ?_⟩
    simp only [tSeq, tIfS, tTest, tOp, tUn, tVar, tC, rI, rI0, rU, rEq, rNe, rIxL, rIxT, rIxS, tCB, tCons, tNil, tRet, tRetN, tAsg, gTup, gCons, gNil, gName, gSub, rSetL, tNext, tDrop, tLst, tTup, tCall, tIf, tB, tAnd, tOr, tNot, tSl, tPart, tNoPart, tM1, tM0, tBM, tBM0, tLcE, tForE, iRng1, iRng2, iTup, iList, iStr, tYes, wipe, startDef, cxK, noxK, exists_and_left, exists_eq_left', exists_eq_left, exists_eq_right, Option.some.injEq, V.int.injEq, V.ref.injEq, V.str.injEq, V.bl.injEq, List.cons.injEq, and_true, true_and, List.append_nil, List.map_cons, List.map_nil, List.length_cons, List.length_nil, List.replicate, List.nil_append, List.cons_append, List.set_cons_zero, List.set_cons_succ, List.getElem?_cons_zero, List.getElem?_cons_succ, decide_eq_true_eq, exists_const, Nat.reduceAdd, Nat.reduceSub, List.replicate_succ, List.replicate_zero, exists_prop, and_assoc, List.set_nil, rLenK, rTupK, rLstK, rReprK, rEqD, rNeD, rIn, rAll, rAppend, rCat, ↓reduceIte, Bool.false_eq_true, iEnumT, rSortedPO, rIsi, rRep, rReverse, tLstRg, tTupRg, tRg1, tRg2, rSlL, rSlT, rSortedI, rSlF, rCatF, rMax, tLc2E, rSortedL, rSortedT, gUnl, tPar, rReprX, tChain, tDNewK, tDisp, tPairs, tAndV, tNotV, iZip]
    refine ⟨⟨_, SqL.of hx⟩, ?_⟩
    refine lcLst (K := K) none (fun i ds => ds = (left (ps.take i)).map pairD) potN (SqL.of hx) (fun z => nomatch z) (by omega) rfl (fun _ => rfl) ?_ ?_
    · rintro i x Ha ds C1 N hi sa fl rfl go1 skip
      obtain ⟨y, b, v, qy, rfl, sq, dv⟩ := pair_get al hi
      have step1 : left (ps.take (i + 1)) = left (ps.take i) ++ (if y.1 = 0 then [] else [y]) := by
        unfold left
        rw [List.take_add_one, qy, List.filter_append]
        congr 1
        show [y].filter _ = _
        rw [List.filter_cons]
        by_cases e : y.1 = 0 <;> simp [e]
      simp only [tSeq, tIfS, tTest, tOp, tUn, tVar, tC, rI, rI0, rU, rEq, rNe, rIxL, rIxT, rIxS, tCB, tCons, tNil, tRet, tRetN, tAsg, gTup, gCons, gNil, gName, gSub, rSetL, tNext, tDrop, tLst, tTup, tCall, tIf, tB, tAnd, tOr, tNot, tSl, tPart, tNoPart, tM1, tM0, tBM, tBM0, tLcE, tForE, iRng1, iRng2, iTup, iList, iStr, tYes, wipe, startDef, cxK, noxK, exists_and_left, exists_eq_left', exists_eq_left, exists_eq_right, Option.some.injEq, V.int.injEq, V.ref.injEq, V.str.injEq, V.bl.injEq, List.cons.injEq, and_true, true_and, List.append_nil, List.map_cons, List.map_nil, List.length_cons, List.length_nil, List.replicate, List.nil_append, List.cons_append, List.set_cons_zero, List.set_cons_succ, List.getElem?_cons_zero, List.getElem?_cons_succ, decide_eq_true_eq, exists_const, Nat.reduceAdd, Nat.reduceSub, List.replicate_succ, List.replicate_zero, exists_prop, and_assoc, List.set_nil, rLenK, rTupK, rLstK, rReprK, rEqD, rNeD, rIn, rAll, rAppend, rCat, ↓reduceIte, Bool.false_eq_true, iEnumT, rSortedPO, rIsi, rRep, rReverse, tLstRg, tTupRg, tRg1, tRg2, rSlL, rSlT, rSortedI, rSlF, rCatF, rMax, tLc2E, rSortedL, rSortedT, gUnl, tPar, rReprX, tChain, tDNewK, tDisp, tPairs, tAndV, tNotV]
      refine ⟨_, St.tup potN sa sq, _, atI_nat (j := 0) rfl, rfl, ?_⟩
      by_cases e : y.1 = 0
      · rw [if_neg (by simpa using e)]
        refine skip _ (St.refl potN) ?_
        rw [step1, if_pos e, List.append_nil]
      · rw [if_pos (by simpa using e)]
        have ty := ok.th y (List.mem_of_getElem? qy)
        refine go1 _ _ (pairD y) (St.refl potN) (flat_pair ty) (.tup (St.tup potN sa sq) (.cons (.int _) (.cons (dpSt potN sa (flat_th ty) dv) .nil))) ?_
        rw [step1, if_neg e, List.map_append]
        rfl
    · rintro D acc ds H2 hD sD hl fl al2 rfl
      rw [ln, List.take_length] at al2
      have lle : (left ps).length ≤ 40 := Nat.le_trans (List.length_filter_le ..) l40
      have thl : ∀ x ∈ left ps, x.2 < 8 := fun x m => ok.th x (List.mem_filter.mp m).1
      have nzl : ∀ x ∈ left ps, x.1 ≠ 0 := fun x m => of_decide_eq_true (List.mem_filter.mp m).2
      have edue : dueL (left ps) = joinL ps := due_left ps
      generalize hls : left ps = ls at *
      have la : acc.length = ls.length := by rw [DpAll.len al2, List.length_map]
      have hx2 := sD.same a _ (fun z => nomatch z) hx
      have Hne : ∀ {c : Addr}, H2 c = none → H c = none := fun {c} e => sD.free potN e
      refine ⟨D, rfl, acc, .inl (SqL.of hl), by omega, by omega, ?_⟩
      have en : ((acc.length : Int)).toNat = ls.length := by omega
      rw [en]
      refine lcRngT (K := K) none (fun i => (i : Int)) (fun i => by omega) (fun i ds => ds = ((List.range i).filter (newAt ls)).map fun k : Nat => PyData.int k) potN (by omega) rfl (fun _ => rfl) ?_ ?_
      · rintro k Ha ds C1 N hk sa fl1 rfl go1 skip
        have hla := sa.same D _ (fun z => nomatch z) hl
        have ala := dpsSt potN sa (flat_pairs thl) al2
        have yes : newAt ls k = true → ((List.range (k + 1)).filter (newAt ls)).map (fun k : Nat => PyData.int k) = ((List.range k).filter (newAt ls)).map (fun k : Nat => PyData.int k) ++ [.int k] := fun e => by
          rw [List.range_succ, List.filter_append, List.filter_cons, if_pos e, List.map_append]
          rfl
        have no : newAt ls k = false → ((List.range (k + 1)).filter (newAt ls)).map (fun k : Nat => PyData.int k) = ((List.range k).filter (newAt ls)).map (fun k : Nat => PyData.int k) := fun e => by
          rw [List.range_succ, List.filter_append, List.filter_cons, if_neg (by rw [e]; decide)]
          simp
        simp only [tSeq, tIfS, tTest, tOp, tUn, tVar, tC, rI, rI0, rU, rEq, rNe, rIxL, rIxT, rIxS, tCB, tCons, tNil, tRet, tRetN, tAsg, gTup, gCons, gNil, gName, gSub, rSetL, tNext, tDrop, tLst, tTup, tCall, tIf, tB, tAnd, tOr, tNot, tSl, tPart, tNoPart, tM1, tM0, tBM, tBM0, tLcE, tForE, iRng1, iRng2, iTup, iList, iStr, tYes, wipe, startDef, cxK, noxK, exists_and_left, exists_eq_left', exists_eq_left, exists_eq_right, Option.some.injEq, V.int.injEq, V.ref.injEq, V.str.injEq, V.bl.injEq, List.cons.injEq, and_true, true_and, List.append_nil, List.map_cons, List.map_nil, List.length_cons, List.length_nil, List.replicate, List.nil_append, List.cons_append, List.set_cons_zero, List.set_cons_succ, List.getElem?_cons_zero, List.getElem?_cons_succ, decide_eq_true_eq, exists_const, Nat.reduceAdd, Nat.reduceSub, List.replicate_succ, List.replicate_zero, exists_prop, and_assoc, List.set_nil, rLenK, rTupK, rLstK, rReprK, rEqD, rNeD, rIn, rAll, rAppend, rCat, ↓reduceIte, Bool.false_eq_true, iEnumT, rSortedPO, rIsi, rRep, rReverse, tLstRg, tTupRg, tRg1, tRg2, rSlL, rSlT, rSortedI, rSlF, rCatF, rMax, tLc2E, rSortedL, rSortedT, gUnl, tPar, rReprX, tChain, tDNewK, tDisp, tPairs, tAndV, tNotV]
        refine ⟨rfl, ?_⟩
        by_cases k0 : k = 0
        · rw [if_pos (by simpa using k0)]
          refine go1 _ _ (.int k) (St.refl potN) (by simp [flatT]) (.int _) (yes ?_).symm
          unfold newAt
          simp [k0]
        · rw [if_neg (by simpa using k0)]
          have e1 : acc[k]? = some (acc[k]'(by omega)) := List.getElem?_eq_getElem (by omega)
          have e2 : acc[k - 1]? = some (acc[k - 1]'(by omega)) := List.getElem?_eq_getElem (by omega)
          obtain ⟨y1, b1, v1, q1, r1, sq1, dv1⟩ := pair_get ala e1
          obtain ⟨y2, b2, v2, q2, r2, sq2, dv2⟩ := pair_get ala e2
          have t1 := thl y1 (List.mem_of_getElem? q1)
          have t2 := thl y2 (List.mem_of_getElem? q2)
          have ek : ((k : Int) - 1) = ((k - 1 : Nat) : Int) := by omega
          rw [r1] at e1
          rw [r2] at e2
          have en1 : newAt ls k = !(y1.2 == y2.2) := by
            unfold newAt
            rw [List.getElem?_map, List.getElem?_map, q1, q2]
            have : decide (k = 0) = false := by simpa using k0
            rw [this]
            by_cases q : y1.2 = y2.2 <;> simp [q]
          refine ⟨_, SqL.of hla, _, atI_nat e1, b1, rfl, _, sq1, v1, atI_nat (j := 1) rfl, _, SqL.of hla, _, by rw [ek]; exact atI_nat e2, b2, rfl, _, sq2, v2, atI_nat (j := 1) rfl, _, dv1, _, dv2, ((nw_th t1).1.nice (by decide)).shaped, ((nw_th t2).1.nice (by decide)).shaped, ?_⟩
          rw [eqv_th t1 t2, ← en1]
          cases en2 : newAt ls k with
          | true =>
            rw [if_pos rfl]
            exact go1 _ _ (.int k) (St.refl potN) (by simp [flatT]) (.int _) (yes en2).symm
          | false =>
            rw [if_neg (by decide)]
            exact skip _ (St.refl potN) (no en2).symm
      · rintro B accB ds H3 hB sB hlB flB alB rfl
        have eB : accB = ((begins ls).map fun k : Nat => (k : Int)).map V.int := dps_ints_inv (by
          rw [List.map_map]
          exact alB)
        have h3l := sB.same D _ (fun z => nomatch z) hl
        have al3 := dpsSt potN sB (flat_pairs thl) al2
        have lB : (begins ls).length ≤ 40 := by
          have : (begins ls).length ≤ ls.length := by
            unfold begins
            exact Nat.le_trans (List.length_filter_le ..) (by rw [List.length_range]; exact Nat.le_refl _)
          omega
        simp only [tSeq, tIfS, tTest, tOp, tUn, tVar, tC, rI, rI0, rU, rEq, rNe, rIxL, rIxT, rIxS, tCB, tCons, tNil, tRet, tRetN, tAsg, gTup, gCons, gNil, gName, gSub, rSetL, tNext, tDrop, tLst, tTup, tCall, tIf, tB, tAnd, tOr, tNot, tSl, tPart, tNoPart, tM1, tM0, tBM, tBM0, tLcE, tForE, iRng1, iRng2, iTup, iList, iStr, tYes, wipe, startDef, cxK, noxK, exists_and_left, exists_eq_left', exists_eq_left, exists_eq_right, Option.some.injEq, V.int.injEq, V.ref.injEq, V.str.injEq, V.bl.injEq, List.cons.injEq, and_true, true_and, List.append_nil, List.map_cons, List.map_nil, List.length_cons, List.length_nil, List.replicate, List.nil_append, List.cons_append, List.set_cons_zero, List.set_cons_succ, List.getElem?_cons_zero, List.getElem?_cons_succ, decide_eq_true_eq, exists_const, Nat.reduceAdd, Nat.reduceSub, List.replicate_succ, List.replicate_zero, exists_prop, and_assoc, List.set_nil, rLenK, rTupK, rLstK, rReprK, rEqD, rNeD, rIn, rAll, rAppend, rCat, ↓reduceIte, Bool.false_eq_true, iEnumT, rSortedPO, rIsi, rRep, rReverse, tLstRg, tTupRg, tRg1, tRg2, rSlL, rSlT, rSortedI, rSlF, rCatF, rMax, tLc2E, rSortedL, rSortedT, gUnl, tPar, rReprX, tChain, tDNewK, tDisp, tPairs, tAndV, tNotV]
        refine ⟨by decide, fun r nr => ?_⟩
        have qr := same_new (o := HO.lst []) nr
        have hr0 : (upd H3 r (HO.lst [])) r = some (.lst []) := upd_same
        have nrB : r ≠ B := (ne_of_none hlB nr).symm
        have nrD : r ≠ D := (ne_of_none h3l nr).symm
        have Hr : H r = none := (sD.trans sB).free potN nr
        generalize upd H3 r (HO.lst []) = H4 at *
        have h4B := qr _ _ hlB
        have h4D := qr _ _ h3l
        have al4 := dpsSame qr (flat_pairs thl) al3
        have lab : accB.length = (begins ls).length := by rw [eB, List.length_map, List.length_map]
        refine ⟨accB, SqL.of h4B, fun c nc => ?_⟩
        have ec : cutV accB (some 1) none = accB.tail := by
          have := cut_drop accB 1
          rw [List.drop_one] at this
          exact this
        rw [ec]
        have qc := same_new (o := HO.lst accB.tail) nc
        have hc0 : (upd H4 c (HO.lst accB.tail)) c = some (.lst accB.tail) := upd_same
        generalize upd H4 c (HO.lst accB.tail) = H5 at *
        refine ⟨acc, .inl (SqL.of (qc _ _ h4D)), by decide, fun d nd => ?_⟩
        have qd := same_new (o := HO.lst [V.int (acc.length : Nat)]) nd
        have hd0 : (upd H5 d (HO.lst [V.int (acc.length : Nat)])) d = some (.lst [V.int (acc.length : Nat)]) := upd_same
        generalize upd H5 d (HO.lst [V.int (acc.length : Nat)]) = H6 at *
        refine ⟨_, qd _ _ hc0, _, hd0, by rw [List.length_tail, List.length_singleton]; omega, fun e ne => ?_⟩
        have qe := same_new (o := HO.lst (accB.tail ++ [V.int (acc.length : Nat)])) ne
        have he0 : (upd H6 e (HO.lst (accB.tail ++ [V.int (acc.length : Nat)]))) e = some (.lst (accB.tail ++ [V.int (acc.length : Nat)])) := upd_same
        have nre : r ≠ e := ne_of_none (qd _ _ (qc _ _ hr0)) ne
        generalize upd H6 e (HO.lst (accB.tail ++ [V.int (acc.length : Nat)])) = H7 at *
        have eE : accB.tail ++ [V.int (acc.length : Nat)] = ((ends (begins ls) ls.length).map fun k : Nat => (k : Int)).map V.int := by
          unfold ends
          rw [eB, la, List.map_append, List.map_append, ← List.map_tail, ← List.map_tail]
          rfl
        have q47 := qc.trans (qd.trans qe)
        refine ⟨accB, SqL.of (q47 _ _ h4B), _, SqL.of he0, ?_⟩
        have eZ : (begins ls).length = min accB.length (accB.tail ++ [V.int (acc.length : Nat)]).length := by
          rw [eE, List.length_map, List.length_map, lab]
          rcases snoc_cases (begins ls) with eb | ⟨B0, b0, eb⟩
          · rw [eb]
            rfl
          · rw [ends_len (by rw [eb]; simp)]
            simp
        have s7 : Fd.St none H H7 := ((sD.trans sB).trans (St.ofSame potN qr)).trans (St.ofSame potN q47)
        refine forZip eZ (fun i σ H' => ∃ (a2 a4 a6 a7 a8 a9 : Option V) (zs : List V), σ = [some (.ref a), some (.ref D), a2, some (.ref B), a4, some (.ref r), a6, a7, a8, a9] ∧ Fd.St none H H' ∧ H' D = some (.lst acc) ∧ DpAll K H' acc (ls.map pairD) ∧
          H' B = some (.lst accB) ∧ H' e = some (.lst (accB.tail ++ [V.int (acc.length : Nat)])) ∧ H' r = some (.lst zs) ∧ DpAll K H' zs (((((begins ls).zip (ends (begins ls) ls.length)).take i).map (oneOf ls)).map pairD))
          ⟨none, none, none, none, none, none, [], rfl, s7, q47 _ _ h4D, dpsSame q47 (flat_pairs thl) al4, q47 _ _ h4B, he0, q47 _ _ hr0, .nil⟩ ?_ ?_ ?_
        · rintro i σ H' _ ⟨a2, a4, a6, a7, a8, a9, zs, rfl, sa, hDa, ala, hBa, hea, hra, alr⟩
          exact ⟨SqL.of hBa, SqL.of hea⟩
        · rintro i x y T σ Ha ex ey ⟨a2, a4, a6, a7, a8, a9, zs, rfl, sa, hDa, ala, hBa, hea, hra, alr⟩ nT
          obtain ⟨b, qb, rfl⟩ : ∃ b, (begins ls)[i]? = some b ∧ x = V.int (b : Nat) := by
            rw [eB, List.getElem?_map, List.getElem?_map] at ex
            cases w : (begins ls)[i]? with
            | none => rw [w] at ex; cases ex
            | some b => rw [w] at ex; exact ⟨b, rfl, (Option.some.inj ex).symm⟩
          obtain ⟨f, qf, rfl⟩ : ∃ f, (ends (begins ls) ls.length)[i]? = some f ∧ y = V.int (f : Nat) := by
            rw [eE, List.getElem?_map, List.getElem?_map] at ey
            cases w : (ends (begins ls) ls.length)[i]? with
            | none => rw [w] at ey; cases ey
            | some b => rw [w] at ey; exact ⟨b, rfl, (Option.some.inj ey).symm⟩
          have ltb : b < ls.length := begins_lt (List.mem_of_getElem? qb)
          have lef : f ≤ ls.length := by
            have m := List.mem_of_getElem? qf
            unfold ends at m
            rcases List.mem_append.mp m with m | m
            · exact Nat.le_of_lt (begins_lt (List.mem_of_mem_tail m))
            · rw [List.mem_singleton.mp m]
              exact Nat.le_refl _
          have qz : ((begins ls).zip (ends (begins ls) ls.length))[i]? = some (b, f) := by
            rw [List.getElem?_zip_eq_some]
            exact ⟨qb, qf⟩
          have s1 : Fd.St none Ha (upd Ha T (.tup [.int (b : Nat), .int (f : Nat)])) := St.new potN nT
          have hD1 := s1.same D _ (fun z => nomatch z) hDa
          have al1 := dpsSt potN s1 (flat_pairs thl) ala
          simp only [tSeq, tIfS, tTest, tOp, tUn, tVar, tC, rI, rI0, rU, rEq, rNe, rIxL, rIxT, rIxS, tCB, tCons, tNil, tRet, tRetN, tAsg, gTup, gCons, gNil, gName, gSub, rSetL, tNext, tDrop, tLst, tTup, tCall, tIf, tB, tAnd, tOr, tNot, tSl, tPart, tNoPart, tM1, tM0, tBM, tBM0, tLcE, tForE, iRng1, iRng2, iTup, iList, iStr, tYes, wipe, startDef, cxK, noxK, exists_and_left, exists_eq_left', exists_eq_left, exists_eq_right, Option.some.injEq, V.int.injEq, V.ref.injEq, V.str.injEq, V.bl.injEq, List.cons.injEq, and_true, true_and, List.append_nil, List.map_cons, List.map_nil, List.length_cons, List.length_nil, List.replicate, List.nil_append, List.cons_append, List.set_cons_zero, List.set_cons_succ, List.getElem?_cons_zero, List.getElem?_cons_succ, decide_eq_true_eq, exists_const, Nat.reduceAdd, Nat.reduceSub, List.replicate_succ, List.replicate_zero, exists_prop, and_assoc, List.set_nil, rLenK, rTupK, rLstK, rReprK, rEqD, rNeD, rIn, rAll, rAppend, rCat, ↓reduceIte, Bool.false_eq_true, iEnumT, rSortedPO, rIsi, rRep, rReverse, tLstRg, tTupRg, tRg1, tRg2, rSlL, rSlT, rSortedI, rSlF, rCatF, rMax, tLc2E, rSortedL, rSortedT, gUnl, tPar, rReprX, tChain, tDNewK, tDisp, tPairs, tAndV, tNotV]
          refine ⟨_, SqT.of upd_same, rfl, _, _, rfl, _, _, rfl, rfl, ?_⟩
          have hr1 := s1.same r _ (fun z => nomatch z) hra
          refine ⟨.inl ⟨rfl, _, SqL.of hr1⟩, _, rfl, _, rfl, acc, SqL.of hD1, fun g ng => ?_⟩
          rw [cut_two acc (by omega) (by omega)]
          have s2 := St.new (p := none) (o := .lst ((acc.take f).drop b)) potN ng
          have al2' := dpsSt potN (s1.trans s2) (flat_pairs thl) ala
          have hg : (upd (upd Ha T (.tup [.int (b : Nat), .int (f : Nat)])) g (.lst ((acc.take f).drop b))) g = some (.lst ((acc.take f).drop b)) := upd_same
          have s12 := s1.trans s2
          generalize upd (upd Ha T (.tup [.int (b : Nat), .int (f : Nat)])) g (.lst ((acc.take f).drop b)) = Hb at *
          have alc : DpAll K Hb ((acc.take f).drop b) (((ls.take f).drop b).map pairD) := by
            rw [List.map_drop, List.map_take]
            exact DpAll.drop b (DpAll.take f al2')
          refine ⟨⟨_, SqL.of hg⟩, ?_⟩
          refine lcPrs (K := K) (fun j ds => ds = (((ls.take f).drop b).take j).map fun x => PyData.int x.1) (SqL.of hg) alc (by rw [List.length_drop, List.length_take]; omega) rfl (fun _ _ => rfl) ?_ ?_
          · rintro j z v Hc ds C1 N qj sc fl1 rfl go1 _
            simp only [tSeq, tIfS, tTest, tOp, tUn, tVar, tC, rI, rI0, rU, rEq, rNe, rIxL, rIxT, rIxS, tCB, tCons, tNil, tRet, tRetN, tAsg, gTup, gCons, gNil, gName, gSub, rSetL, tNext, tDrop, tLst, tTup, tCall, tIf, tB, tAnd, tOr, tNot, tSl, tPart, tNoPart, tM1, tM0, tBM, tBM0, tLcE, tForE, iRng1, iRng2, iTup, iList, iStr, tYes, wipe, startDef, cxK, noxK, exists_and_left, exists_eq_left', exists_eq_left, exists_eq_right, Option.some.injEq, V.int.injEq, V.ref.injEq, V.str.injEq, V.bl.injEq, List.cons.injEq, and_true, true_and, List.append_nil, List.map_cons, List.map_nil, List.length_cons, List.length_nil, List.replicate, List.nil_append, List.cons_append, List.set_cons_zero, List.set_cons_succ, List.getElem?_cons_zero, List.getElem?_cons_succ, decide_eq_true_eq, exists_const, Nat.reduceAdd, Nat.reduceSub, List.replicate_succ, List.replicate_zero, exists_prop, and_assoc, List.set_nil, rLenK, rTupK, rLstK, rReprK, rEqD, rNeD, rIn, rAll, rAppend, rCat, ↓reduceIte, Bool.false_eq_true, iEnumT, rSortedPO, rIsi, rRep, rReverse, tLstRg, tTupRg, tRg1, tRg2, rSlL, rSlT, rSortedI, rSlF, rCatF, rMax, tLc2E, rSortedL, rSortedT, gUnl, tPar, rReprX, tChain, tDNewK, tDisp, tPairs, tAndV, tNotV]
            refine go1 _ _ (.int z.1) (St.refl potN) (by simp [flatT]) (.int _) ?_
            exact (take_succ_map (fun x : Pr => PyData.int x.1) _ qj).symm
          · rintro D9 acc9 ds Hc hD9 sc h9 fl9 al9 rfl
            rw [List.take_length] at al9
            have e9 : acc9 = (((ls.take f).drop b).map fun x : Pr => x.1).map V.int := dps_ints_inv (by
              rw [List.map_map]
              exact al9)
            have s03 := s12.trans sc
            have hDc := s03.same D _ (fun z => nomatch z) hDa
            have alDc := dpsSt potN s03 (flat_pairs thl) ala
            have hrc := s03.same r _ (fun z => nomatch z) hra
            have alrc := dpsSt potN s03 (flat_pairs (fun x m => by
              obtain ⟨z, mz, rfl⟩ := List.mem_map.mp m
              have lz := begins_lt (List.of_mem_zip (List.mem_of_mem_take mz)).1
              show ((ls.map (·.2))[z.1]?).getD 0 < 8
              rw [List.getElem?_map, List.getElem?_eq_getElem lz]
              exact thl _ (List.getElem_mem _))) alr
            have exb : acc[b]? = some (acc[b]'(by omega)) := List.getElem?_eq_getElem (by omega)
            obtain ⟨yb, cb, vb, qyb, rb, sqb, dvb⟩ := pair_get alDc exb
            rw [rb] at exb
            have tb := thl yb (List.mem_of_getElem? qyb)
            simp only [tSeq, tIfS, tTest, tOp, tUn, tVar, tC, rI, rI0, rU, rEq, rNe, rIxL, rIxT, rIxS, tCB, tCons, tNil, tRet, tRetN, tAsg, gTup, gCons, gNil, gName, gSub, rSetL, tNext, tDrop, tLst, tTup, tCall, tIf, tB, tAnd, tOr, tNot, tSl, tPart, tNoPart, tM1, tM0, tBM, tBM0, tLcE, tForE, iRng1, iRng2, iTup, iList, iStr, tYes, wipe, startDef, cxK, noxK, exists_and_left, exists_eq_left', exists_eq_left, exists_eq_right, Option.some.injEq, V.int.injEq, V.ref.injEq, V.str.injEq, V.bl.injEq, List.cons.injEq, and_true, true_and, List.append_nil, List.map_cons, List.map_nil, List.length_cons, List.length_nil, List.replicate, List.nil_append, List.cons_append, List.set_cons_zero, List.set_cons_succ, List.getElem?_cons_zero, List.getElem?_cons_succ, decide_eq_true_eq, exists_const, Nat.reduceAdd, Nat.reduceSub, List.replicate_succ, List.replicate_zero, exists_prop, and_assoc, List.set_nil, rLenK, rTupK, rLstK, rReprK, rEqD, rNeD, rIn, rAll, rAppend, rCat, ↓reduceIte, Bool.false_eq_true, iEnumT, rSortedPO, rIsi, rRep, rReverse, tLstRg, tTupRg, tRg1, tRg2, rSlL, rSlT, rSortedI, rSlF, rCatF, rMax, tLc2E, rSortedL, rSortedT, gUnl, tPar, rReprX, tChain, tDNewK, tDisp, tPairs, tAndV, tNotV]
            have lzs : zs.length ≤ 40 := by
              have h1 := DpAll.len alr
              rw [List.length_map, List.length_map, List.length_take, List.length_zip] at h1
              omega
            have nD : D ≠ r := nrD.symm
            have nB : B ≠ r := nrB.symm
            have ne2 : e ≠ r := nre.symm
            refine ⟨D9, ((ls.take f).drop b).map (·.1), rfl, SqL.of (by rw [← e9]; exact h9), acc, SqL.of hDc, _, atI_nat exb, cb, rfl, _, sqb, vb, atI_nat (j := 1) rfl, by decide, fun t nt => ?_⟩
            have s4 : Fd.St none Hc (upd Hc t (.tup [.int (cntIn ls b f), vb])) := St.new potN nt
            have ntr := ne_of_none hrc nt
            have hr4 := (upd_ne (o := .tup [.int (cntIn ls b f), vb]) ntr).trans hrc
            have s04 := s03.trans s4
            have eo : oneOf ls (b, f) = (cntIn ls b f, yb.2) := by
              unfold oneOf
              rw [List.getElem?_map, qyb]
              rfl
            refine ⟨zs, hr4, by omega, St.put potN (sa.trans s04) Hr, (upd_ne nD).trans (s04.same D _ (fun z => nomatch z) hDa), DpAll.move (fun _ _ => tup_put hr4) (flat_pairs thl) (dpsSt potN s4 (flat_pairs thl) alDc),
              (upd_ne nB).trans (s04.same B _ (fun z => nomatch z) hBa), (upd_ne ne2).trans (s04.same e _ (fun z => nomatch z) hea), _, upd_same, ?_⟩
            rw [take_succ_map _ _ qz, List.map_append, eo]
            have flz : flatTs (((((begins ls).zip (ends (begins ls) ls.length)).take i).map (oneOf ls)).map pairD) = true := flat_pairs (fun x m => by
              obtain ⟨z, mz, rfl⟩ := List.mem_map.mp m
              have lz := begins_lt (List.of_mem_zip (List.mem_of_mem_take mz)).1
              show ((ls.map (·.2))[z.1]?).getD 0 < 8
              rw [List.getElem?_map, List.getElem?_eq_getElem lz]
              exact thl _ (List.getElem_mem _))
            refine DpAll.app (DpAll.move (fun _ _ => tup_put hr4) flz (dpsSt potN s4 flz alrc)) (.cons ?_ .nil)
            refine Dp.move (fun _ _ => tup_put hr4) (flat_pair (x := (cntIn ls b f, yb.2)) tb) ?_
            exact .tup (SqT.of upd_same) (.cons (.int _) (.cons (dpSt potN s4 (flat_th tb) dvb) .nil))
        · rintro σ H' ⟨a2, a4, a6, a7, a8, a9, zs, rfl, sa, hDa, ala, hBa, hea, hra, alr⟩
          rw [List.take_of_length_le (by rw [List.length_zip]; exact Nat.min_le_left ..)] at alr
          simp only [tSeq, tIfS, tTest, tOp, tUn, tVar, tC, rI, rI0, rU, rEq, rNe, rIxL, rIxT, rIxS, tCB, tCons, tNil, tRet, tRetN, tAsg, gTup, gCons, gNil, gName, gSub, rSetL, tNext, tDrop, tLst, tTup, tCall, tIf, tB, tAnd, tOr, tNot, tSl, tPart, tNoPart, tM1, tM0, tBM, tBM0, tLcE, tForE, iRng1, iRng2, iTup, iList, iStr, tYes, wipe, startDef, cxK, noxK, exists_and_left, exists_eq_left', exists_eq_left, exists_eq_right, Option.some.injEq, V.int.injEq, V.ref.injEq, V.str.injEq, V.bl.injEq, List.cons.injEq, and_true, true_and, List.append_nil, List.map_cons, List.map_nil, List.length_cons, List.length_nil, List.replicate, List.nil_append, List.cons_append, List.set_cons_zero, List.set_cons_succ, List.getElem?_cons_zero, List.getElem?_cons_succ, decide_eq_true_eq, exists_const, Nat.reduceAdd, Nat.reduceSub, List.replicate_succ, List.replicate_zero, exists_prop, and_assoc, List.set_nil, rLenK, rTupK, rLstK, rReprK, rEqD, rNeD, rIn, rAll, rAppend, rCat, ↓reduceIte, Bool.false_eq_true, iEnumT, rSortedPO, rIsi, rRep, rReverse, tLstRg, tTupRg, tRg1, tRg2, rSlL, rSlT, rSortedI, rSlF, rCatF, rMax, tLc2E, rSortedL, rSortedT, gUnl, tPar, rReprX, tChain, tDNewK, tDisp, tPairs, tAndV, tNotV]
          have e9 : (((begins ls).zip (ends (begins ls) ls.length)).map (oneOf ls)) = joinL ps := edue
          rw [e9] at alr
          exact go r H' Hr sa.toSame ⟨zs, hra, alr⟩
theorem PrsAt.put {H : Hp} {a t : Addr} {ps : List Pr} {ys zs : List V} (h : PrsAt K H a ps) (th : ∀ x ∈ ps, x.2 < 8) (ne : a ≠ t) (ht : H t = some (.lst ys)) : PrsAt K (upd H t (.lst zs)) a ps := by
  obtain ⟨xs, e, al⟩ := h
  exact ⟨xs, (upd_ne ne).trans e, DpAll.move (fun _ _ => tup_put ht) (flat_pairs th) al⟩
theorem PrsAt.st {H H1 : Hp} {p : Option Addr} {a : Addr} {ps : List Pr} (h : PrsAt K H a ps) (th : ∀ x ∈ ps, x.2 < 8) (hp : PotO p H) (s : Fd.St p H H1) (ne : some a ≠ p) : PrsAt K H1 a ps := by
  obtain ⟨xs, e, al⟩ := h
  exact ⟨xs, s.same _ _ ne e, dpsSt hp s (flat_pairs th) al⟩
structure CLaw (P : Program) (w : World) (K : PySem.W.Frag) (mg : Str → Option Value) (base : Heap) : Prop where
  cell : Has P w K mg base "_law_cell" 1 ["_law_script", "_law_k"] (spCell K)
  pot : Has P w K mg base "_law_pot" 1 ["_law_cell_here", "_law_k"] spPot
  pairs : Has P w K mg base "_law_pairs" 2 ["_law_pot_here"] (spPairs K)
  due : Has P w K mg base "_law_due" 1 ["_law_pairs_here"] (spDue K)
  joined : Has P w K mg base "joined" 4 ["pairs"] (spJoined K)
abbrev s_law : Stmt := topS 9
theorem sc_law : FnScope ["_law_script", "_law_k", "_law_pairs_here", "_law_held", "_law_due_here", "_law_told"] ["_law_script"] (defScope s_law) := ⟨rfl, rfl, rfl, by decide +kernel, rfl, by decide +kernel, by decide +kernel⟩

def spLaw (K : PySem.W.Frag) : Sp := fun vs H Q _ => ∃ (a : Addr) (ns : List Int), vs = [.ref a] ∧ SqL K H a (ns.map V.int) ∧ ns.length ≤ 63 ∧ ∀ H', Q (.bl true) H'
theorem prs_nil : PrsOk [] := ⟨(fun _ m => nomatch m), (fun _ m => nomatch m), by decide, by decide⟩
theorem ok_law {f : Addr} {fd : FuncData} (F : Fun K "law" "law" s_law f fd) (M : Blt mg) (C : CLaw P w K mg base) : GOk P w K mg base CX0 5 f fd ["_law_script"] (spLaw K) := by
  refine okG F sc_law (fun vs H Q E h => ?_) (fun cdv A outer s H vs Q E hr gd h => ?_)
  · obtain ⟨a, ns, rfl, _⟩ := h
    rfl
  · obtain ⟨a, ns, rfl, hs, hn, k⟩ := h
    have hu70 : (A.deeper (envOfC "law" (defScope s_law) s.heap.objs.size f cdv)).units + 70 < cLine := by
      have := hr.un
      omega
    refine ⟨_, (pss_cons (ps_for PassesOwn.never rfl (pi_range1 (by rfl) M.range (pa_cons (pe_callB (call_max2 rfl) (by rfl) M.max (by decide +kernel) (pa_cons pe_int (pa_cons (pe_callB (call_min2 rfl) (by rfl) M.min (by decide +kernel) (pa_cons pe_int (pa_cons (pe_callB (k_len (K := K) rfl) (by rfl) M.len (by decide +kernel) (pa_cons (pv 0) pa_nil)) pa_nil))) pa_nil))) pa_nil)) (pg_name (i := 1) sc_law.nd rfl (by first | exact Or.inl rfl | exact Or.inr rfl)) (pss_cons (ps_set (i := 2) sc_law.nd rfl (by first | exact Or.inl rfl | exact Or.inr rfl) (callH C.pairs hr (by rfl) (pa_cons (callH C.pot hr (by rfl) (pa_cons (callH C.cell hr (by rfl) (pa_cons (pv 0) (pa_cons (pv 1) pa_nil))) (pa_cons (pv 1) pa_nil))) pa_nil)))
      (pss_cons (ps_par (i := 3) (j := 4) (by rfl) sc_law.nd rfl rfl (by decide) rfl rfl (pa_cons (pe_callB (k_repr (K := K) rfl gd hu70) (by rfl) M.repr (by decide +kernel) (pa_cons (pv 2) pa_nil)) (pa_cons (callH C.due hr (by rfl) (pa_cons (pv 2) pa_nil)) pa_nil)) (by rfl))
      (pss_cons (ps_set (i := 5) sc_law.nd rfl (by first | exact Or.inl rfl | exact Or.inr rfl) (callH C.joined hr (by rfl) (pa_cons (pv 2) pa_nil)))
      (pss_cons (ps_if (PW.pt (pw_or (pt_not (pt_val (pe_callB (k_isi (K := K) rfl) (by rfl) M.isinstance (by decide +kernel) (pa_cons (pv 5) (pa_cons (pe_bltn (v := .ty "list") (by rfl) M.list (by decide +kernel) rfl) pa_nil))))) (pw_or (pt_cmpR op_ne (pe_callB (k_repr (K := K) rfl gd hu70) (by rfl) M.repr (by decide +kernel) (pa_cons (pv 5) pa_nil)) (pe_callB (k_repr (K := K) rfl gd hu70) (by rfl) M.repr (by decide +kernel) (pa_cons (pv 4) pa_nil)) (nomark _)) (pw_or1 (pt_cmpR op_ne (pe_callB (k_repr (K := K) rfl gd hu70) (by rfl) M.repr (by decide +kernel) (pa_cons (pv 2) pa_nil)) (pv 3) (nomark _)))))) (pss_one (ps_ret pe_bl)) pss_nil)
      (pss_cons (ps_if (pt_cmpR op_ne (pe_callB (k_repr (K := K) rfl gd hu70) (by rfl) M.repr (by decide +kernel) (pa_cons (callH C.joined hr (by rfl) (pa_cons (pv 5) pa_nil)) pa_nil)) (pe_callB (k_repr (K := K) rfl gd hu70) (by rfl) M.repr (by decide +kernel) (pa_cons (pv 4) pa_nil)) (nomark _)) (pss_one (ps_ret pe_bl)) pss_nil)
      (pss_cons (ps_expr (pe_bm PySem.F.plainAttrs_list PySem.F.slot_list_append PySem.F.type_list_append mt_append (pv 5) (pa_cons (pe_tup (pa_cons pe_int (pa_cons pe_int pa_nil))) pa_nil)))
      (pss_cons (ps_expr (pe_bm0 PySem.F.plainAttrs_list PySem.F.slot_list_reverse PySem.F.type_list_reverse mt_reverse (pv 5)))
      (pss_one (ps_if (PW.pt (pw_or (pt_cmpR op_ne (pe_callB (k_repr (K := K) rfl gd hu70) (by rfl) M.repr (by decide +kernel) (pa_cons (callH C.joined hr (by rfl) (pa_cons (pv 2) pa_nil)) pa_nil)) (pe_callB (k_repr (K := K) rfl gd hu70) (by rfl) M.repr (by decide +kernel) (pa_cons (pv 4) pa_nil)) (nomark _)) (pw_or1 (pt_cmpR (k_neD (K := K) rfl hr.units) (callH C.joined hr (by rfl) (pa_cons (pe_lst pa_nil) pa_nil)) (pe_lst pa_nil) (nomark _))))) (pss_one (ps_ret pe_bl)) pss_nil))))))))))
      (pss_one (ps_ret pe_bl))), ?_⟩
    simp only [tSeq, tIfS, tTest, tOp, tUn, tVar, tC, rI, rI0, rU, rEq, rNe, rIxL, rIxT, rIxS, tCB, tCons, tNil, tRet, tRetN, tAsg, gTup, gCons, gNil, gName, gSub, rSetL, tNext, tDrop, tLst, tTup, tCall, tIf, tB, tAnd, tOr, tNot, tSl, tPart, tNoPart, tM1, tM0, tBM, tBM0, tLcE, tForE, iRng1, iRng2, iTup, iList, iStr, tYes, wipe, startDef, cxK, noxK, exists_and_left, exists_eq_left', exists_eq_left, exists_eq_right, Option.some.injEq, V.int.injEq, V.ref.injEq, V.str.injEq, V.bl.injEq, List.cons.injEq, and_true, true_and, List.append_nil, List.map_cons, List.map_nil, List.length_cons, List.length_nil, List.replicate, List.nil_append, List.cons_append, List.set_cons_zero, List.set_cons_succ, List.getElem?_cons_zero, List.getElem?_cons_succ, decide_eq_true_eq, exists_const, Nat.reduceAdd, Nat.reduceSub, List.replicate_succ, List.replicate_zero, exists_prop, and_assoc, List.set_nil, rLenK, rTupK, rLstK, rReprK, rEqD, rNeD, rIn, rAll, rAppend, rCat, ↓reduceIte, Bool.false_eq_true, iEnumT, rSortedPO, rIsi, rRep, rReverse, tLstRg, tTupRg, tRg1, tRg2, rSlL, rSlT, rSortedI, rSlF, rCatF, rMax, tLc2E, rSortedL, rSortedT, gUnl, tPar, rReprX, tChain, tDNewK, tDisp, tPairs, tAndV, tNotV]
    have nm : (ns.map V.int).length = ns.length := List.length_map ..
    refine ⟨_, .inl hs, by rw [nm]; split <;> split <;> omega, by rw [nm]; split <;> split <;> omega, ?_⟩
    refine forRng (fun i σ H' => ∃ (a1 a2 a3 a4 a5 : Option V), σ = [some (.ref a), a1, a2, a3, a4, a5] ∧ Same H H') ⟨none, none, none, none, none, rfl, Same.refl _⟩ ?_ ?_
    · rintro i σ Ha hi ⟨a1, a2, a3, a4, a5, rfl, sa⟩
      generalize hi0 : (i : Int) = i0
      simp only [tSeq, tIfS, tTest, tOp, tUn, tVar, tC, rI, rI0, rU, rEq, rNe, rIxL, rIxT, rIxS, tCB, tCons, tNil, tRet, tRetN, tAsg, gTup, gCons, gNil, gName, gSub, rSetL, tNext, tDrop, tLst, tTup, tCall, tIf, tB, tAnd, tOr, tNot, tSl, tPart, tNoPart, tM1, tM0, tBM, tBM0, tLcE, tForE, iRng1, iRng2, iTup, iList, iStr, tYes, wipe, startDef, cxK, noxK, exists_and_left, exists_eq_left', exists_eq_left, exists_eq_right, Option.some.injEq, V.int.injEq, V.ref.injEq, V.str.injEq, V.bl.injEq, List.cons.injEq, and_true, true_and, List.append_nil, List.map_cons, List.map_nil, List.length_cons, List.length_nil, List.replicate, List.nil_append, List.cons_append, List.set_cons_zero, List.set_cons_succ, List.getElem?_cons_zero, List.getElem?_cons_succ, decide_eq_true_eq, exists_const, Nat.reduceAdd, Nat.reduceSub, List.replicate_succ, List.replicate_zero, exists_prop, and_assoc, List.set_nil, rLenK, rTupK, rLstK, rReprK, rEqD, rNeD, rIn, rAll, rAppend, rCat, ↓reduceIte, Bool.false_eq_true, iEnumT, rSortedPO, rIsi, rRep, rReverse, tLstRg, tTupRg, tRg1, tRg2, rSlL, rSlT, rSortedI, rSlF, rCatF, rMax, tLc2E, rSortedL, rSortedT, gUnl, tPar, rReprX, tChain, tDNewK, tDisp, tPairs, tAndV, tNotV, spCell, spPot, spPairs]
      refine ⟨ns, i, by omega, sa.seq hs, fun c => ⟨i, by omega, fun p H1 np s1 pp => ⟨pp, fun l ps H2 ok nl hl s2 => ?_⟩⟩⟩
      have s02 : Same Ha H2 := St.back s1 np s2
      have nc := nice_prs ok
      have okj := ok.join
      have ncj := nice_prs okj
      refine ⟨_, hl.dp, nc, l, ps, rfl, hl, ok, fun d H3 nd s3 hd => ⟨l, ps, rfl, hl.same s3, ok, fun t H4 nt s4 ht => ?_⟩⟩
      obtain ⟨ts, et, alt⟩ := id ht
      refine ⟨_, _, .ty "list", .base (.lst et), true, kit_ty (by decide +kernel), ?_⟩
      rw [if_neg (by decide)]
      have hd4 := hd.same s4
      have hl4 := (hl.same s3).same s4
      refine ⟨_, ht.dp, ncj, _, hd4.dp, ncj, rfl, ?_⟩
      rw [if_neg (by simp)]
      refine ⟨_, hl4.dp, nc, rfl, ?_⟩
      rw [if_neg (by simp)]
      refine ⟨t, joinL ps, rfl, ht, okj, fun u H5 nu s5 hu => ?_⟩
      rw [join_join ok.nn] at hu
      refine ⟨_, hu.dp, ncj, _, (hd4.same s5).dp, ncj, rfl, ?_⟩
      rw [if_neg (by simp)]
      have et5 := s5 _ _ et
      have lts : ts.length ≤ 40 := by
        have h1 := DpAll.len alt
        have h2 := okj.len
        rw [List.length_map] at h1
        omega
      have line : (100 : Nat) < sizeLine := by decide
      refine ⟨.inl ⟨rfl, _, SqL.of et5⟩, by decide, fun v nv => ?_⟩
      have q6 : Same H5 (upd H5 v (.tup [.int 1, .int 3])) := same_new nv
      have et6 := q6 _ _ et5
      have Hat : H3 t = none := nt
      have nlt : l ≠ t := by
        obtain ⟨xs, e, _⟩ := hl.same s3
        exact ne_of_none e nt
      have ndt : d ≠ t := by
        obtain ⟨xs, e, _⟩ := hd
        exact ne_of_none e nt
      have hl6 := (hl4.same s5).same q6
      have hd6 := (hd4.same s5).same q6
      have s26 : Same H3 (upd H5 v (.tup [.int 1, .int 3])) := (s4.trans s5).trans q6
      generalize upd H5 v (.tup [.int 1, .int 3]) = H6 at *
      refine ⟨t, rfl, ts, et6, by omega, .inl ⟨rfl, _, SqL.of upd_same⟩, t, rfl, _, upd_same, ?_⟩
      have hl8 := (hl6.put (zs := ts ++ [V.ref v]) ok.th nlt et6).put (zs := (ts ++ [V.ref v]).reverse) ok.th nlt (upd_same)
      have hd8 := (hd6.put (zs := ts ++ [V.ref v]) okj.th ndt et6).put (zs := (ts ++ [V.ref v]).reverse) okj.th ndt (upd_same)
      have s38 : Fd.St none H3 (upd (upd H6 t (.lst (ts ++ [V.ref v]))) t (.lst (ts ++ [V.ref v]).reverse)) := St.put potN (St.put potN (St.ofSame potN s26) Hat) Hat
      generalize upd (upd H6 t (.lst (ts ++ [V.ref v]))) t (.lst (ts ++ [V.ref v]).reverse) = H8 at *
      refine ⟨l, ps, rfl, hl8, ok, fun x H9 nx s9 hx => ?_⟩
      refine ⟨_, hx.dp, ncj, _, (hd8.same s9).dp, ncj, rfl, ?_⟩
      rw [if_neg (by simp)]
      refine ⟨by decide, fun y ny => ?_⟩
      have q10 : Same H9 (upd H9 y (.lst [])) := same_new ny
      refine ⟨y, [], rfl, ⟨[], upd_same, .nil⟩, prs_nil, fun z H11 nz s11 hz => ?_⟩
      refine ⟨by decide, fun o no => ?_⟩
      have q12 : Same H11 (upd H11 o (.lst [])) := same_new no
      refine ⟨_, (hz.same q12).dp, _, .lst (SqL.of upd_same) .nil, by decide, by decide, ?_⟩
      rw [if_neg (by decide)]
      exact ((((((sa.trans s02).trans s3).trans s38.toSame).trans s9).trans q10).trans s11).trans q12
    · rintro σ H' ⟨a1, a2, a3, a4, a5, rfl, sa⟩
      simp only [tSeq, tIfS, tTest, tOp, tUn, tVar, tC, rI, rI0, rU, rEq, rNe, rIxL, rIxT, rIxS, tCB, tCons, tNil, tRet, tRetN, tAsg, gTup, gCons, gNil, gName, gSub, rSetL, tNext, tDrop, tLst, tTup, tCall, tIf, tB, tAnd, tOr, tNot, tSl, tPart, tNoPart, tM1, tM0, tBM, tBM0, tLcE, tForE, iRng1, iRng2, iTup, iList, iStr, tYes, wipe, startDef, cxK, noxK, exists_and_left, exists_eq_left', exists_eq_left, exists_eq_right, Option.some.injEq, V.int.injEq, V.ref.injEq, V.str.injEq, V.bl.injEq, List.cons.injEq, and_true, true_and, List.append_nil, List.map_cons, List.map_nil, List.length_cons, List.length_nil, List.replicate, List.nil_append, List.cons_append, List.set_cons_zero, List.set_cons_succ, List.getElem?_cons_zero, List.getElem?_cons_succ, decide_eq_true_eq, exists_const, Nat.reduceAdd, Nat.reduceSub, List.replicate_succ, List.replicate_zero, exists_prop, and_assoc, List.set_nil, rLenK, rTupK, rLstK, rReprK, rEqD, rNeD, rIn, rAll, rAppend, rCat, ↓reduceIte, Bool.false_eq_true, iEnumT, rSortedPO, rIsi, rRep, rReverse, tLstRg, tTupRg, tRg1, tRg2, rSlL, rSlT, rSortedI, rSlF, rCatF, rMax, tLc2E, rSortedL, rSortedT, gUnl, tPar, rReprX, tChain, tDNewK, tDisp, tPairs, tAndV, tNotV]
      exact k _
end

/-! ### what the top has written; the law by its head -/
theorem all_mk {l : PySem.W.OpenLaw} {w : World} {K : PySem.W.Frag} {h : Heap} {mg : Str → Option Value} {fa : Addr} (X : K.In h) (G : h.Ns mainGlobals mg) (hfa : mg "law" = some (.ref fa))
    {f_take : Addr} {od_take an_take : Option Addr} {sl_take : Array (Option Value)} {oc_take kv_take dc_take pm_take cd_take ct_take : Value}
    (a_take : PySem.W.nsIn K mainGlobals "_law_take" = some (some (.ref f_take)))
    (l_take : K.lookup f_take = some ⟨oc_take, od_take, .func (PySem.W.fnOf "_law_take" "_law_take" (defArgs s_take) (defBody s_take) (defScope s_take) .none kv_take dc_take pm_take an_take cd_take ct_take), sl_take⟩)
    (c_take : PySem.W.codeIn K cd_take "_law_take" = true) (k_take : PySem.W.keepIn K (.ref f_take) = true)
    {f_cell : Addr} {od_cell an_cell : Option Addr} {sl_cell : Array (Option Value)} {oc_cell kv_cell dc_cell pm_cell cd_cell ct_cell : Value}
    (a_cell : PySem.W.nsIn K mainGlobals "_law_cell" = some (some (.ref f_cell)))
    (l_cell : K.lookup f_cell = some ⟨oc_cell, od_cell, .func (PySem.W.fnOf "_law_cell" "_law_cell" (defArgs s_cell) (defBody s_cell) (defScope s_cell) .none kv_cell dc_cell pm_cell an_cell cd_cell ct_cell), sl_cell⟩)
    (c_cell : PySem.W.codeIn K cd_cell "_law_cell" = true) (k_cell : PySem.W.keepIn K (.ref f_cell) = true)
    {f_pot : Addr} {od_pot an_pot : Option Addr} {sl_pot : Array (Option Value)} {oc_pot kv_pot dc_pot pm_pot cd_pot ct_pot : Value}
    (a_pot : PySem.W.nsIn K mainGlobals "_law_pot" = some (some (.ref f_pot)))
    (l_pot : K.lookup f_pot = some ⟨oc_pot, od_pot, .func (PySem.W.fnOf "_law_pot" "_law_pot" (defArgs s_pot) (defBody s_pot) (defScope s_pot) .none kv_pot dc_pot pm_pot an_pot cd_pot ct_pot), sl_pot⟩)
    (c_pot : PySem.W.codeIn K cd_pot "_law_pot" = true) (k_pot : PySem.W.keepIn K (.ref f_pot) = true)
    {f_pairs : Addr} {od_pairs an_pairs : Option Addr} {sl_pairs : Array (Option Value)} {oc_pairs kv_pairs dc_pairs pm_pairs cd_pairs ct_pairs : Value}
    (a_pairs : PySem.W.nsIn K mainGlobals "_law_pairs" = some (some (.ref f_pairs)))
    (l_pairs : K.lookup f_pairs = some ⟨oc_pairs, od_pairs, .func (PySem.W.fnOf "_law_pairs" "_law_pairs" (defArgs s_pairs) (defBody s_pairs) (defScope s_pairs) .none kv_pairs dc_pairs pm_pairs an_pairs cd_pairs ct_pairs), sl_pairs⟩)
    (c_pairs : PySem.W.codeIn K cd_pairs "_law_pairs" = true) (k_pairs : PySem.W.keepIn K (.ref f_pairs) = true)
    {f_due : Addr} {od_due an_due : Option Addr} {sl_due : Array (Option Value)} {oc_due kv_due dc_due pm_due cd_due ct_due : Value}
    (a_due : PySem.W.nsIn K mainGlobals "_law_due" = some (some (.ref f_due)))
    (l_due : K.lookup f_due = some ⟨oc_due, od_due, .func (PySem.W.fnOf "_law_due" "_law_due" (defArgs s_due) (defBody s_due) (defScope s_due) .none kv_due dc_due pm_due an_due cd_due ct_due), sl_due⟩)
    (c_due : PySem.W.codeIn K cd_due "_law_due" = true) (k_due : PySem.W.keepIn K (.ref f_due) = true)
    {f_own : Addr} {od_own an_own : Option Addr} {sl_own : Array (Option Value)} {oc_own kv_own dc_own pm_own cd_own ct_own : Value}
    (a_own : PySem.W.nsIn K mainGlobals "_own" = some (some (.ref f_own)))
    (l_own : K.lookup f_own = some ⟨oc_own, od_own, .func (PySem.W.fnOf "_own" "_own" (defArgs s_own) (defBody s_own) (defScope s_own) .none kv_own dc_own pm_own an_own cd_own ct_own), sl_own⟩)
    (c_own : PySem.W.codeIn K cd_own "_own" = true) (k_own : PySem.W.keepIn K (.ref f_own) = true)
    {f_joined : Addr} {od_joined an_joined : Option Addr} {sl_joined : Array (Option Value)} {oc_joined kv_joined dc_joined pm_joined cd_joined ct_joined : Value}
    (a_joined : PySem.W.nsIn K mainGlobals "joined" = some (some (.ref f_joined)))
    (l_joined : K.lookup f_joined = some ⟨oc_joined, od_joined, .func (PySem.W.fnOf "joined" "joined" (defArgs s_joined) (defBody s_joined) (defScope s_joined) .none kv_joined dc_joined pm_joined an_joined cd_joined ct_joined), sl_joined⟩)
    (c_joined : PySem.W.codeIn K cd_joined "joined" = true) (k_joined : PySem.W.keepIn K (.ref f_joined) = true)
    {f_law : Addr} {od_law an_law : Option Addr} {sl_law : Array (Option Value)} {oc_law kv_law dc_law pm_law cd_law ct_law : Value}
    (a_law : PySem.W.nsIn K mainGlobals "law" = some (some (.ref f_law)))
    (l_law : K.lookup f_law = some ⟨oc_law, od_law, .func (PySem.W.fnOf "law" "law" (defArgs s_law) (defBody s_law) (defScope s_law) .none kv_law dc_law pm_law an_law cd_law ct_law), sl_law⟩)
    (c_law : PySem.W.codeIn K cd_law "law" = true) (k_law : PySem.W.keepIn K (.ref f_law) = true)
    (z_len : PySem.W.nsIn K mainGlobals "len" = some none)
    (z_max : PySem.W.nsIn K mainGlobals "max" = some none)
    (z_min : PySem.W.nsIn K mainGlobals "min" = some none)
    (z_abs : PySem.W.nsIn K mainGlobals "abs" = some none)
    (z_divmod : PySem.W.nsIn K mainGlobals "divmod" = some none)
    (z_range : PySem.W.nsIn K mainGlobals "range" = some none)
    (z_tuple : PySem.W.nsIn K mainGlobals "tuple" = some none)
    (z_list : PySem.W.nsIn K mainGlobals "list" = some none)
    (z_all : PySem.W.nsIn K mainGlobals "all" = some none)
    (z_repr : PySem.W.nsIn K mainGlobals "repr" = some none)
    (z_sorted : PySem.W.nsIn K mainGlobals "sorted" = some none)
    (z_enumerate : PySem.W.nsIn K mainGlobals "enumerate" = some none)
    (z_isinstance : PySem.W.nsIn K mainGlobals "isinstance" = some none)
    (z_int : PySem.W.nsIn K mainGlobals "int" = some none)
    (z_str : PySem.W.nsIn K mainGlobals "str" = some none)
    (z_bool : PySem.W.nsIn K mainGlobals "bool" = some none)
    (z_zip : PySem.W.nsIn K mainGlobals "zip" = some none)
    (z_sum : PySem.W.nsIn K mainGlobals "sum" = some none)
    : ∃ fd : FuncData, (∀ (s : Shared) (v : Value), BindsTo s fd ⟨[v], []⟩ [("_law_script", v)]) ∧ ∀ base : Heap, K.In base → base.Ns mainGlobals mg → GOk l.prog w K mg base CX0 5 fa fd ["_law_script"] (spLaw K) := by
  have same := hfa.symm.trans (PySem.W.mg_of X G a_law)
  cases same
  have M : Blt mg := { len := PySem.W.mg_none_of X G z_len, max := PySem.W.mg_none_of X G z_max, min := PySem.W.mg_none_of X G z_min, abs := PySem.W.mg_none_of X G z_abs, divmod := PySem.W.mg_none_of X G z_divmod, range := PySem.W.mg_none_of X G z_range, tuple := PySem.W.mg_none_of X G z_tuple, list := PySem.W.mg_none_of X G z_list, all := PySem.W.mg_none_of X G z_all, repr := PySem.W.mg_none_of X G z_repr, sorted := PySem.W.mg_none_of X G z_sorted, enumerate := PySem.W.mg_none_of X G z_enumerate, isinstance := PySem.W.mg_none_of X G z_isinstance, int := PySem.W.mg_none_of X G z_int, str := PySem.W.mg_none_of X G z_str, bool := PySem.W.mg_none_of X G z_bool, zip := PySem.W.mg_none_of X G z_zip, sum := PySem.W.mg_none_of X G z_sum }
  have F_take := fun_mk (st := s_take) l_take c_take k_take
  have b_take := F_take.binds (ps := ["_law_pot_here", "_law_many"]) fun _ _ _ _ _ _ us hl => match us, hl with | [_, _], _ => rfl
  have F_cell := fun_mk (st := s_cell) l_cell c_cell k_cell
  have b_cell := F_cell.binds (ps := ["_law_script", "_law_k"]) fun _ _ _ _ _ _ us hl => match us, hl with | [_, _], _ => rfl
  have F_pot := fun_mk (st := s_pot) l_pot c_pot k_pot
  have b_pot := F_pot.binds (ps := ["_law_cell_here", "_law_k"]) fun _ _ _ _ _ _ us hl => match us, hl with | [_, _], _ => rfl
  have F_pairs := fun_mk (st := s_pairs) l_pairs c_pairs k_pairs
  have b_pairs := F_pairs.binds (ps := ["_law_pot_here"]) fun _ _ _ _ _ _ us hl => match us, hl with | [_], _ => rfl
  have F_due := fun_mk (st := s_due) l_due c_due k_due
  have b_due := F_due.binds (ps := ["_law_pairs_here"]) fun _ _ _ _ _ _ us hl => match us, hl with | [_], _ => rfl
  have F_own := fun_mk (st := s_own) l_own c_own k_own
  have b_own := F_own.binds (ps := ["thing"]) fun _ _ _ _ _ _ us hl => match us, hl with | [_], _ => rfl
  have F_joined := fun_mk (st := s_joined) l_joined c_joined k_joined
  have b_joined := F_joined.binds (ps := ["pairs"]) fun _ _ _ _ _ _ us hl => match us, hl with | [_], _ => rfl
  have F_law := fun_mk (st := s_law) l_law c_law k_law
  refine ⟨PySem.W.fnOf "law" "law" (defArgs s_law) (defBody s_law) (defScope s_law) .none kv_law dc_law pm_law an_law cd_law ct_law, fun s v => .of_eq rfl, fun base _ _ => ?_⟩
  have h_take : Has l.prog w K mg base "_law_take" 1 ["_law_pot_here", "_law_many"] _ := ⟨_, _, ok_take F_take M, PySem.W.mg_of X G a_take, F_take.kp, b_take⟩
  have h_cell : Has l.prog w K mg base "_law_cell" 1 ["_law_script", "_law_k"] _ := ⟨_, _, ok_cell F_cell M, PySem.W.mg_of X G a_cell, F_cell.kp, b_cell⟩
  have h_pot : Has l.prog w K mg base "_law_pot" 1 ["_law_cell_here", "_law_k"] _ := ⟨_, _, ok_pot F_pot M, PySem.W.mg_of X G a_pot, F_pot.kp, b_pot⟩
  have h_pairs : Has l.prog w K mg base "_law_pairs" 2 ["_law_pot_here"] _ := ⟨_, _, ok_pairs F_pairs M ⟨h_take⟩, PySem.W.mg_of X G a_pairs, F_pairs.kp, b_pairs⟩
  have h_due : Has l.prog w K mg base "_law_due" 1 ["_law_pairs_here"] _ := ⟨_, _, ok_due F_due M, PySem.W.mg_of X G a_due, F_due.kp, b_due⟩
  have h_own : Has l.prog w K mg base "_own" 3 ["thing"] _ := ⟨_, _, ok_own F_own M (PySem.W.mg_of X G a_own) b_own 2, PySem.W.mg_of X G a_own, F_own.kp, b_own⟩
  have h_joined : Has l.prog w K mg base "joined" 4 ["pairs"] _ := ⟨_, _, ok_joined F_joined M ⟨h_own⟩, PySem.W.mg_of X G a_joined, F_joined.kp, b_joined⟩
  exact ok_law F_law M ⟨h_cell, h_pot, h_pairs, h_due, h_joined⟩
end Fl
open PySem PySem.W PyProof.Rows
set_option maxHeartbeats 0 in
theorem PySem.Challenge.cw_fadeleaf_k51_runs_joined_holds : PySem.Challenge.rw_fadeleaf_k51_runs_joined.Holds := by
  w_on; o_law; k_head; (case hw => w_witness2)
  k_fill
  refine Fd.walkG (l := PySem.Challenge.rw_fadeleaf_k51_runs_joined) (n := 63) (k := 5) (x := "_law_script") (sp := Fl.spLaw) rfl (by decide) rfl ⟨rfl, by decide, by decide⟩ (fun w h Y => PySem.W.kIn_of Y) ?F (fun K H a ns hl _ hS => ⟨a, ns, rfl, hS, hl, fun _ => rfl⟩)
  case F =>
    intro w mg fa h KX G hmg
    refine' Fl.all_mk KX G hmg ?a_take ?l_take ?c_take ?k_take ?a_cell ?l_cell ?c_cell ?k_cell ?a_pot ?l_pot ?c_pot ?k_pot ?a_pairs ?l_pairs ?c_pairs ?k_pairs ?a_due ?l_due ?c_due ?k_due ?a_own ?l_own ?c_own ?k_own ?a_joined ?l_joined ?c_joined ?k_joined ?a_law ?l_law ?c_law ?k_law ?z_len ?z_max ?z_min ?z_abs ?z_divmod ?z_range ?z_tuple ?z_list ?z_all ?z_repr ?z_sorted ?z_enumerate ?z_isinstance ?z_int ?z_str ?z_bool ?z_zip ?z_sum
    (case a_take => k_is)
    (case l_take => k_is)
    (case c_take => k_is)
    (case k_take => k_is)
    (case a_cell => k_is)
    (case l_cell => k_is)
    (case c_cell => k_is)
    (case k_cell => k_is)
    (case a_pot => k_is)
    (case l_pot => k_is)
    (case c_pot => k_is)
    (case k_pot => k_is)
    (case a_pairs => k_is)
    (case l_pairs => k_is)
    (case c_pairs => k_is)
    (case k_pairs => k_is)
    (case a_due => k_is)
    (case l_due => k_is)
    (case c_due => k_is)
    (case k_due => k_is)
    (case a_own => k_is)
    (case l_own => k_is)
    (case c_own => k_is)
    (case k_own => k_is)
    (case a_joined => k_is)
    (case l_joined => k_is)
    (case c_joined => k_is)
    (case k_joined => k_is)
    (case a_law => k_is)
    (case l_law => k_is)
    (case c_law => k_is)
    (case k_law => k_is)
    (case z_len => k_is)
    (case z_max => k_is)
    (case z_min => k_is)
    (case z_abs => k_is)
    (case z_divmod => k_is)
    (case z_range => k_is)
    (case z_tuple => k_is)
    (case z_list => k_is)
    (case z_all => k_is)
    (case z_repr => k_is)
    (case z_sorted => k_is)
    (case z_enumerate => k_is)
    (case z_isinstance => k_is)
    (case z_int => k_is)
    (case z_str => k_is)
    (case z_bool => k_is)
    (case z_zip => k_is)
    (case z_sum => k_is)

