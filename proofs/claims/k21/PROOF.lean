import PyProof.Rows.All
import Wide.All
import OpenK.AllK
import Wide.FinOn
import HandS.Base
import HandS.Call
import HandS.List
import HandS.Ends
import HandS.Words
import PyProof.ReprLen
import HandS.Comp
import HandS.Walk
import HandS.Conv
import HandS.WideBits
import HandS.Text
import KE.GoesEnum
import HandS.Iter
import HandS.SortRule
import HandS.IsInst
import HandS.WordsList
import HandS.SortInts
import HandS.TupAny
import KE.KSortTup
import HandS.SortOrd
import HandS.Dict
import KE.KUnpackStar
import PyProof.DictUpdate
import PyProof.DictDisplay
import KE.GoesZip
import KE.GoesMore
import HandS.Zip0
import HandS.Zip
import HandS.DictComp
import HandS.More
import HandS.MakeKwOnly
import HandS.OwnEq
import HandS.NoneIn
import HandS.Codes
import HandS.Style
import PySem.Challenge.RW_fadeleaf_k21_deeds_that_fit
set_option Elab.async false
set_option linter.all false
set_option maxRecDepth 100000
namespace Fd
open PySem PySem.Spec PyProof.Rows L2
/-! A def's promise where it is known besides that no repr of a container is under way (the guards are none). -/
structure GOk (P : Program) (w : World) (K : PySem.W.Frag) (mg : Str → Option Value) (base : Heap) (CX : CXT)
    (k : Nat) (f : Addr) (fd : FuncData) (ps : List Str) (sp : Sp) : Prop where
  len : ∀ vs H Q E, sp vs H Q E → vs.length = ps.length
  run : ∀ (A : Around) (outer : List Env) (s : Shared) (H : Hp) (args : Args) (us : List Value) (vs : List V) (Q : VK) (E : XK),
    Room k A → A.guards = some [] → Env0 P w K mg base A outer s H → BindsTo s fd args (ps.zip us) → Vals vs us → sp vs H Q E →
    codeAny (model P w) A (.call (.ref f) args) (CR CX outer P w H s Q E) s
section
variable {P : Program} {w : World} {K : PySem.W.Frag} {mg : Str → Option Value} {base : Heap} {CX : CXT} {k : Nat}
theorem GOk.of {f : Addr} {fd : FuncData} {ps : List Str} {sp : Sp} (F : FnOk P w K mg base CX k f fd ps sp) :
    GOk P w K mg base CX k f fd ps sp :=
  ⟨F.len, fun A o s H args us vs Q E hr _ => F.run A o s H args us vs Q E hr⟩
theorem GOk.mono {j : Nat} {f : Addr} {fd : FuncData} {ps : List Str} {sp : Sp} (F : GOk P w K mg base CX j f fd ps sp) (h : j ≤ k) :
    GOk P w K mg base CX k f fd ps sp :=
  ⟨F.len, fun A o s H args us vs Q E hr => F.run A o s H args us vs Q E (hr.mono h)⟩
/-- a def by its body, the guards told -/
theorem okG {x qual : Str} {st : Stmt} {f : Addr} {fd : FuncData} {N ps : List Str} {sp : Sp} (F : Fun K x qual st f fd)
    (S : FnScope N ps (defScope st)) (len : ∀ vs H Q E, sp vs H Q E → vs.length = ps.length)
    (body : ∀ (cdv : Value) (A : Around) (outer : List Env) (s : Shared) (H : Hp) (vs : List V) (Q : VK) (E : XK),
      Room k (A.deeper (envOfC qual (defScope st) s.heap.objs.size f cdv)) →
      (A.deeper (envOfC qual (defScope st) s.heap.objs.size f cdv)).guards = some [] → sp vs H Q E →
      ∃ t, PSs (cxOf CX0 P w K mg base N qual (defScope st) f cdv A outer s H E).nox (defBody st) t ∧
        t { nx := fun _ H' => Q .non H', rt := Q } (start N vs) H) :
    GOk P w K mg base CX0 (k + 1) f fd ps sp := by
  obtain ⟨oc, od, kV, doc, pm, an, cdv, ct, osl, rfl, look, code⟩ := F.ex
  refine ⟨len, ?_⟩
  intro A outer s H args us vs Q E room gd e0 binds rel want
  have vl := len vs H Q E want
  have inK : K.In s.heap := e0.mod.kin.keeps fun b o q => (e0.bs b o q).1
  have nl : s.heap.NoLimit := e0.mod.nolimit.keeps fun b o q => (e0.bs b o q).1
  have kinds : ∀ y ∈ ps.zip us, (defScope st).names.lookup y.1 = some .local ∨ ((defScope st).names.lookup y.1 = some .cell ∧
      ((cellsFrom (s.heap.objs.size + 1) (defScope st).names []).lookup y.1).isSome = true) := by
    rintro ⟨n, u⟩ mem
    have inP : n ∈ ps := (List.of_mem_zip mem).1
    cases S.par n inP with
    | inl q => exact .inl q
    | inr q => exact .inr ⟨q, PySem.W.cellsFrom_some _ _ _ (.inl q)⟩
  refine codeAny_call_function room.depth (inK _ _ look) rfl S.co S.gen rfl (PySem.W.codeRec_of inK code) (binds _ _ _ _ ?_)
  refine wpAny_newFunctionEnv_cells S.kind kinds fun env ee s1 x => ?_
  subst ee
  refine ⟨nl.keeps x.toInCall.keep, codeAny_func ?_⟩
  obtain ⟨t, ht, hq⟩ := body cdv A outer s H vs Q E (room.deeper _) gd want
  have J := inv_start (CX := CX0) (E := E) S room.hd e0 vl rel x
  refine wpAny_mono ((ht.nox).run [] s1 _ H _ J hq) (fun fl s' told => ?_) fun e s' told => told
  match fl, told with
  | .ret u, ⟨v, σ', H', J', rv, q⟩ => exact ⟨v, H', J'.os, J'.bare, J'.base, J'.hok, rv, q⟩
  | .next, ⟨σ', H', J', q⟩ => exact ⟨.non, H', J'.os, J'.bare, J'.base, J'.hok, rfl, q⟩
  | .brk, ⟨_, _, _, q⟩ => exact q.elim
  | .cont, ⟨_, _, _, q⟩ => exact q.elim
end
section
variable {X : Cx} {CX : CXT} {k : Nat} {f : Addr} {fd : FuncData} {ps : List Str} {sp : Sp} {dvs : List V} {ds : List Value} {E : XK}
theorem runG {pins : List (Addr × Obj)} {σ : L2.St} {H : Hp} {s : Shared} {Q : VK} {us : List Value} {vs : List V}
    (F : GOk X.prog X.w X.K X.mg X.base CX k f fd ps sp) (hr : Room k X.A) (gd : X.A.guards = some []) (hb : Binds X.K fd ps ds) (hd : Vals dvs ds)
    (hx : Passes CX X E) (I : Inv X pins σ H s) (r : Vals vs us) (h : sp (vs ++ dvs) H Q E) :
    wpAny (model X.prog X.w) X.A (call (.ref f) us) (EP X pins σ Q) X.xe s := by
  have rr := r.append hd
  have ll : (us ++ ds).length = ps.length := rr.length.symm.trans (F.len _ _ _ _ h)
  have go := F.run X.A X.stack s H ⟨us, []⟩ (us ++ ds) (vs ++ dvs) Q E hr gd I.env0 (hb s us I.kIn ll) rr h
  refine wpAny_call (codeAny_mono go fun r s' told => ?_)
  match r, told with
  | .error e, told => exact hx pins σ H s e s' I told
  | .ok (.ret u), told => exact I.after told
  | .ok .next, told => exact False.elim told
  | .ok .brk, told => exact False.elim told
  | .ok .cont, told => exact False.elim told
/-- a call of such a def by its global name -/
theorem callG {x : Str} {p pos : Pos} {e : Expr} {es : List Expr} {t : TA} (F : GOk X.prog X.w X.K X.mg X.base CX k f fd ps sp) (hr : Room k X.A)
    (gd : X.A.guards = some []) (hg : Gl X x) (hm : X.mg x = some (.ref f)) (hk : PySem.W.keepIn X.K (.ref f) = true) (hb : Binds X.K fd ps ds)
    (hd : Vals dvs ds) (hx : Passes CX X E) (ha : PA X (e :: es) t) (hdb : (x == ("__debug__" : Str)) = false := by decide)
    (he : starEach (e :: es) X.env = (false, eval e X.env) :: starEach es X.env := by rfl)
    (hpl : (backTo pos (starEach es X.env)).any (·.1) = false := by rfl) :
    PE X (.Call (.Name x p) (e :: es) [] pos) (tCall sp dvs E t) :=
  ⟨fun pins s σ H Q I h => wpAny_Call_Name_kw (ld_glob I hg hm
    (PySem.W.callWith_K (h₀ := X.base) I.ok.mod.kin hk
      (thn (ha.run pos pins s σ H _ I h) fun us s1 ⟨vs, H1, I1, r, q⟩ => ⟨I1.kIn, runG F hr gd hb hd hx I1 r q⟩) he hpl) hdb)⟩
end
end Fd

namespace Fd
open PySem PySem.Spec PyProof.Rows L2
/-! The law's own call, from such a promise of the law's def. -/
section
variable {P : Program} {w : World} {K : PySem.W.Frag} {mg mb : Str → Option Value} {k : Nat} {fa a : Addr} {fd : FuncData} {x : Str} {sp : Sp}
  {s : Shared} {vs : List Value} {ns : List Int}
/-- what stands in the heap but is not tracked, as the base -/
theorem lawFrom (KX : K.In s.heap) (gl : s.heap.Ns mainGlobals mg) (bl : s.heap.Ns builtinsNs mb) (bb : ∀ y : Str, y ≠ "__name__" → mb y = bootBuiltins y)
    (lim : s.heap.NoLimit) (gens : s.gens = #[]) (obj : s.heap.get? a = some { cls := .type "list", data := .seq vs.toArray }) (rm : Room k callerA)
    (F : ∀ base : Heap, K.In base → base.Ns mainGlobals mg → GOk P w K mg base CX0 k fa fd [x] sp)
    (bd : ∀ (t : Shared) (u : Value), BindsTo t fd ⟨[u], []⟩ [(x, u)])
    (H : Hp) (only : Only H) (ok : HOk P w H s.heap) (just : ∀ b, H b ≠ none → b = a) (away : H a ≠ none → K.lookup a = none)
    (want : sp [.ref a] H (fun v _ => v = .bl true) E0) :
    codeAny (model P w) callerA (.call (.ref fa) ⟨[.ref a], []⟩) (fun r s' => r = .ok (.ret (.bool true)) ∧ OldK s.heap s'.heap ∧ s'.os = s.os ∧ AllBare s'.gens) s := by
  have at_a : ∀ {b : Addr}, H b ≠ none → b = a := fun {b} => just b
  have free_dict : ∀ {b : Addr} {o : Obj} {es : Array DictEntry} {ep : Nat}, s.heap.get? b = some o → o.data = .dict es ep → H b = none := by
    intro b o es ep e d
    match q : H b with
    | none => rfl
    | some u =>
      obtain rfl : b = a := at_a (by rw [q]; exact fun z => nomatch z)
      rw [obj] at e
      cases e
      exact nomatch d
  have ns_of : ∀ {b : Addr} {m : Str → Option Value}, s.heap.Ns b m → (hidT s.heap H).Ns b m := by
    rintro b m ⟨o, es, ep, e, d, r⟩
    exact ⟨o, es, ep, hidT_get e (free_dict e d), d, r⟩
  have kb : K.In (hidT s.heap H) := by
    intro b o e
    refine hidT_get (KX b o e) ?_
    match q : H b with
    | none => rfl
    | some u =>
      have nn : H b ≠ none := by rw [q]; exact fun z => nomatch z
      obtain rfl : b = a := at_a nn
      rw [away nn] at e
      exact nomatch e
  have nlim : (hidT s.heap H).NoLimit := by
    obtain ⟨mc, h1, h2⟩ := lim
    exact ⟨mc, ns_of h1, h2⟩
  have e0 : Env0 P w K mg (hidT s.heap H) callerA [] s H :=
    { frames := rfl, mod := ⟨kb, ns_of gl, ⟨mb, ns_of bl, bb⟩, nlim⟩, bs := fun b o e => of_hidT e, bsz := Nat.le_of_eq (hidT_size _ _), funs := trivial,
      frf := fun b hb => (by cases (show b ∈ ([] : List Addr) from hb)), hok := ok, bare := .of_eq gens }
  refine codeAny_mono ((F _ kb (ns_of gl)).run callerA [] s H ⟨[.ref a], []⟩ [.ref a] [.ref a] _ E0 rm rfl e0 (bd s (.ref a)) (.cons rfl .nil) want) ?_
  intro r s' told
  match r, told with
  | .error e, told => exact False.elim told
  | .ok .next, told => exact False.elim told
  | .ok .brk, told => exact False.elim told
  | .ok .cont, told => exact False.elim told
  | .ok (.ret u), ⟨v, H', os, bare, un, ok', rv, q⟩ =>
    obtain rfl : v = .bl true := q
    obtain rfl : u = Value.bool true := rv
    refine ⟨rfl, OldK.of_keep fun b o e => ?_, os, bare⟩
    match q : H b with
    | none => exact un.keep b o e q (fun z => nomatch (show b ∈ ([] : List Addr) from z)) (by simp)
    | some u =>
      rcases only b with z | ⟨ob, xs, z⟩
      · rw [q] at z
        exact nomatch z
      · obtain ⟨e1, _⟩ := ok b _ z
        obtain ⟨e2, _⟩ := ok' b _ (un.frzs b ob _ z)
        rw [e] at e1
        cases e1
        exact e2
theorem lawCall (KX : K.In s.heap) (gl : s.heap.Ns mainGlobals mg) (bl : s.heap.Ns builtinsNs mb) (bb : ∀ y : Str, y ≠ "__name__" → mb y = bootBuiltins y)
    (lim : s.heap.NoLimit) (gens : s.gens = #[]) (obj : s.heap.get? a = some { cls := .type "list", data := .seq vs.toArray }) (iv : IntsAre vs ns)
    (short : ns.length ≤ sizeLine) (rm : Room k callerA) (F : ∀ base : Heap, K.In base → base.Ns mainGlobals mg → GOk P w K mg base CX0 k fa fd [x] sp)
    (bd : ∀ (t : Shared) (u : Value), BindsTo t fd ⟨[u], []⟩ [(x, u)])
    (want : ∀ H : Hp, Only H → SqL K H a (ns.map V.int) → sp [.ref a] H (fun v _ => v = .bl true) E0) :
    codeAny (model P w) callerA (.call (.ref fa) ⟨[.ref a], []⟩) (fun r s' => r = .ok (.ret (.bool true)) ∧ OldK s.heap s'.heap ∧ s'.os = s.os ∧ AllBare s'.gens) s := by
  have rv := vals_ints iv
  have ll := iv.length
  match hk : K.lookup a with
  | some o =>
    have e := KX a o hk
    rw [obj] at e
    cases e
    have sq : SqL K (fun _ => none) a (ns.map V.int) :=
      .inr ⟨_, vs.toArray, _, hk, rfl, rfl, rfl, by rw [List.size_toArray, ll]; exact short, by simpa using rv⟩
    exact lawFrom KX gl bl bb lim gens obj rm F bd (fun _ => none) (fun _ => .inl rfl) (fun b u z => nomatch z) (fun b z => absurd rfl z) (fun z => absurd rfl z)
      (want _ (fun _ => .inl rfl) sq)
  | none =>
    let Hs : Hp := fun b => if b = a then some (.frz { cls := .type "list", data := .seq vs.toArray } (.lst (ns.map V.int))) else none
    have at_ : Hs a = some (.frz { cls := .type "list", data := .seq vs.toArray } (.lst (ns.map V.int))) := if_pos rfl
    have off : ∀ b, b ≠ a → Hs b = none := fun b h => if_neg h
    have only : Only Hs := by
      intro b
      by_cases h : b = a
      · subst h
        exact .inr ⟨_, _, at_⟩
      · exact .inl (off b h)
    refine lawFrom KX gl bl bb lim gens obj rm F bd Hs only ?_ ?_ (fun _ => hk) (want Hs only (.inl (.inr ⟨_, at_⟩)))
    · intro b u z
      by_cases h : b = a
      · subst h
        rw [at_] at z
        cases z
        exact ⟨obj, by rw [List.length_map]; exact short, vs, _, rv, obj⟩
      · rw [off b h] at z
        exact nomatch z
    · intro b z
      by_cases h : b = a
      · exact h
      · exact absurd (off b h) z
end
/-- the goal that k_head leaves, from the law's promise -/
theorem walkG {l : PySem.W.OpenLaw} {n k : Nat} {q : Program} {loose : List Str} {XP : (Str → Option Value) → Heap → Prop} {YP : World → Heap → Prop} {d : DefRec}
    {K : Params → PySem.W.Frag} {sp : PySem.W.Frag → Sp} {x : Str} (most : l.most = some n) (small : n ≤ sizeLine) (plain : d.params.defaults = []) (rm : Room k callerA)
    (hY : ∀ (w : World) (h : Heap), YP w h → (K w.params).In h)
    (F : ∀ (w : World) (mg : Str → Option Value) (fa : Addr) (h : Heap), (K w.params).In h → h.Ns mainGlobals mg → mg d.name = some (.ref fa) →
      ∃ fd : FuncData, (∀ (s : Shared) (u : Value), BindsTo s fd ⟨[u], []⟩ [(x, u)]) ∧
        ∀ base : Heap, (K w.params).In base → base.Ns mainGlobals mg → GOk l.prog w (K w.params) mg base CX0 k fa fd [x] (sp (K w.params)))
    (want : ∀ (K : PySem.W.Frag) (H : Hp) (a : Addr) (ns : List Int), ns.length ≤ n → Only H → SqL K H a (ns.map V.int) → sp K [.ref a] H (fun v _ => v = .bl true) E0) :
    PySem.W.WalkO q loose XP YP l.row.toRowW d [] (fun f vs => PySem.call f vs) := by
  refine Att.attach_call most plain ?_
  intro w s0 s mg mb fa o pm cd doc a vs ns G Y ho hd hcd hmg obj iv len gens
  have KX := hY w _ Y
  obtain ⟨fd, bd, hF⟩ := F w mg fa _ KX G.T.g hmg
  exact lawCall KX G.T.g G.T.b G.T.builtins G.T.nolimit gens obj iv (Nat.le_trans len small) rm hF bd fun H h1 h2 => want _ H a ns len h1 h2
end Fd

namespace Fd
open PySem PySem.Spec PyProof.Rows L2
/-! ### steps of the abstract heap: all that was tracked stays, but for a pot at p (a list of two ints) -/
def Pot (H : Hp) (p : Addr) : Prop := ∃ a b : Int, H p = some (.lst [.int a, .int b])
def PotO (p : Option Addr) (H : Hp) : Prop := ∀ q, p = some q → Pot H q
structure St (p : Option Addr) (H H' : Hp) : Prop where
  same : ∀ a o, some a ≠ p → H a = some o → H' a = some o
  pot : PotO p H'
section
variable {p : Option Addr} {H H1 H2 : Hp} {a : Addr} {o : HO} {K : PySem.W.Frag} {xs : List V}
theorem potN : PotO none H := fun _ e => nomatch e
theorem potS {q : Addr} (h : Pot H q) : PotO (some q) H := fun r e => by
  cases e
  exact h
theorem PotO.ne (h : PotO p H) (e : H a = none) : some a ≠ p := fun z => by
  obtain ⟨x, y, q⟩ := h a z.symm
  rw [e] at q
  cases q
theorem PotO.neT (h : PotO p H) (e : H a = some (.tup xs)) : some a ≠ p := fun z => by
  obtain ⟨x, y, q⟩ := h a z.symm
  rw [e] at q
  cases q
theorem PotO.neF {u : HO} {ob : Obj} (h : PotO p H) (e : H a = some (.frz ob u)) : some a ≠ p := fun z => by
  obtain ⟨x, y, q⟩ := h a z.symm
  rw [e] at q
  cases q
theorem PotO.upd (h : PotO p H) (e : some a ≠ p) : PotO p (upd H a o) := fun r z => by
  obtain ⟨x, y, q⟩ := h r z
  exact ⟨x, y, by rw [upd_ne (fun w => e (by rw [← w]; exact z.symm))]; exact q⟩
theorem St.refl (h : PotO p H) : St p H H := ⟨fun _ _ _ e => e, h⟩
theorem St.trans (x : St p H H1) (y : St p H1 H2) : St p H H2 := ⟨fun a o n e => y.same a o n (x.same a o n e), y.pot⟩
theorem St.ofSame (h : PotO p H) (s : Same H H1) : St p H H1 := ⟨fun a o _ e => s a o e, fun q z => by
  obtain ⟨x, y, w⟩ := h q z
  exact ⟨x, y, s _ _ w⟩⟩
theorem St.toSame (x : St none H H1) : Same H H1 := fun a o e => x.same a o (fun z => nomatch z) e
theorem St.low (h : PotO p H) (x : St none H H1) : St p H H1 := St.ofSame h x.toSame
theorem St.new (h : PotO p H) (e : H a = none) : St p H (upd H a o) :=
  ⟨fun b u _ q => by rw [upd_ne (ne_of_none q e)]; exact q, h.upd (h.ne e)⟩
theorem St.free (h : PotO p H) (x : St p H H1) (e : H1 a = none) : H a = none := by
  cases q : H a with
  | none => rfl
  | some u =>
    rw [x.same a u (x.pot.ne e) q] at e
    cases e
/-- an object that was not there ahead may be changed -/
theorem St.put (h : PotO p H) (x : St p H H1) (e : H a = none) : St p H (upd H1 a o) :=
  ⟨fun b u n q => by rw [upd_ne (ne_of_none q e)]; exact x.same b u n q, x.pot.upd (h.ne e)⟩
theorem St.tup (h : PotO p H) (x : St p H H1) (e : SqT K H a xs) : SqT K H1 a xs := by
  rcases e with (e | ⟨ob, e⟩) | e
  · exact .inl (.inl (x.same _ _ (h.neT e) e))
  · exact .inl (.inr ⟨ob, x.same _ _ (h.neF e) e⟩)
  · exact .inr e
theorem St.frzL (h : PotO p H) (x : St p H H1) (n : some a ≠ p) (e : SqL K H a xs) : SqL K H1 a xs := by
  rcases e with (e | ⟨ob, e⟩) | e
  · exact .inl (.inl (x.same _ _ n e))
  · exact .inl (.inr ⟨ob, x.same _ _ n e⟩)
  · exact .inr e
end
theorem same_new {H : Hp} {p : Addr} {o : HO} (h : H p = none) : Same H (upd H p o) := fun b u e => by
  rw [upd_ne (ne_of_none e h)]
  exact e
/-! ### data of scalars and tuples alone: it stays whatever is stepped -/
mutual
def flatT : PyData → Bool
  | .none | .bool _ | .int _ | .str _ => true
  | .tuple xs => flatTs xs
  | .list _ | .dict _ => false
def flatTs : List PyData → Bool
  | [] => true
  | x :: xs => flatT x && flatTs xs
end
theorem flatTs_of : ∀ {ds : List PyData}, (∀ d ∈ ds, flatT d = true) → flatTs ds = true
  | [], _ => by simp only [flatTs]
  | d :: ds, h => by
    simp only [flatTs, Bool.and_eq_true]
    exact ⟨h d (List.mem_cons_self ..), flatTs_of fun x hx => h x (List.mem_cons_of_mem _ hx)⟩
theorem flatTs_mem : ∀ {ds : List PyData}, flatTs ds = true → ∀ d ∈ ds, flatT d = true
  | [], _, _, h => nomatch h
  | x :: xs, h, d, m => by
    simp only [flatTs, Bool.and_eq_true] at h
    rcases List.mem_cons.mp m with e | m
    · exact e ▸ h.1
    · exact flatTs_mem h.2 d m
theorem flatTs_app {xs ys : List PyData} (h1 : flatTs xs = true) (h2 : flatTs ys = true) : flatTs (xs ++ ys) = true :=
  flatTs_of fun d m => (List.mem_append.mp m).elim (flatTs_mem h1 d) (flatTs_mem h2 d)
section
variable {K : PySem.W.Frag} {H H1 : Hp}
mutual
theorem Dp.move (f : ∀ a xs, SqT K H a xs → SqT K H1 a xs) : ∀ {v : V} {d : PyData}, flatT d = true → Dp K H v d → Dp K H1 v d
  | _, _, _, .non => .non
  | _, _, _, .bl b => .bl b
  | _, _, _, .int i => .int i
  | _, _, _, .str x => .str x
  | _, _, z, .lst _ _ => by simp [flatT] at z
  | _, _, z, .tup h1 h2 => .tup (f _ _ h1) (DpAll.move f (by simpa [flatT] using z) h2)
theorem DpAll.move (f : ∀ a xs, SqT K H a xs → SqT K H1 a xs) : ∀ {vs : List V} {ds : List PyData}, flatTs ds = true → DpAll K H vs ds → DpAll K H1 vs ds
  | _, _, _, .nil => .nil
  | _, _, z, .cons h1 h2 => by
    simp only [flatTs, Bool.and_eq_true] at z
    exact .cons (Dp.move f z.1 h1) (DpAll.move f z.2 h2)
end
theorem dpSt {p : Option Addr} {v : V} {d : PyData} (h : PotO p H) (x : St p H H1) (z : flatT d = true) (k : Dp K H v d) : Dp K H1 v d :=
  Dp.move (fun _ _ e => St.tup h x e) z k
theorem dpsSt {p : Option Addr} {vs : List V} {ds : List PyData} (h : PotO p H) (x : St p H H1) (z : flatTs ds = true) (k : DpAll K H vs ds) : DpAll K H1 vs ds :=
  DpAll.move (fun _ _ e => St.tup h x e) z k
/-- a list is changed: tuples stay -/
theorem tup_put {D : Addr} {ys zs : List V} {a : Addr} {xs : List V} (e : H D = some (.lst ys)) (h : SqT K H a xs) : SqT K (upd H D (.lst zs)) a xs := by
  have n : ∀ u, H a = some u → u ≠ .lst ys → a ≠ D := fun u q w z => by
    rw [z, e] at q
    exact w (Option.some.inj q).symm
  rcases h with (h | ⟨ob, h⟩) | h
  · exact .inl (.inl (by rw [upd_ne (n _ h (fun z => nomatch z))]; exact h))
  · exact .inl (.inr ⟨ob, by rw [upd_ne (n _ h (fun z => nomatch z))]; exact h⟩)
  · exact .inr h
theorem DpAll.len : ∀ {vs : List V} {ds : List PyData}, DpAll K H vs ds → vs.length = ds.length
  | _, _, .nil => rfl
  | _, _, .cons _ h => by rw [List.length_cons, List.length_cons, DpAll.len h]
theorem DpAll.get : ∀ {vs : List V} {ds : List PyData} {i : Nat} {v : V}, DpAll K H vs ds → vs[i]? = some v → ∃ d, ds[i]? = some d ∧ Dp K H v d
  | _, _, _, _, .nil, e => by simp at e
  | _, _, 0, _, .cons h _, e => by
    simp at e
    exact ⟨_, rfl, e ▸ h⟩
  | _, _, i + 1, _, .cons _ h, e => by
    obtain ⟨d, q, r⟩ := DpAll.get (i := i) h (by simpa using e)
    exact ⟨d, by simpa using q, r⟩
theorem DpAll.app : ∀ {vs ws : List V} {ds es : List PyData}, DpAll K H vs ds → DpAll K H ws es → DpAll K H (vs ++ ws) (ds ++ es)
  | _, _, _, _, .nil, k => k
  | _, _, _, _, .cons h1 h2, k => .cons h1 (DpAll.app h2 k)
theorem Dp.tupInv {v : V} {ds : List PyData} (h : Dp K H v (.tuple ds)) : ∃ a xs, v = .ref a ∧ SqT K H a xs ∧ DpAll K H xs ds := by
  cases h with
  | tup h1 h2 => exact ⟨_, _, rfl, h1, h2⟩
theorem dps_ints : ∀ ns : List Int, DpAll K H (ns.map V.int) (ns.map PyData.int)
  | [] => .nil
  | n :: r => .cons (.int n) (dps_ints r)
theorem dps_strs : ∀ ns : List Str, DpAll K H (ns.map V.str) (ns.map PyData.str)
  | [] => .nil
  | n :: r => .cons (.str n) (dps_strs r)
theorem dps_ints_inv : ∀ {vs : List V} {ns : List Int}, DpAll K H vs (ns.map PyData.int) → vs = ns.map V.int
  | _, [], h => by cases h; rfl
  | _, n :: r, h => by
    cases h with
    | cons h1 h2 =>
      cases h1
      rw [dps_ints_inv h2]
      rfl
theorem dps_strs_inv : ∀ {vs : List V} {ns : List Str}, DpAll K H vs (ns.map PyData.str) → vs = ns.map V.str
  | _, [], h => by cases h; rfl
  | _, n :: r, h => by
    cases h with
    | cons h1 h2 =>
      cases h1
      rw [dps_strs_inv h2]
      rfl
theorem dps_bools_inv : ∀ {vs : List V} {ns : List Bool}, DpAll K H vs (ns.map PyData.bool) → vs = ns.map V.bl
  | _, [], h => by cases h; rfl
  | _, n :: r, h => by
    cases h with
    | cons h1 h2 =>
      cases h1
      rw [dps_bools_inv h2]
      rfl
theorem flat_ints : ∀ ns : List Int, flatTs (ns.map PyData.int) = true := fun ns => flatTs_of fun d m => by
  obtain ⟨n, _, rfl⟩ := List.mem_map.mp m
  simp [flatT]
theorem flat_strs : ∀ ns : List Str, flatTs (ns.map PyData.str) = true := fun ns => flatTs_of fun d m => by
  obtain ⟨n, _, rfl⟩ := List.mem_map.mp m
  simp [flatT]
end
/-! ### a comprehension, by what it has made so far (data of scalars and tuples) -/
section
variable {K : PySem.W.Frag} {J : It} {n : Nat} {G : Hp → Prop} {Y : Nat → Hp → V → Hp → Prop}
theorem lcW (w : Walk J n G Y) {g : TG} {tt : TT} {te : TE} {vs : List Nat} {σ : L2.St} {H1 : Hp} {Q : VK} (p : Option Addr) (R : Nat → List PyData → Prop)
    (hp : PotO p H1) (hG : ∀ H, St p H1 H → G H) (hn : n ≤ 1000000) (r0 : R 0 [])
    (step : ∀ i x Ha H' ds (C : V → Hp → Prop) (N : Hp → Prop), i < n → St p H1 Ha → flatTs ds = true → R i ds → Y i Ha x H' →
      (∀ y H4 d, St p Ha H4 → flatT d = true → Dp K H4 y d → R (i + 1) (ds ++ [d]) → C y H4) → (∀ H3, St p Ha H3 → R (i + 1) ds → N H3) →
      g x (wipe σ vs) H' fun σ2 H2 => wipe σ2 vs = wipe σ vs ∧ tt σ2 H2 fun b H3 => if b = true then te σ2 H3 C else N H3)
    (done : ∀ D acc ds H', H1 D = none → St p H1 H' → H' D = some (.lst acc) → flatTs ds = true → DpAll K H' acc ds → R n ds → Q (.ref D) H') :
    ∀ D, H1 D = none → ∃ W : Nat → Nat → Hp → Prop, (∃ m, W 0 m (upd H1 D (.lst []))) ∧ ∀ i m H, W i m H →
      (J.stop i H ∧ Q (.ref D) H) ∨ (J.go i H ∧ ∃ Nx : Hp → Prop, (∀ H', Nx H' → ∃ m', m' < m ∧ W (i + 1) m' H') ∧ ∀ x H', J.yld i H x H' → g x (wipe σ vs) H' fun σ2 H2 => wipe σ2 vs = wipe σ vs ∧ tt σ2 H2 fun b H3 =>
        if b = true then te σ2 H3 fun y H4 => ∃ acc, H4 D = some (.lst acc) ∧ acc.length < sizeLine ∧ Nx (upd H4 D (.lst (acc ++ [y]))) else Nx H3) := by
  intro D hD
  have line : (1000000 : Nat) < sizeLine := by decide
  refine lc_it w (fun i H => ∃ acc ds, St p H1 H ∧ H D = some (.lst acc) ∧ flatTs ds = true ∧ DpAll K H acc ds ∧ R i ds ∧ acc.length ≤ i) ?_ ?_ ?_ ?_
  · exact ⟨[], [], St.new hp hD, upd_same, by simp [flatTs], .nil, r0, Nat.le_refl _⟩
  · rintro i H _ ⟨_, _, s, _⟩
    exact hG H s
  · rintro i x H H' hi ⟨acc, ds, s, hl, fl, al, r, le⟩ y
    have nD : some D ≠ p := hp.ne hD
    refine step i x H H' ds _ _ hi s fl r y (fun z H4 d s4 fd hd r' => ?_) (fun H3 s3 r' => ?_)
    · have hl4 := s4.same D _ nD hl
      have al4 := dpsSt s.pot s4 fl al
      refine ⟨acc, hl4, by omega, acc ++ [z], ds ++ [d], St.put hp (s.trans s4) hD, upd_same, flatTs_app fl (by simp [flatTs, fd]), ?_, r', by simp; omega⟩
      exact DpAll.app (DpAll.move (fun _ _ => tup_put hl4) fl al4) (.cons (Dp.move (fun _ _ => tup_put hl4) fd hd) .nil)
    · exact ⟨acc, ds, s.trans s3, s3.same D _ nD hl, fl, dpsSt s.pot s3 fl al, r', by omega⟩
  · rintro H ⟨acc, ds, s, hl, fl, al, r, _⟩
    exact done D acc ds H hD s hl fl al r
end
/-! ### what may be shown and compared -/
structure Nice (d : PyData) : Prop where
  sh : d.showable = true
  nd : d.hasDict = false
  lf : d.leavesShort 300 = true
  wt : d.weight ≤ 50000
  lay : d.canLay0 = true
  dp : d.depth ≤ 60
theorem Nice.size {d : PyData} (h : Nice d) : d.shown.length ≤ sizeLine := by
  have q := PyData.shown_le 300 (by decide) d h.lf
  have w := h.wt
  have s : sizeLine = 16777216 := sizeLine_eq
  omega
theorem Nice.shaped {d : PyData} (h : Nice d) : SeqAt.shaped d = true := by
  have q := h.dp
  unfold SeqAt.shaped
  rw [h.lay]
  simp
  omega
theorem Nice.refl {d : PyData} (h : Nice d) : PyData.eqv d d = true := PySem.SeqAt.eqv_refl d h.lay
section
variable {X : Cx}
/-- repr of data -/
theorem call_reprD (gd : X.A.guards = some []) (hu : X.A.units + 70 < cLine) :
    CallR X (.builtin "repr") (fun xs H Q => ∃ v d, xs = [v] ∧ Dp X.K H v d ∧ Nice d ∧ Q (.str d.shown) H) := by
  intro pins s σ H xs us Q I r h
  obtain ⟨v, d, rfl, hd, nice, q⟩ := h
  obtain ⟨u, rfl, ru⟩ := vals1 r
  obtain ⟨as, rd⟩ := Dp.reads I d v u hd ru
  have dd := nice.dp
  cases hd with
  | non =>
    cases ru
    exact PySem.P.repr_of_none ⟨.str _, H, I.tok _, ⟨_, rfl⟩, q⟩
  | bl b =>
    cases ru
    exact PySem.P.repr_of_bool ⟨.str _, H, I.tok _, ⟨_, rfl⟩, q⟩
  | int i =>
    obtain ⟨t, rfl⟩ := ru
    exact PySem.P.repr_of_int (by simpa [PyData.showable] using nice.sh) ⟨.str _, H, I.tok _, ⟨_, rfl⟩, q⟩
  | str x =>
    obtain ⟨t, rfl⟩ := ru
    exact PySem.P.repr_of_str (hsz := by simpa only [PyData.shown_str] using nice.size) ⟨.str _, H, I.tok _, ⟨_, by rw [PyData.shown_str]⟩, q⟩
  | lst h1 h2 =>
    cases ru
    exact repr_of_reads' rd nice.sh (fun z => by rw [nice.nd] at z; cases z) gd (by omega) (fun _ _ e => e) (fun h' u tk k => ⟨.str _, H, I.kept k, ⟨_, rfl⟩, q⟩) nice.size
  | tup h1 h2 =>
    cases ru
    exact repr_of_reads' rd nice.sh (fun z => by rw [nice.nd] at z; cases z) gd (by omega) (fun _ _ e => e) (fun h' u tk k => ⟨.str _, H, I.kept k, ⟨_, rfl⟩, q⟩) nice.size
end
end Fd

namespace Fd
open PySem PySem.Spec PyProof.Rows L2
/-! ### tags, layers, rows -/
/-- a text of few small letters -/
def TagOk (z : Str) : Prop := z.length ≤ 8 ∧ ∀ c ∈ z.cps.toList, 97 ≤ c ∧ c ≤ 122
abbrev Lay := Str × Int
def LayOk (l : Lay) : Prop := TagOk l.1 ∧ l.2.natAbs < 2 ^ 250
def layD (l : Lay) : PyData := .tuple [.str l.1, .int l.2]
def rowD (ls : List Lay) : PyData := .tuple (ls.map layD)
theorem flat_lay (l : Lay) : flatT (layD l) = true := by simp [layD, flatT, flatTs]
theorem flat_lays (ls : List Lay) : flatTs (ls.map layD) = true := flatTs_of fun d m => by
  obtain ⟨l, _, rfl⟩ := List.mem_map.mp m
  exact flat_lay l
theorem flat_row (ls : List Lay) : flatT (rowD ls) = true := by
  unfold rowD
  simp only [flatT]
  exact flat_lays ls
theorem log_of {i : Int} {k : Nat} (hk : 0 < k) (h : i.natAbs < 2 ^ k) : i.natAbs.log2 < k := PySem.Flt.log2_lt_of hk h
theorem shown_int_le {i : Int} (h : i.natAbs < 2 ^ 250) : (PyData.int i).shown.length ≤ 300 := by
  rw [PyData.shown_int]
  have := int_text_length_le (a := i) (k := 250) (by decide) (log_of (by decide) h)
  show (Str.ofString (toString i)).length ≤ 300
  rw [PySem.ofString_length]
  omega
theorem nice_int {i : Int} (h : i.natAbs < 2 ^ 250) : Nice (.int i) := by
  have l := log_of (by decide) h
  refine ⟨?_, by simp [PyData.hasDict], ?_, ?_, by simp [PyData.canLay0], by simp [PyData.depth]⟩
  · simp only [PyData.showable, decide_eq_true_eq]
    omega
  · simp only [PyData.leavesShort, decide_eq_true_eq]
    exact shown_int_le h
  · simp only [PyData.weight]
    split <;> omega
theorem nice_none : Nice .none := by
  refine ⟨?_, ?_, ?_, ?_, ?_, ?_⟩ <;> simp [PyData.showable, PyData.hasDict, PyData.leavesShort, PyData.weight, PyData.canLay0, PyData.depth]
theorem tag_lt {z : Str} (h : TagOk z) : ∀ c ∈ z.cps.toList, c < 128 := fun c m => by
  have := h.2 c m
  omega
/-- small data: a bound on its weight, tracked -/
structure NiceW (n : Nat) (d : PyData) : Prop where
  sh : d.showable = true
  nd : d.hasDict = false
  lf : d.leavesShort 300 = true
  wt : d.weight ≤ n
  lay : d.canLay0 = true
  dp : d.depth ≤ 10
theorem NiceW.nice {n : Nat} {d : PyData} (h : NiceW n d) (k : n ≤ 50000) : Nice d := ⟨h.sh, h.nd, h.lf, Nat.le_trans h.wt k, h.lay, by have := h.dp; omega⟩
structure NiceWs (n k : Nat) (ds : List PyData) : Prop where
  sh : PyData.showableAll ds = true
  nd : PyData.hasDictAll ds = false
  lf : PyData.leavesShortAll 300 ds = true
  wt : PyData.weightAll ds ≤ (n + 1) * ds.length
  lay : PyData.canLayAll0 ds = true
  dp : PyData.depthAll ds ≤ k
theorem niceWs {n k : Nat} : ∀ {ds : List PyData}, (∀ d ∈ ds, NiceW n d ∧ d.depth ≤ k) → NiceWs n k ds
  | [], _ => by
    refine ⟨?_, ?_, ?_, ?_, ?_, ?_⟩ <;> simp [PyData.showableAll, PyData.hasDictAll, PyData.leavesShortAll, PyData.weightAll, PyData.canLayAll0, PyData.depthAll]
  | d :: ds, h => by
    have a := (h d (List.mem_cons_self ..)).1
    have ad := (h d (List.mem_cons_self ..)).2
    have b := niceWs (n := n) (k := k) (ds := ds) fun x m => h x (List.mem_cons_of_mem _ m)
    have w1 := a.wt
    have w2 := b.wt
    refine ⟨?_, ?_, ?_, ?_, ?_, ?_⟩
    · simp only [PyData.showableAll, a.sh, b.sh, Bool.and_self]
    · simp only [PyData.hasDictAll, a.nd, b.nd, Bool.or_self]
    · simp only [PyData.leavesShortAll, a.lf, b.lf, Bool.and_self]
    · simp only [PyData.weightAll, List.length_cons]
      have e : (n + 1) * (ds.length + 1) = (n + 1) * ds.length + (n + 1) := Nat.mul_succ ..
      omega
    · simp only [PyData.canLayAll0, a.lay, b.lay, Bool.and_self]
    · simp only [PyData.depthAll]
      have := b.dp
      omega
theorem NiceWs.tup {n k : Nat} {ds : List PyData} (h : NiceWs n k ds) (hk : k < 10) : NiceW ((n + 1) * ds.length) (.tuple ds) := by
  have := h.dp
  refine ⟨by simp only [PyData.showable, h.sh], by simp only [PyData.hasDict, h.nd], by simp only [PyData.leavesShort, h.lf], by simp only [PyData.weight]; exact h.wt, by simp only [PyData.canLay0, h.lay], ?_⟩
  simp only [PyData.depth]
  omega
theorem NiceWs.lst {n k : Nat} {ds : List PyData} (h : NiceWs n k ds) (hk : k < 10) : NiceW ((n + 1) * ds.length) (.list ds) := by
  have := h.dp
  refine ⟨by simp only [PyData.showable, h.sh], by simp only [PyData.hasDict, h.nd], by simp only [PyData.leavesShort, h.lf], by simp only [PyData.weight]; exact h.wt, by simp only [PyData.canLay0, h.lay], ?_⟩
  simp only [PyData.depth]
  omega
theorem niceW_int {i : Int} (h : i.natAbs < 2 ^ 250) : NiceW 250 (.int i) := by
  have q := nice_int h
  have l := log_of (by decide) h
  exact ⟨q.sh, q.nd, q.lf, by simp only [PyData.weight]; split <;> omega, q.lay, by simp [PyData.depth]⟩
theorem strOk_tag {z : Str} (h : TagOk z) : PyData.strOk z = true := by
  unfold PyData.strOk
  rw [Array.all_eq_true']
  intro c m
  have := tag_lt h c (Array.mem_toList_iff.mpr m)
  simp
  omega
theorem niceW_tag {z : Str} (h : TagOk z) : NiceW 8 (.str z) := by
  refine ⟨by simp only [PyData.showable], by simp only [PyData.hasDict], ?_, by simp only [PyData.weight]; exact h.1, ?_, by simp [PyData.depth]⟩
  · simp only [PyData.leavesShort, List.all_eq_true, decide_eq_true_eq]
    intro c m
    have := tag_lt h c m
    omega
  · simp only [PyData.canLay0]
    exact strOk_tag h
theorem niceW_lay {l : Lay} (h : LayOk l) : NiceW 502 (layD l) := by
  have q := niceWs (n := 250) (k := 0) (ds := [.str l.1, .int l.2]) fun d m => by
    rcases List.mem_cons.mp m with e | m
    · rw [e]
      have := niceW_tag h.1
      exact ⟨⟨this.sh, this.nd, this.lf, by have := this.wt; omega, this.lay, this.dp⟩, by simp [PyData.depth]⟩
    · rw [List.mem_singleton.mp m]
      exact ⟨niceW_int h.2, by simp [PyData.depth]⟩
  exact q.tup (by decide)
theorem nice_row {ls : List Lay} (n : ls.length ≤ 60) (h : ∀ l ∈ ls, LayOk l) : Nice (rowD ls) := by
  have q := niceWs (n := 502) (k := 1) (ds := ls.map layD) fun d m => by
    obtain ⟨l, ml, rfl⟩ := List.mem_map.mp m
    exact ⟨niceW_lay (h l ml), by simp [layD, PyData.depth, PyData.depthAll]⟩
  refine (q.tup (by decide)).nice ?_
  rw [List.length_map]
  omega
theorem nice_ints {ns : List Int} (n : ns.length ≤ 100) (h : ∀ i ∈ ns, i.natAbs < 2 ^ 250) : Nice (.list (ns.map PyData.int)) := by
  have q := niceWs (n := 250) (k := 0) (ds := ns.map PyData.int) fun d m => by
    obtain ⟨l, ml, rfl⟩ := List.mem_map.mp m
    exact ⟨niceW_int (h l ml), by simp [PyData.depth]⟩
  refine (q.lst (by decide)).nice ?_
  rw [List.length_map]
  omega
theorem row_inv {K : PySem.W.Frag} {H : Hp} {v : V} {ls : List Lay} (h : Dp K H v (rowD ls)) : ∃ a xs, v = .ref a ∧ SqT K H a xs ∧ DpAll K H xs (ls.map layD) := Dp.tupInv h
theorem lay_inv {K : PySem.W.Frag} {H : Hp} {v : V} {l : Lay} (h : Dp K H v (layD l)) : ∃ a, v = .ref a ∧ SqT K H a [.str l.1, .int l.2] := by
  obtain ⟨a, xs, e, s, al⟩ := Dp.tupInv h
  cases al with
  | cons h1 h2 =>
    cases h2 with
    | cons h2 h3 =>
      cases h3
      cases h1
      cases h2
      exact ⟨a, e, s⟩
theorem lays_get {K : PySem.W.Frag} {H : Hp} {xs : List V} {ls : List Lay} {i : Nat} {v : V} (h : DpAll K H xs (ls.map layD)) (e : xs[i]? = some v) :
    ∃ l a, ls[i]? = some l ∧ v = .ref a ∧ SqT K H a [.str l.1, .int l.2] ∧ Dp K H v (layD l) := by
  obtain ⟨d, q, k⟩ := DpAll.get h e
  rw [List.getElem?_map] at q
  cases w : ls[i]? with
  | none => rw [w] at q; cases q
  | some l =>
    rw [w] at q
    obtain rfl : layD l = d := Option.some.inj q
    obtain ⟨a, e2, s⟩ := lay_inv k
    exact ⟨l, a, rfl, e2, s, k⟩
theorem lay_mk {K : PySem.W.Frag} {H : Hp} {a : Addr} {l : Lay} (h : SqT K H a [.str l.1, .int l.2]) : Dp K H (.ref a) (layD l) := .tup h (.cons (.str _) (.cons (.int _) .nil))
/-! ### calls of the text's defs -/
section
variable {P : Program} {w : World} {K : PySem.W.Frag} {mg : Str → Option Value} {base : Heap}
structure Has (P : Program) (w : World) (K : PySem.W.Frag) (mg : Str → Option Value) (base : Heap) (x : Str) (k : Nat) (ps : List Str) (sp : Sp) : Prop where
  ex : ∃ f fd, FnOk P w K mg base CX0 k f fd ps sp ∧ mg x = some (.ref f) ∧ PySem.W.keepIn K (.ref f) = true ∧ Binds K fd ps []
structure HasG (P : Program) (w : World) (K : PySem.W.Frag) (mg : Str → Option Value) (base : Heap) (x : Str) (k : Nat) (ps : List Str) (sp : Sp) : Prop where
  ex : ∃ f fd, GOk P w K mg base CX0 k f fd ps sp ∧ mg x = some (.ref f) ∧ PySem.W.keepIn K (.ref f) = true ∧ Binds K fd ps []
end
theorem callH {X : Cx} {k j : Nat} {ps : List Str} {sp : Sp} {x : Str} {p pos : Pos} {e : Expr} {es : List Expr} {t : TA} (C : Has X.prog X.w X.K X.mg X.base x k ps sp) (hr : Room j X.A)
    (hg : Gl X x) (ha : PA X (e :: es) t) (hk : k ≤ j := by decide) (hdb : (x == ("__debug__" : Str)) = false := by decide) (he : starEach (e :: es) X.env = (false, eval e X.env) :: starEach es X.env := by rfl)
    (hpl : (backTo pos (starEach es X.env)).any (·.1) = false := by rfl) : PE X (.Call (.Name x p) (e :: es) [] pos) (tCall sp [] E0 t) := by
  obtain ⟨f, fd, F, hm, kp, hb⟩ := C.ex
  exact pe_call F (hr.mono hk) hg hm kp hb .nil pass0 ha hdb he hpl
theorem callHG {X : Cx} {k j : Nat} {ps : List Str} {sp : Sp} {x : Str} {p pos : Pos} {e : Expr} {es : List Expr} {t : TA} (C : HasG X.prog X.w X.K X.mg X.base x k ps sp) (hr : Room j X.A)
    (gd : X.A.guards = some []) (hg : Gl X x) (ha : PA X (e :: es) t) (hk : k ≤ j := by decide) (hdb : (x == ("__debug__" : Str)) = false := by decide) (he : starEach (e :: es) X.env = (false, eval e X.env) :: starEach es X.env := by rfl)
    (hpl : (backTo pos (starEach es X.env)).any (·.1) = false := by rfl) : PE X (.Call (.Name x p) (e :: es) [] pos) (tCall sp [] E0 t) := by
  obtain ⟨f, fd, F, hm, kp, hb⟩ := C.ex
  exact callG F (hr.mono hk) gd hg hm kp hb .nil pass0 ha hdb he hpl
end Fd
namespace Fd
open PySem PySem.Spec PyProof.Rows L2
section
variable {CX : CXT} {P : Program} {w : World} {K : PySem.W.Frag} {mg : Str → Option Value} {base : Heap} {N : List Str} {qual : Str} {sc : Scope} {f : Addr} {cd : Value} {A : Around} {outer : List Env} {s : Shared} {H : Hp} {E : XK} {X : Cx}
theorem cxK : (cxOf CX P w K mg base N qual sc f cd A outer s H E).K = K := rfl
theorem noxK : (X.nox).K = X.K := rfl
theorem startDef {N : List Str} {vs : List V} : L2.start N vs = vs.map some ++ List.replicate (N.length - vs.length) none := rfl
end
end Fd
namespace Fd
open PySem PySem.Spec PyProof.Rows L2
section
variable {H H1 : Hp} {p t : Addr} {o : HO} {a b : Int}
theorem St.potSet (s : St (some p) H H1) : St (some p) H (upd H1 p (.lst [.int a, .int b])) :=
  ⟨fun c u n e => by rw [upd_ne (fun z => n (by rw [z]))]; exact s.same c u n e, fun q e => by cases e; exact ⟨a, b, upd_same⟩⟩
theorem Pot.potO (h : Pot H p) : PotO (some p) H := potS h
theorem Pot.rfl (h : Pot H p) : St (some p) H H := St.refl (potS h)
theorem Pot.ne (h : Pot H p) (e : H t = none) : t ≠ p := fun z => (potS h).ne e (by rw [z])
theorem St.pt (s : St (some p) H H1) : Pot H1 p := s.pot p _root_.rfl
end
end Fd
namespace Fd
open PySem PySem.Spec PyProof.Rows L2
/-! ### readings of comprehensions and loops, kept folded -/
def LcK (J : It) (g : TG) (tt : TT) (te : TE) (vs : List Nat) (σ : L2.St) (Q : VK) (H1 : Hp) : Prop := ∀ D, H1 D = none → ∃ W : Nat → Nat → Hp → Prop, (∃ m, W 0 m (upd H1 D (.lst []))) ∧ ∀ i m H, W i m H →
  (J.stop i H ∧ Q (.ref D) H) ∨ (J.go i H ∧ ∃ Nx : Hp → Prop, (∀ H', Nx H' → ∃ m', m' < m ∧ W (i + 1) m' H') ∧ ∀ x H', J.yld i H x H' → g x (wipe σ vs) H' fun σ2 H2 => wipe σ2 vs = wipe σ vs ∧ tt σ2 H2 fun b H3 =>
    if b = true then te σ2 H3 fun y H4 => ∃ acc, H4 D = some (.lst acc) ∧ acc.length < sizeLine ∧ Nx (upd H4 D (.lst (acc ++ [y]))) else Nx H3)
theorem tLcE {wi : TI} {g : TG} {tt : TT} {te : TE} {vs : List Nat} {σ : L2.St} {H : Hp} {Q : VK} : tLc wi g tt te vs σ H Q = wi σ H fun J H1 => LcK J g tt te vs σ Q H1 := rfl
def ForK (J : It) (g : TG) (tb : TS) (D : Ends) (σ : L2.St) (H1 : Hp) : Prop := ∃ W : Nat → Nat → L2.St → Hp → Prop, (∃ m, W 0 m σ H1) ∧ ∀ i m σ H, W i m σ H →
  (J.stop i H ∧ D.nx σ H) ∨ (J.go i H ∧ ∃ N : L2.St → Hp → Prop, (∀ σ' H', N σ' H' → ∃ m', m' < m ∧ W (i + 1) m' σ' H') ∧ ∀ x H', J.yld i H x H' → g x σ H' fun σ2 H2 => tb { D with nx := N, ct := N, bk := D.nx } σ2 H2)
theorem tForE {wi : TI} {g : TG} {tb : TS} {D : Ends} {σ : L2.St} {H : Hp} : tFor wi g tb D σ H = wi σ H fun J H1 => ForK J g tb D σ H1 := rfl
section
variable {K : PySem.W.Frag} {J : It} {n : Nat} {G : Hp → Prop} {Y : Nat → Hp → V → Hp → Prop} {g : TG} {tt : TT} {te : TE} {vs : List Nat} {σ : L2.St} {H1 : Hp} {Q : VK}
/-- over a range, the target a name, no test -/
theorem lcRng {lo : Int} {j : Nat} (p : Option Addr) (R : Nat → List PyData → Prop) (hp : PotO p H1) (hn : n ≤ 1000000) (r0 : R 0 []) (hw : ∀ x, wipe ((wipe σ vs).set j (some x)) vs = wipe σ vs)
    (step : ∀ i Ha ds (C : V → Hp → Prop), i < n → St p H1 Ha → flatTs ds = true → R i ds →
      (∀ y H4 d, St p Ha H4 → flatT d = true → Dp K H4 y d → R (i + 1) (ds ++ [d]) → C y H4) → te ((wipe σ vs).set j (some (.int (lo + i)))) Ha C)
    (done : ∀ D acc ds H', H1 D = none → St p H1 H' → H' D = some (.lst acc) → flatTs ds = true → DpAll K H' acc ds → R n ds → Q (.ref D) H') : LcK (Itr lo n) (gName j) tYes te vs σ Q H1 := by
  refine lcW walk_range p R hp (fun _ _ => trivial) hn r0 ?_ done
  rintro i x Ha H' ds C N hi s fl r ⟨rfl, rfl⟩ k _
  exact ⟨hw _, step i _ ds C hi s fl r k⟩
/-- over a tuple, the target a name -/
theorem lcTup {a : Addr} {xs : List V} {j : Nat} (p : Option Addr) (R : Nat → List PyData → Prop) (hp : PotO p H1) (hx : SqT K H1 a xs) (hn : xs.length ≤ 1000000) (r0 : R 0 []) (hw : ∀ x, wipe ((wipe σ vs).set j (some x)) vs = wipe σ vs)
    (step : ∀ i x Ha ds (C : V → Hp → Prop) (N : Hp → Prop), xs[i]? = some x → St p H1 Ha → flatTs ds = true → R i ds →
      (∀ y H4 d, St p Ha H4 → flatT d = true → Dp K H4 y d → R (i + 1) (ds ++ [d]) → C y H4) → (∀ H3, St p Ha H3 → R (i + 1) ds → N H3) →
      tt ((wipe σ vs).set j (some x)) Ha fun b H3 => if b = true then te ((wipe σ vs).set j (some x)) H3 C else N H3)
    (done : ∀ D acc ds H', H1 D = none → St p H1 H' → H' D = some (.lst acc) → flatTs ds = true → DpAll K H' acc ds → R xs.length ds → Q (.ref D) H') : LcK (Itt K a) (gName j) tt te vs σ Q H1 := by
  refine lcW walk_tup p R hp (fun H s => St.tup hp s hx) hn r0 ?_ done
  rintro i x Ha H' ds C N hi s fl r ⟨rfl, e⟩ k k2
  exact ⟨hw _, step i x _ ds C N e s fl r k k2⟩
/-- over a list that is not the pot, the target a name -/
theorem lcLst {a : Addr} {xs : List V} {j : Nat} (p : Option Addr) (R : Nat → List PyData → Prop) (hp : PotO p H1) (hx : SqL K H1 a xs) (ne : some a ≠ p) (hn : xs.length ≤ 1000000) (r0 : R 0 []) (hw : ∀ x, wipe ((wipe σ vs).set j (some x)) vs = wipe σ vs)
    (step : ∀ i x Ha ds (C : V → Hp → Prop) (N : Hp → Prop), xs[i]? = some x → St p H1 Ha → flatTs ds = true → R i ds →
      (∀ y H4 d, St p Ha H4 → flatT d = true → Dp K H4 y d → R (i + 1) (ds ++ [d]) → C y H4) → (∀ H3, St p Ha H3 → R (i + 1) ds → N H3) →
      tt ((wipe σ vs).set j (some x)) Ha fun b H3 => if b = true then te ((wipe σ vs).set j (some x)) H3 C else N H3)
    (done : ∀ D acc ds H', H1 D = none → St p H1 H' → H' D = some (.lst acc) → flatTs ds = true → DpAll K H' acc ds → R xs.length ds → Q (.ref D) H') : LcK (Itl K a) (gName j) tt te vs σ Q H1 := by
  refine lcW walk_list p R hp (fun H s => St.frzL hp s ne hx) hn r0 ?_ done
  rintro i x Ha H' ds C N hi s fl r ⟨rfl, e⟩ k k2
  exact ⟨hw _, step i x _ ds C N e s fl r k k2⟩
/-- over a text, the target a name, no test -/
theorem lcStr {z : Str} {j : Nat} (p : Option Addr) (R : Nat → List PyData → Prop) (hp : PotO p H1) (hn : z.cps.size ≤ 1000000) (r0 : R 0 []) (hw : ∀ x, wipe ((wipe σ vs).set j (some x)) vs = wipe σ vs)
    (step : ∀ i c Ha ds (C : V → Hp → Prop), z.cps[i]? = some c → St p H1 Ha → flatTs ds = true → R i ds →
      (∀ y H4 d, St p Ha H4 → flatT d = true → Dp K H4 y d → R (i + 1) (ds ++ [d]) → C y H4) → te ((wipe σ vs).set j (some (.str ⟨#[c]⟩))) Ha C)
    (done : ∀ D acc ds H', H1 D = none → St p H1 H' → H' D = some (.lst acc) → flatTs ds = true → DpAll K H' acc ds → R z.cps.size ds → Q (.ref D) H') : LcK (Its z) (gName j) tYes te vs σ Q H1 := by
  refine lcW walk_str p R hp (fun _ _ => trivial) hn r0 ?_ done
  rintro i x Ha H' ds C N hi s fl r ⟨rfl, c, e, rfl⟩ k _
  exact ⟨hw _, step i c _ ds C e s fl r k⟩
theorem forRng {lo : Int} {j : Nat} {tb : TS} {D : Ends} (Pv : Nat → L2.St → Hp → Prop) (h0 : Pv 0 σ H1)
    (hs : ∀ i σ H, i < n → Pv i σ H → tb { D with nx := Pv (i + 1), ct := Pv (i + 1), bk := D.nx } (σ.set j (some (.int (lo + i)))) H) (hd : ∀ σ H, Pv n σ H → D.nx σ H) : ForK (Itr lo n) (gName j) tb D σ H1 :=
  for_it walk_range Pv h0 (fun _ _ _ _ _ => trivial) (by
    rintro i x σ H H' hi p ⟨rfl, rfl⟩
    exact hs i σ _ hi p) hd
theorem forTup {a : Addr} {xs : List V} {tb : TS} {D : Ends} (Pv : Nat → L2.St → Hp → Prop) (h0 : Pv 0 σ H1) (hG : ∀ i σ H, i ≤ xs.length → Pv i σ H → SqT K H a xs)
    (hs : ∀ i x σ H, xs[i]? = some x → Pv i σ H → g x σ H fun σ2 H2 => tb { D with nx := Pv (i + 1), ct := Pv (i + 1), bk := D.nx } σ2 H2) (hd : ∀ σ H, Pv xs.length σ H → D.nx σ H) : ForK (Itt K a) g tb D σ H1 :=
  for_it walk_tup Pv h0 hG (by
    rintro i x σ H H' hi p ⟨rfl, e⟩
    exact hs i x σ _ e p) hd
theorem forLst {a : Addr} {xs : List V} {tb : TS} {D : Ends} (Pv : Nat → L2.St → Hp → Prop) (h0 : Pv 0 σ H1) (hG : ∀ i σ H, i ≤ xs.length → Pv i σ H → SqL K H a xs)
    (hs : ∀ i x σ H, xs[i]? = some x → Pv i σ H → g x σ H fun σ2 H2 => tb { D with nx := Pv (i + 1), ct := Pv (i + 1), bk := D.nx } σ2 H2) (hd : ∀ σ H, Pv xs.length σ H → D.nx σ H) : ForK (Itl K a) g tb D σ H1 :=
  for_it walk_list Pv h0 hG (by
    rintro i x σ H H' hi p ⟨rfl, e⟩
    exact hs i x σ _ e p) hd
end
/-! ### texts of small letters -/
def Letter (c : Nat) : Prop := 97 ≤ c ∧ c ≤ 122
abbrev sgn (c : Nat) : Str := ⟨#[c]⟩
theorem cps_join : ∀ cs : List Nat, (Str.join "" (cs.map sgn)).cps.toList = cs
  | [] => by decide
  | [c] => rfl
  | c :: d :: r => by
    have ih := cps_join (d :: r)
    show ((sgn c ++ Str.ofString "" ++ Str.join "" ((d :: r).map sgn)) : Str).cps.toList = c :: d :: r
    have e : ∀ x y : Str, (x ++ y).cps.toList = x.cps.toList ++ y.cps.toList := fun x y => TL.tl_append x y
    rw [e, e, ih]
    rfl
theorem tag_join {cs : List Nat} (n : cs.length ≤ 8) (h : ∀ c ∈ cs, Letter c) : TagOk (Txt.join "" (cs.map sgn)) := by
  have e : Txt.join "" (cs.map sgn) = Str.join "" (cs.map sgn) := StrLaws.glued_eq_join _ _
  rw [e]
  have q := cps_join cs
  refine ⟨?_, ?_⟩
  · show (Str.join "" (cs.map sgn)).cps.size ≤ 8
    rw [← Array.length_toList, q]
    exact n
  · rw [q]
    exact h
theorem sgns_sum : ∀ cs : List Nat, ((cs.map sgn).map (·.length)).sum = cs.length
  | [] => rfl
  | c :: r => by
    rw [List.map_cons, List.map_cons, List.sum_cons, sgns_sum r, List.length_cons]
    have : (sgn c).length = 1 := rfl
    omega
def abc : Str := "abcdefghijklmnopqrstuvwxyz"
theorem abc_cps : abc.cps.toList = (List.range 26).map (· + 97) := by decide +kernel
theorem abc_at {i : Nat} (h : i < 26) : abc.cps.toList[i]? = some (i + 97) := by
  rw [abc_cps, List.getElem?_map, List.getElem?_range h]
  rfl
theorem abc_len : abc.length = 26 := by decide +kernel
end Fd
namespace Fd
open PySem PySem.Spec PyProof.Rows L2
/-! ### the layer's rules with the written part told -/
def rLenK (K : PySem.W.Frag) : List V → Hp → VK → Prop := fun xs H Q => ∃ p ys, xs = [.ref p] ∧ (SqL K H p ys ∨ SqT K H p ys) ∧ Q (.int ys.length) H
def rTupK (K : PySem.W.Frag) : List V → Hp → VK → Prop := fun xs H Q => ∃ p ys, xs = [.ref p] ∧ ((SqL K H p ys ∧ ∀ l, H l = none → Q (.ref l) (upd H l (.tup ys))) ∨ (SqT K H p ys ∧ Q (.ref p) H))
def rLstK (K : PySem.W.Frag) : List V → Hp → VK → Prop := fun xs H Q => ∃ p ys, xs = [.ref p] ∧ (SqL K H p ys ∨ SqT K H p ys) ∧ ∀ l, H l = none → Q (.ref l) (upd H l (.lst ys))
def rReprK (K : PySem.W.Frag) : List V → Hp → VK → Prop := fun xs H Q => ∃ v d, xs = [v] ∧ Dp K H v d ∧ Nice d ∧ Q (.str d.shown) H
section
variable {X : Cx} {K : PySem.W.Frag} (h : X.K = K)
include h
theorem k_len : CallR X (.builtin "len") (rLenK K) := h ▸ call_len_seq
theorem k_tup : CallR X (.type "tuple") (rTupK K) := h ▸ call_tuple_of
theorem k_lst : CallR X (.type "list") (rLstK K) := h ▸ call_list_of
theorem k_repr (gd : X.A.guards = some []) (hu : X.A.units + 70 < cLine) : CallR X (.builtin "repr") (rReprK K) := h ▸ call_reprD gd hu
theorem k_eqD (hu : X.A.units + 64 < cLine) : OpR X (compareOp .Eq) (rEqD K) := h ▸ op_eqD hu
theorem k_neD (hu : X.A.units + 64 < cLine) : OpR X (compareOp .NotEq) (rNeD K) := h ▸ op_neD hu
theorem k_in : OpR X (compareOp .In) (rIn K false) := h ▸ op_in_seq
theorem k_notIn : OpR X (compareOp .NotIn) (rIn K true) := h ▸ op_notIn_seq
theorem k_ixL : IxR X (rIxL K) := h ▸ ix_list
theorem k_ixT : IxR X (rIxT K) := h ▸ ix_tup
theorem k_all (hc : X.calm = true) : CallR X (.builtin "all") (rAll K) := h ▸ cr_all hc
end
end Fd
namespace Fd
open PySem PySem.Spec PyProof.Rows L2
/-! ### names that are not there yet -/
def cand (z : Str) (c : Nat) : Str := cutS z none (some 7) ++ sgn c
theorem cut_cps (z : Str) : (cutS z none (some 7)).cps.toList = z.cps.toList.take 7 := by
  have e7 : HT.sIx z.length z.length (some (7 : Int)) = min 7 z.length := HT.sIx_nat z.length z.length 7
  have hl : z.length = z.cps.toList.length := by simp [Str.length]
  show ((z.cps.toList.drop (HT.sIx z.length 0 none)).take (HT.sIx z.length z.length (some 7) - HT.sIx z.length 0 none)) = _
  rw [HT.sIx_none, e7, hl]
  simp only [List.drop_zero, Nat.sub_zero]
  rw [Nat.min_comm]
  exact (List.take_eq_take_iff.mpr (by omega))
theorem cand_cps (z : Str) (c : Nat) : (cand z c).cps.toList = z.cps.toList.take 7 ++ [c] := by
  have e : ∀ x y : Str, (x ++ y).cps.toList = x.cps.toList ++ y.cps.toList := fun x y => TL.tl_append x y
  unfold cand
  rw [e, cut_cps]
theorem cand_tag {z : Str} {c : Nat} (h : TagOk z) (hc : Letter c) : TagOk (cand z c) := by
  refine ⟨?_, ?_⟩
  · show (cand z c).cps.size ≤ 8
    rw [← Array.length_toList, cand_cps, List.length_append, List.length_take]
    simp
    omega
  · rw [cand_cps]
    intro d m
    rcases List.mem_append.mp m with m | m
    · exact h.2 d (List.mem_of_mem_take m)
    · rw [List.mem_singleton.mp m]
      exact hc
theorem cand_inj {z : Str} {c d : Nat} (h : cand z c = cand z d) : c = d := by
  have e := congrArg (fun s : Str => s.cps.toList) h
  simp only [cand_cps] at e
  have e2 := List.append_cancel_left e
  simpa using e2
theorem pigeon {α : Type} [DecidableEq α] : ∀ (zs l : List α), l.Nodup → (∀ x ∈ l, x ∈ zs) → l.length ≤ zs.length
  | [], l, _, h => by
    cases l with
    | nil => exact Nat.le_refl _
    | cons x r => exact absurd (h x (List.mem_cons_self ..)) (by simp)
  | z :: zs, l, nd, h => by
    have ih := pigeon zs (l.filter fun x => decide (x ≠ z)) (nd.sublist (List.filter_sublist)) (fun x m => by
      obtain ⟨m1, m2⟩ := List.mem_filter.mp m
      rcases List.mem_cons.mp (h x m1) with e | m3
      · exact absurd e (of_decide_eq_true m2)
      · exact m3)
    have gone : l.length ≤ (l.filter fun x => decide (x ≠ z)).length + 1 := by
      clear ih h
      induction l with
      | nil => simp
      | cons x r ihr =>
        have nd' := List.nodup_cons.mp nd
        by_cases e : x = z
        · have same : r.filter (fun x => decide (x ≠ z)) = r := List.filter_eq_self.mpr fun y my => decide_eq_true fun q => nd'.1 (by rw [e, ← q]; exact my)
          rw [List.filter_cons, if_neg (by simp [e]), same]
          simp
        · rw [List.filter_cons, if_pos (by simpa using e)]
          have := ihr nd'.2
          simp only [List.length_cons]
          omega
    rw [List.length_cons]
    omega
/-- the names to choose from -/
def cands (z : Str) : List Str := z :: ((List.range 26).map fun c => cand z (c + 97))
theorem cands_tag {z : Str} (h : TagOk z) : ∀ x ∈ cands z, TagOk x := fun x m => by
  rcases List.mem_cons.mp m with e | m
  · exact e ▸ h
  · obtain ⟨c, mc, rfl⟩ := List.mem_map.mp m
    have := List.mem_range.mp mc
    exact cand_tag h ⟨by omega, by omega⟩
def notIn (zs : List Str) (x : Str) : Bool := !inV (V.str x) (zs.map V.str)
theorem inV_strs (zs : List Str) (x : Str) : inV (V.str x) (zs.map V.str) = decide (x ∈ zs) := by
  unfold inV
  induction zs with
  | nil => simp
  | cons z r ih =>
    rw [List.map_cons, List.any_cons, ih]
    have e : eqV (V.str z) (V.str x) = (z == x) := rfl
    rw [e]
    by_cases q : z = x
    · subst q
      simp
    · have q2 : x ≠ z := fun w => q w.symm
      simp [q, q2]
theorem left_some {z : Str} {zs : List Str} (n : zs.length ≤ 20) : ∃ x r, (cands z).filter (notIn zs) = x :: r := by
  cases e : (cands z).filter (notIn zs) with
  | cons x r => exact ⟨x, r, rfl⟩
  | nil =>
    have all : ∀ x ∈ (List.range 26).map (fun c => cand z (c + 97)), x ∈ zs := fun x m => by
      have q := (List.filter_eq_nil_iff.mp e) x (List.mem_cons_of_mem _ m)
      unfold notIn at q
      rw [inV_strs] at q
      simpa using q
    have nd : ((List.range 26).map (fun c => cand z (c + 97))).Nodup := by
      refine List.Pairwise.map _ (fun a b h q => h ?_) List.nodup_range
      have := cand_inj q
      omega
    have := pigeon zs _ nd all
    simp at this
    omega
end Fd
namespace Fd
open PySem PySem.Spec PyProof.Rows L2
/-! ### walks over a row of layers, the target a tag and a strength -/
section
variable {K : PySem.W.Frag} {tt : TT} {te : TE} {vs : List Nat} {σ : L2.St} {H1 : Hp} {Q : VK}
theorem lays_len {xs : List V} {ls : List Lay} (al : DpAll K H1 xs (ls.map layD)) : xs.length = ls.length := by
  rw [DpAll.len al, List.length_map]
theorem lcLay {a : Addr} {xs : List V} {ls : List Lay} {j1 j2 : Nat} (p : Option Addr) (R : Nat → List PyData → Prop) (hp : PotO p H1) (hx : SqT K H1 a xs) (al : DpAll K H1 xs (ls.map layD)) (hn : ls.length ≤ 1000000) (r0 : R 0 [])
    (hw : ∀ x y, wipe (((wipe σ vs).set j1 (some x)).set j2 (some y)) vs = wipe σ vs)
    (step : ∀ i l Ha ds (C : V → Hp → Prop) (N : Hp → Prop), ls[i]? = some l → St p H1 Ha → flatTs ds = true → R i ds →
      (∀ y H4 d, St p Ha H4 → flatT d = true → Dp K H4 y d → R (i + 1) (ds ++ [d]) → C y H4) → (∀ H3, St p Ha H3 → R (i + 1) ds → N H3) →
      tt (((wipe σ vs).set j1 (some (.str l.1))).set j2 (some (.int l.2))) Ha fun b H3 => if b = true then te (((wipe σ vs).set j1 (some (.str l.1))).set j2 (some (.int l.2))) H3 C else N H3)
    (done : ∀ D acc ds H', H1 D = none → St p H1 H' → H' D = some (.lst acc) → flatTs ds = true → DpAll K H' acc ds → R ls.length ds → Q (.ref D) H') :
    LcK (Itt K a) (gTup K 2 (gCons (gName j1) (gCons (gName j2) gNil))) tt te vs σ Q H1 := by
  have len := lays_len al
  refine lcW walk_tup p R hp (fun H s => St.tup hp s hx) (by omega) r0 ?_ (by rw [len]; exact done)
  rintro i x Ha H' ds C N hi s fl r ⟨rfl, e⟩ k k2
  obtain ⟨l, b, q, rfl, sq, _⟩ := lays_get al e
  exact ⟨_, _, rfl, St.tup hp s sq, rfl, _, _, rfl, _, _, rfl, rfl, hw _ _, step i l _ ds C N q s fl r k k2⟩
theorem forLay {a : Addr} {xs : List V} {ls : List Lay} {j1 j2 : Nat} {tb : TS} {D : Ends} (Pv : Nat → L2.St → Hp → Prop) (h0 : Pv 0 σ H1)
    (hG : ∀ i σ H, i ≤ ls.length → Pv i σ H → SqT K H a xs ∧ DpAll K H xs (ls.map layD)) (al : DpAll K H1 xs (ls.map layD))
    (hs : ∀ i l σ H, ls[i]? = some l → Pv i σ H → tb { D with nx := Pv (i + 1), ct := Pv (i + 1), bk := D.nx } ((σ.set j1 (some (.str l.1))).set j2 (some (.int l.2))) H)
    (hd : ∀ σ H, Pv ls.length σ H → D.nx σ H) : ForK (Itt K a) (gTup K 2 (gCons (gName j1) (gCons (gName j2) gNil))) tb D σ H1 := by
  have len := lays_len al
  refine for_it walk_tup Pv h0 (fun i σ H hi p => (hG i σ H (by omega) p).1) ?_ (by rw [len]; exact hd)
  rintro i x σ H H' hi p ⟨rfl, e⟩
  obtain ⟨sx, al'⟩ := hG i σ _ (by omega) p
  obtain ⟨l, b, q, rfl, sq, _⟩ := lays_get al' e
  exact ⟨_, _, rfl, sq, rfl, _, _, rfl, _, _, rfl, rfl, hs i l σ _ q p⟩
end
/-! ### rows weaker and stronger -/
def pos (l : Lay) : Bool := decide (0 < l.2)
def addL (ls : List Lay) (n : Int) : List Lay := ls.map fun l => (l.1, l.2 + n)
def weakL (ls : List Lay) (n : Int) : List Lay := (addL ls (-n)).filter pos
theorem take_succ_map {α β : Type} (f : α → β) (ls : List α) {i : Nat} {l : α} (h : ls[i]? = some l) : (ls.take (i + 1)).map f = (ls.take i).map f ++ [f l] := by
  rw [List.take_add_one, h, List.map_append]
  rfl
theorem take_succ_filter {α : Type} (f : α → Bool) (ls : List α) {i : Nat} {l : α} (h : ls[i]? = some l) : (ls.take (i + 1)).filter f = (ls.take i).filter f ++ (if f l = true then [l] else []) := by
  rw [List.take_add_one, h, List.filter_append]
  congr 1
  show [l].filter f = _
  rw [List.filter_cons]
  split <;> rfl
theorem weak_strong {ls : List Lay} {n : Int} (h : ∀ l ∈ ls, 0 < l.2) : weakL (addL ls n) n = ls := by
  unfold weakL addL
  rw [List.map_map]
  have e : (ls.map ((fun l : Lay => (l.1, l.2 + -n)) ∘ fun l : Lay => (l.1, l.2 + n))) = ls := by
    conv => rhs; rw [← List.map_id ls]
    refine List.map_congr_left fun l _ => ?_
    show (l.1, l.2 + n + -n) = l
    rw [Int.add_neg_cancel_right]
  rw [e]
  exact List.filter_eq_self.mpr fun l m => decide_eq_true (h l m)
theorem weak_zero {ls : List Lay} (h : ∀ l ∈ ls, 0 < l.2) : weakL ls 0 = ls := by
  unfold weakL addL
  have e : (ls.map fun l : Lay => (l.1, l.2 + -0)) = ls := by
    conv => rhs; rw [← List.map_id ls]
    refine List.map_congr_left fun l _ => ?_
    show (l.1, l.2 + -0) = l
    rw [Int.neg_zero, Int.add_zero]
  rw [e]
  exact List.filter_eq_self.mpr fun l m => decide_eq_true (h l m)
theorem strong_all {ls : List Lay} {n : Int} (h : ∀ l ∈ ls, 0 < l.2) (hn : 0 ≤ n) : (addL ls n).filter pos = addL ls n := by
  refine List.filter_eq_self.mpr fun l m => decide_eq_true ?_
  obtain ⟨x, mx, rfl⟩ := List.mem_map.mp m
  have := h x mx
  show 0 < x.2 + n
  omega
theorem eqvAll_nil (ds : List PyData) : PyData.eqvAll ds [] = ds.isEmpty := by
  cases ds <;> simp [PyData.eqvAll]
end Fd
namespace Fd
open PySem PySem.Spec PyProof.Rows L2
/-- what is done to a pot that is newer leaves all that stood before -/
theorem St.back {H H1 H2 : Hp} {p : Addr} (s : Same H H1) (n : H p = none) (x : St (some p) H1 H2) : Same H H2 := fun b o e =>
  x.same b o (fun z => by
    cases z
    rw [n] at e
    cases e) (s b o e)
theorem eqv_row {ls : List Lay} {n : Nice (rowD ls)} : PyData.eqv (rowD ls) (rowD ls) = true := n.refl
end Fd
namespace Fd
open PySem PySem.Spec PyProof.Rows L2
theorem dpSame {K : PySem.W.Frag} {H H1 : Hp} {v : V} {d : PyData} (s : Same H H1) (z : flatT d = true) (k : Dp K H v d) : Dp K H1 v d := dpSt potN (St.ofSame potN s) z k
end Fd

namespace Fd
open PySem PySem.Spec PyProof.Rows L2
/-! ### enumerate of a tuple -/
def tItO (a : Addr) : Obj := { cls := .type "tuple_iterator", data := .fields #[.ref a, .int 0 0] }
def eNuO (it : Addr) : Obj := { cls := .type "enumerate", data := .fields #[.none, .bool false, .ref it, rawInt 0, .none, .none] }
theorem newEnum (a : Addr) (items : Array Value) : Meets (Builtin.«enumerate.__new__» ⟨[.type "enumerate", .ref a], []⟩) fun _ R s =>
    s.heap.IsTuple a items ∧ R (.ok (.ret (.ref (s.heap.push (tItO a)).objs.size))) { s with heap := (s.heap.push (tItO a)).push (eNuO s.heap.objs.size) } := by
  refine .of_wp ?_
  intro prog w A R s h
  obtain ⟨hp, gs, dr, tk, os⟩ := s
  obtain ⟨tup, want⟩ := h
  have sub := sub_enumerate
  have go : ∀ {A' : Around} {E : Value → Shared → Prop} {Q : Value → Shared → Prop}, Q (.ref hp.objs.size) ⟨hp.push (tItO a), gs, dr, tk, os⟩ →
      wpAny (model prog w) A' (pyIter (.ref a)) Q E ⟨hp, gs, dr, tk, os⟩ := fun q => wpAny_pyIter_tuple tup q
  wp_walk using go
  refine wpAny_stack_any fun st => wpAny_pure ?_
  split
  · rename_i c _ _ _ _ _
    cases (c == Value.type "enumerate") <;> (wp_walk using go; exact ⟨_, rfl, want⟩)
  · wp_walk using go
    exact ⟨_, rfl, want⟩
theorem callEnumT {prog : Program} {w : World} {A : Around} {E : Value → Shared → Prop} {s : Shared} {a : Addr} {items : Array Value} {Q : Value → Shared → Prop} (ht : s.heap.IsTuple a items)
    (h : ∀ h', IsEnum h' (s.heap.objs.size + 1) s.heap.objs.size 0 .none → h'.IsTupleIter s.heap.objs.size a 0 → h'.objs.size = s.heap.objs.size + 2 →
      (∀ b o, s.heap.get? b = some o → h'.get? b = some o) → Q (.ref (s.heap.objs.size + 1)) { s with heap := h' }) :
    wpAny (model prog w) A (call (.type "enumerate") [.ref a]) Q E s := by
  refine callType_new F.called_enumerate (by decide) (F.typeCall_enumerate_1 _) (F.newCall_enumerate_1 _) (fun obj => F.args_object_init_2 obj _) F.entry_enumerate_new (newEnum a items) ⟨ht, ?_⟩
  have sz : (s.heap.push (tItO a)).objs.size = s.heap.objs.size + 1 := Heap.size_push ..
  show _ ∧ _
  rw [sz]
  have en : IsEnum ((s.heap.push (tItO a)).push (eNuO s.heap.objs.size)) (s.heap.objs.size + 1) s.heap.objs.size 0 .none := by
    have q := Heap.get?_push_size (s.heap.push (tItO a)) (o := eNuO s.heap.objs.size) rfl
    rw [sz] at q
    exact q
  have itr : ((s.heap.push (tItO a)).push (eNuO s.heap.objs.size)).IsTupleIter s.heap.objs.size a 0 :=
    ⟨_, Heap.get?_push_of_some _ (Heap.get?_push_size (s.heap) (o := tItO a) rfl), rfl, rfl⟩
  exact ⟨⟨_, en, rfl⟩, h _ en itr (by rw [Heap.size_push, sz]) fun b o x => Heap.get?_push_of_some _ (Heap.get?_push_of_some _ x)⟩
/-- the tuple at a, each item in a new pair with its number -/
def IteT (K : PySem.W.Frag) (a : Addr) : It :=
  ⟨fun i H => ∃ (xs : List V) (x : V), SqT K H a xs ∧ xs[i]? = some x,
    fun i H v H' => ∃ T x, v = .ref T ∧ H T = none ∧ H' = upd H T (.tup [.int (i : Nat), x]) ∧ ∀ xs, SqT K H a xs → xs[i]? = some x,
    fun i H => ∃ xs : List V, SqT K H a xs ∧ xs.length = i⟩
theorem enum_apart {h : Heap} {e it a : Addr} {c : Int} {old : Value} {i : Nat} {items : Array Value} (he : IsEnum h e it c old) (hit : h.IsTupleIter it a i) (ht : h.IsTuple a items) : a ≠ it ∧ e ≠ a := by
  obtain ⟨o, ho, hc, _⟩ := hit
  obtain ⟨u, hu, hc2, _⟩ := ht
  refine ⟨fun z => ?_, fun z => ?_⟩
  · subst z
    rw [ho] at hu
    cases hu
    rw [hc] at hc2
    exact absurd hc2 (by decide)
  · subst z
    have he' : h.get? e = some _ := he
    rw [he'] at hu
    cases hu
    have c2 : Value.type "enumerate" = Value.type "tuple" := hc2
    exact absurd c2 (by decide)
theorem turnEnumT {P : Program} {w : World} {K : PySem.W.Frag} {elts : List Expr} {kk : Nat} {tpos : Pos} (a e it : Addr) :
    Turn P w K (.Tuple elts kk tpos) (IteT K a) [e, it] e (fun i h => (∃ old, IsEnum h e it ((i : Nat) : Int) old) ∧ h.IsTupleIter it a i ∧ e ≠ it) where
  mem := by simp
  obj := by
    rintro i h ⟨⟨old, he⟩, ⟨o, ho, hc, hd⟩, _⟩ b hb
    have hb' : b = e ∨ b = it := by simpa using hb
    rcases hb' with rfl | rfl
    · exact ⟨_, he, fun v q => nomatch q⟩
    · exact ⟨o, ho, fun v q => by rw [hd] at q; cases q⟩
  keep := by
    rintro i h h' ⟨⟨old, he⟩, hi, hne⟩ k
    exact ⟨⟨old, k e (by simp) _ he⟩, hi.at fun o q => k it (by simp) o q, hne⟩
  item := by
    intro X hP hw hK hc i pins s σ H E I hf st hg
    subst hP hw hK
    obtain ⟨⟨old, he⟩, hit, hne⟩ := st
    obtain ⟨xs, x, hq, hx⟩ := hg
    obtain ⟨its, rv, p, hz⟩ := I.tuple hq
    obtain ⟨u, hu, ru⟩ := rv.get hx
    have tup : s.heap.IsTuple a its.toArray := p
    obtain ⟨n1, n2⟩ := enum_apart he hit tup
    have hel : e < s.heap.objs.size := Heap.lt_size he
    have hil : it < s.heap.objs.size := by
      obtain ⟨_, q, _⟩ := hit
      exact Heap.lt_size q
    have hil2 : i < its.toArray.size := by
      have := (List.getElem?_eq_some_iff.mp hu).1
      simpa using this
    have D := Draws.tuple (prog := X.prog) (w := X.w) (A := X.A.in1) (I.ok.hd hc) it a n1 its.toArray
    refine wpAny_pyNext_enum_itemD D he ⟨hit, tup⟩ hil2 hne (by simp [hne, n2]) fun y h' tk hy ho hst hT hsz hk => ?_
    have hy' : y = u := by
      have q : its.toArray[i]? = some u := by simpa using hu
      exact Option.some.inj (hy.symm.trans q)
    subst hy'
    refine ⟨_, rfl, wpAny_letOwnedTupleGo_enum (s := { s with heap := h', toks := tk + 1 }) ho fun h'' he' sb => ?_⟩
    have hT2 : h''.get? s.heap.objs.size = some { cls := .type "tuple", data := .seq #[.int i tk, y] } := (sb.2 _ (Nat.ne_of_gt hel)).trans hT
    have fresh : ObjOk X.prog X.w (upd H s.heap.objs.size (.tup [.int (i : Nat), x])) h'' s.heap.objs.size (.tup [.int (i : Nat), x]) :=
      ⟨by show 2 ≤ sizeLine; decide, [.int i tk, y], .cons ⟨_, rfl⟩ (.cons ru .nil), ⟨_, hT2, rfl, _, rfl⟩⟩
    have I1 : Inv X pins σ (upd H s.heap.objs.size (.tup [.int (i : Nat), x])) { s with heap := h'', toks := tk + 1 } :=
      I.turnedNew (ch := [e, it]) (fun b ob hb q => (sb.2 b (fun z => hb (by simp [z]))).trans (hk b ob (fun z => hb (by simp [z])) (fun z => hb (by simp [z])) q)) hf (Nat.le_refl _) fresh
    refine ⟨.ref s.heap.objs.size, _, I1, rfl, ⟨_, x, rfl, I.hok.fresh (Nat.le_refl _), rfl, fun ys hys => by rw [I.tuple_inj hys hq]; exact hx⟩, ⟨⟨y, ?_⟩, hst.1.at fun o q => (sb.2 it (Ne.symm hne)).trans q, hne⟩, fun b hb => ?_⟩
    · have e1 : ((i + 1 : Nat) : Int) = (i : Int) + 1 := by omega
      rw [e1]
      exact he'
    · have hb' : b = e ∨ b = it := by simpa using hb
      have lt : b < s.heap.objs.size := by rcases hb' with rfl | rfl <;> assumption
      rw [upd_ne (Nat.ne_of_lt lt)]
      exact (hf b hb).1
  done := by
    intro X hP hw hK hc i pins s σ H E I hf st hg
    subst hP hw hK
    obtain ⟨⟨old, he⟩, hit, hne⟩ := st
    obtain ⟨xs, hq, hx⟩ := hg
    obtain ⟨its, rv, p, hz⟩ := I.tuple hq
    have tup : s.heap.IsTuple a its.toArray := p
    obtain ⟨n1, n2⟩ := enum_apart he hit tup
    obtain ⟨f0, f1, f2, f3, f4, f5⟩ := hf it (by simp)
    have hl := rv.length
    have sz : its.toArray.size = i := by simp; omega
    have D := Draws.tuple (prog := X.prog) (w := X.w) (A := X.A.in1) (I.ok.hd hc) it a n1 its.toArray
    refine wpAny_pyNext_enum_endD D he ⟨sz ▸ hit, tup⟩ fun h' eb => ⟨rfl, I.turned (t' := s.toks) (fun b o hb q => eb b o hb q) f0 f1 f3 f4 f5⟩
  self := fun A i s Q E st h => by
    obtain ⟨⟨_, he⟩, _⟩ := st
    exact wpAny_pyIter_enum he h
def iEnumT (K : PySem.W.Frag) (ta : TA) : TI := fun σ H R => ta σ H fun vs H1 => ∃ a xs, vs = [.ref a] ∧ SqT K H1 a xs ∧ R (IteT K a) H1
theorem pi_enumT {X : Cx} {e : Expr} {ta : TA} {p pos tpos : Pos} {elts : List Expr} {kk : Nat} (hg : Gl X "enumerate") (hm : X.mg "enumerate" = none) (ha : PA X [e] ta) (hs : starEach [e] X.env = [(false, eval e X.env)] := by rfl) :
    PI X (.Tuple elts kk tpos) (.Call (.Name "enumerate" p) [e] [] pos) (iEnumT X.K ta) := by
  refine ⟨fun pins s σ H R I h => ?_⟩
  have start := ha.run pos pins s σ H _ I h
  refine Call_ (ld_blt I hg hm boot_enumerate (PyProof.Rows.callWith_type1 (thn start ?_) hs rfl))
  rintro us s1 ⟨vs, H1, I1, r1, a, xs, rfl, hq, q⟩
  obtain ⟨u, rfl, ru⟩ := vals1 r1
  cases ru
  obtain ⟨its, rv, tup, hz⟩ := I1.tuple hq
  refine callEnumT tup fun h' he hit hsz hk => wpAny_pyIter_enum he ?_
  have I2 : Inv X pins σ H1 { s1 with heap := h' } := I1.kept (t' := s1.toks) hk
  refine ⟨s1.heap.objs.size + 1, [s1.heap.objs.size + 1, s1.heap.objs.size], _, _, H1, rfl, I2, turnEnumT a (s1.heap.objs.size + 1) s1.heap.objs.size, ⟨⟨.none, he⟩, hit, Nat.succ_ne_self _⟩, fun b hb => ?_, q⟩
  have hb' : b = s1.heap.objs.size + 1 ∨ b = s1.heap.objs.size := by simpa using hb
  have hle : s1.heap.objs.size ≤ b := by rcases hb' with rfl | rfl <;> omega
  exact I1.fpOk (b := b) hle (I1.hok.fresh hle)
theorem walk_enumT {K : PySem.W.Frag} {a : Addr} {xs : List V} : Walk (IteT K a) xs.length (fun H => SqT K H a xs) (YPair (fun i => some (.int (i : Nat))) (fun i => xs[i]?)) := by
  refine ⟨fun i _ hi q => ⟨xs, xs[i], q, by simp [hi]⟩, fun _ q => ⟨xs, q, rfl⟩, ?_⟩
  rintro i H v H' _ q ⟨T, x, h1, h2, h3, h4⟩
  exact ⟨T, .int (i : Nat), x, h1, h2, h3, rfl, h4 xs q⟩
end Fd

namespace Fd
open PySem PySem.Spec PyProof.Rows L2
section
variable {X : Cx} {K : PySem.W.Frag} (h : X.K = K)
include h
theorem k_sortedP : CallR X (.builtin "sorted") (rSortedPO K) := h ▸ cr_sortedPO
theorem k_isi : CallR X (.builtin "isinstance") (rIsi K) := h ▸ call_isi
theorem k_slL : SlR X (rSlL K) := h ▸ sl_list
theorem k_slT : SlR X (rSlT K) := h ▸ sl_tup
end
/-! ### ranks -/
def str (ls : List Lay) (i : Nat) : Int := ((ls[i]?).map Prod.snd).getD 0
/-- i ranks ahead of j -/
def Ahead (ls : List Lay) (i j : Nat) : Prop := str ls j < str ls i ∨ (str ls i = str ls j ∧ j < i)
instance (ls : List Lay) (i j : Nat) : Decidable (Ahead ls i j) := by unfold Ahead; infer_instance
structure IsRank (ls : List Lay) (rs : List Nat) : Prop where
  perm : rs.Perm (List.range ls.length)
  ord : rs.Pairwise (Ahead ls)
theorem IsRank.len {ls : List Lay} {rs : List Nat} (h : IsRank ls rs) : rs.length = ls.length := by
  rw [h.perm.length_eq, List.length_range]
theorem IsRank.lt {ls : List Lay} {rs : List Nat} (h : IsRank ls rs) {x : Nat} (m : x ∈ rs) : x < ls.length := List.mem_range.mp (h.perm.mem_iff.mp m)
theorem IsRank.uniq {ls : List Lay} : ∀ {rs qs : List Nat}, IsRank ls rs → IsRank ls qs → rs = qs := by
  intro rs qs h k
  have p : rs.Perm qs := h.perm.trans k.perm.symm
  refine List.Perm.eq_of_pairwise (le := Ahead ls) ?_ h.ord k.ord p
  intro a b _ _ x y
  unfold Ahead at x y
  omega
/-- how many rank ahead -/
def cntA (ls : List Lay) (x : Nat) : Nat := ((List.range ls.length).filter fun o => decide (o ≠ x) && decide (Ahead ls o x)).length
theorem cnt_at {ls : List Lay} {rs : List Nat} (h : IsRank ls rs) {k x : Nat} (e : rs[k]? = some x) : cntA ls x = k := by
  unfold cntA
  rw [← (h.perm.filter _).length_eq]
  obtain ⟨hk, ex⟩ := List.getElem?_eq_some_iff.mp e
  have split : rs = rs.take k ++ x :: rs.drop (k + 1) := by
    rw [← ex]
    exact (List.take_append_drop k rs).symm.trans (by rw [List.drop_eq_getElem_cons hk])
  have ord := h.ord
  rw [split] at ord ⊢
  rw [List.pairwise_append] at ord
  obtain ⟨_, o2, o3⟩ := ord
  have o4 := (List.pairwise_cons.mp o2).1
  rw [List.filter_append, List.filter_cons, if_neg (by simp), List.length_append]
  have f1 : (rs.take k).filter (fun o => decide (o ≠ x) && decide (Ahead ls o x)) = rs.take k := List.filter_eq_self.mpr fun y m => by
    have a := o3 y m x (List.mem_cons_self ..)
    have ne : y ≠ x := fun z => by
      subst z
      unfold Ahead at a
      omega
    simp [a, ne]
  have f2 : (rs.drop (k + 1)).filter (fun o => decide (o ≠ x) && decide (Ahead ls o x)) = [] := List.filter_eq_nil_iff.mpr fun y m => by
    have a := o4 y m
    have na : ¬ Ahead ls y x := fun b => by
      unfold Ahead at a b
      omega
    simp [na]
  rw [f1, f2, List.length_take]
  simp
  omega
theorem cnt_lt {ls : List Lay} {rs : List Nat} (h : IsRank ls rs) {x : Nat} (hx : x < ls.length) : cntA ls x < ls.length ∧ rs[cntA ls x]? = some x := by
  have m : x ∈ rs := h.perm.mem_iff.mpr (List.mem_range.mpr hx)
  obtain ⟨k, e⟩ := List.mem_iff_getElem?.mp m
  have c := cnt_at h e
  have l := (List.getElem?_eq_some_iff.mp e).1
  rw [c]
  exact ⟨by rw [← h.len]; exact l, e⟩
/-! ### the row of numbers, sorted by pairs -/
/-- from pairs (-strength, -number), sorted, to the numbers -/
theorem rank_of_sorted {ls : List Lay} {α : Type} (num : α → Nat) {xs ys : List α} (lt : α → α → Bool)
    (hlt : ∀ a ∈ xs, ∀ b ∈ xs, lt a b = true ↔ (-(str ls (num a)) < -(str ls (num b)) ∨ (-(str ls (num a)) = -(str ls (num b)) ∧ (-(num a : Int)) < -(num b : Int))))
    (hx : xs.map num = List.range ls.length) (p : ys.Perm xs) (s : SrtO.Srtd lt ys) : IsRank ls (ys.map num) := by
  have pm : (ys.map num).Perm (List.range ls.length) := hx ▸ p.map num
  have nd : (ys.map num).Nodup := pm.nodup_iff.mpr List.nodup_range
  refine ⟨pm, ?_⟩
  rw [List.pairwise_map]
  have nd2 : ys.Pairwise fun a b => num a ≠ num b := List.pairwise_map.mp nd
  have both := List.Pairwise.and_mem.mp ((s : ys.Pairwise fun x y => lt y x = false).and nd2)
  refine both.imp ?_
  rintro a b ⟨ma, mb, h1, h2⟩
  have ma' := p.mem_iff.mp ma
  have mb' := p.mem_iff.mp mb
  have no : ¬ (-(str ls (num b)) < -(str ls (num a)) ∨ (-(str ls (num b)) = -(str ls (num a)) ∧ (-(num b : Int)) < -(num a : Int))) := fun q => by
    have t := (hlt b mb' a ma').mpr q
    rw [h1] at t
    cases t
  unfold Ahead
  omega
end Fd
namespace Fd
open PySem PySem.Spec PyProof.Rows L2
/-! ### a comprehension by any relation of what it makes to data that steps keep -/
theorem pairedGet {α β : Type} {F : α → β → Prop} : ∀ {l₁ : List α} {l₂ : List β} {i : Nat} {a : α}, Paired F l₁ l₂ → l₁[i]? = some a → ∃ b, l₂[i]? = some b ∧ F a b
  | _, _, _, _, .nil, e => by simp at e
  | _, _, 0, _, .cons r _, e => by
    simp at e
    exact ⟨_, rfl, e ▸ r⟩
  | _, _, i + 1, _, .cons _ t, e => by
    obtain ⟨b, q, r⟩ := pairedGet (i := i) t (by simpa using e)
    exact ⟨b, by simpa using q, r⟩
theorem pairedApp {α β : Type} {F : α → β → Prop} : ∀ {l₁ l₃ : List α} {l₂ l₄ : List β}, Paired F l₁ l₂ → Paired F l₃ l₄ → Paired F (l₁ ++ l₃) (l₂ ++ l₄)
  | _, _, _, _, .nil, k => k
  | _, _, _, _, .cons r t, k => .cons r (pairedApp t k)
theorem lcG {K : PySem.W.Frag} {J : It} {n : Nat} {G : Hp → Prop} {Y : Nat → Hp → V → Hp → Prop} {δ : Type} (Rel : Hp → V → δ → Prop) (w : Walk J n G Y) {g : TG} {tt : TT} {te : TE} {vs : List Nat} {σ : L2.St} {H1 : Hp} {Q : VK} (p : Option Addr)
    (R : Nat → List δ → Prop) (stab : ∀ H H' v d, PotO p H → St p H H' → Rel H v d → Rel H' v d) (stabL : ∀ H D ys zs v d, H D = some (.lst ys) → Rel H v d → Rel (upd H D (.lst zs)) v d)
    (hp : PotO p H1) (hG : ∀ H, St p H1 H → G H) (hn : n ≤ 1000000) (r0 : R 0 [])
    (step : ∀ i x Ha H' ds (C : V → Hp → Prop) (N : Hp → Prop), i < n → St p H1 Ha → R i ds → Y i Ha x H' →
      (∀ y H4 d, St p Ha H4 → Rel H4 y d → R (i + 1) (ds ++ [d]) → C y H4) → (∀ H3, St p Ha H3 → R (i + 1) ds → N H3) →
      g x (wipe σ vs) H' fun σ2 H2 => wipe σ2 vs = wipe σ vs ∧ tt σ2 H2 fun b H3 => if b = true then te σ2 H3 C else N H3)
    (done : ∀ D acc ds H', H1 D = none → St p H1 H' → H' D = some (.lst acc) → Paired (Rel H') acc ds → R n ds → Q (.ref D) H') : LcK J g tt te vs σ Q H1 := by
  intro D hD
  have line : (1000000 : Nat) < sizeLine := by decide
  refine lc_it w (fun i H => ∃ acc ds, St p H1 H ∧ H D = some (.lst acc) ∧ Paired (Rel H) acc ds ∧ R i ds ∧ acc.length ≤ i) ?_ ?_ ?_ ?_
  · exact ⟨[], [], St.new hp hD, upd_same, .nil, r0, Nat.le_refl _⟩
  · rintro i H _ ⟨_, _, s, _⟩
    exact hG H s
  · rintro i x H H' hi ⟨acc, ds, s, hl, al, r, le⟩ y
    have nD : some D ≠ p := hp.ne hD
    refine step i x H H' ds _ _ hi s r y (fun z H4 d s4 hd r' => ?_) (fun H3 s3 r' => ?_)
    · have hl4 := s4.same D _ nD hl
      have al4 := Paired.mapP al fun a b q => stab H H4 a b s.pot s4 q
      exact ⟨acc, hl4, by omega, acc ++ [z], ds ++ [d], St.put hp (s.trans s4) hD, upd_same, pairedApp (Paired.mapP al4 fun a b q => stabL H4 D acc _ a b hl4 q) (.cons (stabL H4 D acc _ z d hl4 hd) .nil), r', by simp; omega⟩
    · exact ⟨acc, ds, s.trans s3, s3.same D _ nD hl, Paired.mapP al fun a b q => stab H H3 a b s.pot s3 q, r', by omega⟩
  · rintro H ⟨acc, ds, s, hl, al, r, _⟩
    exact done D acc ds H hD s hl al r
/-- a tracked pair of ints -/
def PairAt (H : Hp) (v : V) (d : Int × Int) : Prop := ∃ t, v = .ref t ∧ H t = some (.tup [.int d.1, .int d.2])
theorem pairAt_stab {p : Option Addr} (H H' : Hp) (v : V) (d : Int × Int) (h : PotO p H) (s : St p H H') (k : PairAt H v d) : PairAt H' v d := by
  obtain ⟨t, e, q⟩ := k
  exact ⟨t, e, s.same t _ (h.neT q) q⟩
theorem pairAt_upd (H : Hp) (D : Addr) (ys zs : List V) (v : V) (d : Int × Int) (e : H D = some (.lst ys)) (k : PairAt H v d) : PairAt (upd H D (.lst zs)) v d := by
  obtain ⟨t, e2, q⟩ := k
  exact ⟨t, e2, by rw [upd_ne (ne_of q e (fun z => nomatch z))]; exact q⟩
/-- what a reference to a pair of ints holds -/
def kOf (H : Hp) : V → Int × Int
  | .ref t => match H t with
    | some (.tup [.int i, .int j]) => (i, j)
    | _ => (0, 0)
  | _ => (0, 0)
theorem kOf_at {H : Hp} {v : V} {d : Int × Int} (h : PairAt H v d) : kOf H v = d := by
  obtain ⟨t, rfl, q⟩ := h
  show (match H t with | some (.tup [.int i, .int j]) => (i, j) | _ => (0, 0)) = d
  rw [q]
end Fd
namespace Fd
open PySem PySem.Spec PyProof.Rows L2
theorem rank_ex (ls : List Lay) : ∃ rs, IsRank ls rs := by
  let le : Nat → Nat → Bool := fun i j => !decide (Ahead ls j i)
  have tr : ∀ a b c, le a b = true → le b c = true → le a c = true := by
    intro a b c
    simp only [le, Bool.not_eq_true', decide_eq_false_iff_not]
    unfold Ahead
    omega
  have tot : ∀ a b, (le a b || le b a) = true := by
    intro a b
    simp only [le, Bool.or_eq_true, Bool.not_eq_true', decide_eq_false_iff_not]
    unfold Ahead
    omega
  have pm : ((List.range ls.length).mergeSort le).Perm (List.range ls.length) := List.mergeSort_perm _ _
  refine ⟨(List.range ls.length).mergeSort le, pm, ?_⟩
  have srt : ((List.range ls.length).mergeSort le).Pairwise fun a b => le a b = true := List.pairwise_mergeSort tr tot _
  have nd : ((List.range ls.length).mergeSort le).Pairwise fun a b => a ≠ b := pm.nodup_iff.mpr List.nodup_range
  refine (srt.and nd).imp ?_
  intro a b ⟨h1, h2⟩
  simp only [le, Bool.not_eq_true', decide_eq_false_iff_not] at h1
  unfold Ahead at h1 ⊢
  omega
/-- the numbers found so far, at their ranks -/
def foundV (rs : List Nat) (m : Nat) : List V := rs.map fun x => if x < m then V.int (x : Int) else V.non
theorem found_step {ls : List Lay} {rs : List Nat} (h : IsRank ls rs) {m : Nat} (hm : m < ls.length) : (foundV rs m).set (cntA ls m) (.int m) = foundV rs (m + 1) := by
  obtain ⟨_, e⟩ := cnt_lt h hm
  have nd : rs.Nodup := h.perm.nodup_iff.mpr List.nodup_range
  unfold foundV
  refine List.ext_getElem? fun j => ?_
  rw [List.getElem?_set]
  by_cases q : cntA ls m = j
  · subst q
    have l := (List.getElem?_eq_some_iff.mp e).1
    rw [if_pos rfl, if_pos (by simpa using l), List.getElem?_map, e]
    simp
  · rw [if_neg q, List.getElem?_map, List.getElem?_map]
    cases e2 : rs[j]? with
    | none => rfl
    | some x =>
      have ne : x ≠ m := fun z => by
        subst z
        exact q (nd_ix nd e e2)
      show some _ = some _
      congr 1
      show (if x < m then V.int (x : Int) else V.non) = if x < m + 1 then V.int (x : Int) else V.non
      by_cases lt : x < m
      · rw [if_pos lt, if_pos (by omega)]
      · rw [if_neg lt, if_neg (by omega)]
theorem found_zero (rs : List Nat) : foundV rs 0 = (List.replicate rs.length [V.non]).flatten := by
  unfold foundV
  induction rs with
  | nil => rfl
  | cons x r ih =>
    rw [List.map_cons, List.length_cons, List.replicate_succ, List.flatten_cons, ih]
    simp
theorem found_all {ls : List Lay} {rs : List Nat} (h : IsRank ls rs) : foundV rs ls.length = rs.map fun i : Nat => V.int i := by
  unfold foundV
  refine List.map_congr_left fun x m => ?_
  rw [if_pos (h.lt m)]
theorem str_at {ls : List Lay} {i : Nat} {l : Lay} (h : ls[i]? = some l) : str ls i = l.2 := by
  unfold str
  rw [h]
  rfl
/-- the items of a row by number -/
theorem row_at {K : PySem.W.Frag} {H : Hp} {xs : List V} {ls : List Lay} {i : Nat} (al : DpAll K H xs (ls.map layD)) (h : i < ls.length) :
    ∃ l a, ls[i]? = some l ∧ xs[i]? = some (.ref a) ∧ SqT K H a [.str l.1, .int l.2] := by
  have len := lays_len al
  obtain ⟨l, a, q, e, sq, _⟩ := lays_get al (List.getElem?_eq_getElem (show i < xs.length by omega))
  exact ⟨l, a, q, by rw [List.getElem?_eq_getElem (show i < xs.length by omega), e], sq⟩
theorem nice_nats {rs : List Nat} (n : rs.length ≤ 100) (h : ∀ i ∈ rs, i < 2 ^ 250) : Nice (.list (rs.map fun i : Nat => PyData.int i)) := by
  have e : (rs.map fun i : Nat => PyData.int i) = (rs.map fun i : Nat => (i : Int)).map PyData.int := by
    rw [List.map_map]
    rfl
  rw [e]
  refine nice_ints (by rw [List.length_map]; exact n) fun i m => ?_
  obtain ⟨j, mj, rfl⟩ := List.mem_map.mp m
  have := h j mj
  omega
end Fd

namespace Fd
open PySem PySem.Spec PyProof.Rows L2
/-! ### parts of a row by rising numbers -/
def sub (ls : List Lay) (I : List Nat) : List Lay := I.filterMap fun i => ls[i]?
structure Rising (n : Nat) (I : List Nat) : Prop where
  up : I.Pairwise (· < ·)
  lt : ∀ i ∈ I, i < n
theorem sub_get {ls : List Lay} : ∀ {I : List Nat}, (∀ i ∈ I, i < ls.length) → ∀ j : Nat, (sub ls I)[j]? = (I[j]?).bind (fun i : Nat => ls[i]?)
  | [], _, j => by simp [sub]
  | i :: I, h, j => by
    have hi := h i (List.mem_cons_self ..)
    have e : sub ls (i :: I) = ls[i] :: sub ls I := by
      unfold sub
      rw [List.filterMap_cons, List.getElem?_eq_getElem hi]
    rw [e]
    cases j with
    | zero => simp [List.getElem?_eq_getElem hi]
    | succ j =>
      rw [List.getElem?_cons_succ, List.getElem?_cons_succ]
      exact sub_get (fun k m => h k (List.mem_cons_of_mem _ m)) j
theorem sub_len {ls : List Lay} : ∀ {I : List Nat}, (∀ i ∈ I, i < ls.length) → (sub ls I).length = I.length
  | [], _ => rfl
  | i :: I, h => by
    have hi := h i (List.mem_cons_self ..)
    have e : sub ls (i :: I) = ls[i] :: sub ls I := by
      unfold sub
      rw [List.filterMap_cons, List.getElem?_eq_getElem hi]
    rw [e, List.length_cons, List.length_cons, sub_len fun k m => h k (List.mem_cons_of_mem _ m)]
theorem str_sub {ls : List Lay} {I : List Nat} (h : ∀ i ∈ I, i < ls.length) {j i : Nat} (e : I[j]? = some i) : str (sub ls I) j = str ls i := by
  unfold str
  rw [sub_get h, e]
  rfl
theorem rising_iff {n : Nat} {I : List Nat} (h : Rising n I) {j k a b : Nat} (e : I[j]? = some a) (e2 : I[k]? = some b) : a < b ↔ j < k := by
  obtain ⟨hj, rfl⟩ := List.getElem?_eq_some_iff.mp e
  obtain ⟨hk, rfl⟩ := List.getElem?_eq_some_iff.mp e2
  have up := List.pairwise_iff_getElem.mp h.up
  constructor
  · intro lt
    rcases Nat.lt_trichotomy j k with q | q | q
    · exact q
    · subst q
      exact absurd lt (Nat.lt_irrefl _)
    · have := up k j hk hj q
      omega
  · exact fun q => up j k hj hk q
theorem ahead_sub {ls : List Lay} {I : List Nat} (h : Rising ls.length I) {j k a b : Nat} (e : I[j]? = some a) (e2 : I[k]? = some b) : Ahead (sub ls I) j k ↔ Ahead ls a b := by
  unfold Ahead
  rw [str_sub h.lt e, str_sub h.lt e2, rising_iff h e2 e]
theorem range_map_get (I : List Nat) : (List.range I.length).map (fun j => I[j]?.getD 0) = I := by
  refine List.ext_getElem? fun j => ?_
  rw [List.getElem?_map]
  by_cases h : j < I.length
  · simp [List.getElem?_range h, List.getElem?_eq_getElem h]
  · rw [List.getElem?_eq_none (by simp; omega), List.getElem?_eq_none (by omega)]
    rfl
theorem fm_congr {f g : Nat → Option Lay} : ∀ {l : List Nat}, (∀ x ∈ l, f x = g x) → l.filterMap f = l.filterMap g
  | [], _ => rfl
  | x :: l, h => by
    rw [List.filterMap_cons, List.filterMap_cons, h x (List.mem_cons_self ..), fm_congr fun y m => h y (List.mem_cons_of_mem _ m)]
theorem cnt_sub {ls : List Lay} {I : List Nat} (h : Rising ls.length I) {j i : Nat} (e : I[j]? = some i) :
    cntA (sub ls I) j = (I.filter fun o => decide (o ≠ i) && decide (Ahead ls o i)).length := by
  unfold cntA
  rw [sub_len h.lt]
  conv => rhs; rw [← range_map_get I, List.filter_map, List.length_map]
  congr 1
  refine List.filter_congr fun k mk => ?_
  have hk := List.mem_range.mp mk
  have ek : I[k]? = some (I[k]?.getD 0) := by
    rw [List.getElem?_eq_getElem hk]
    rfl
  show (decide (k ≠ j) && decide (Ahead (sub ls I) k j)) = (decide (I[k]?.getD 0 ≠ i) && decide (Ahead ls (I[k]?.getD 0) i))
  have a := ahead_sub h ek e
  have b : (k = j) ↔ I[k]?.getD 0 = i := by
    have r1 := rising_iff h ek e
    have r2 := rising_iff h e ek
    omega
  rw [decide_eq_decide.mpr a, decide_eq_decide.mpr (not_congr b)]
/-! ### thinned -/
def keep (ls : List Lay) (m : Nat) : List Nat := (List.range ls.length).filter fun i => decide (cntA ls i < m)
def thinL (ls : List Lay) (m : Nat) : List Lay := sub ls (keep ls m)
theorem keep_rising (ls : List Lay) (m : Nat) : Rising ls.length (keep ls m) :=
  ⟨List.Pairwise.filter _ List.pairwise_lt_range, fun i h => List.mem_range.mp (List.mem_filter.mp h).1⟩
theorem cnt_mono {ls : List Lay} {a b : Nat} (ha : a < ls.length) (hb : b < ls.length) (h : Ahead ls a b) : cntA ls a < cntA ls b := by
  obtain ⟨rs, rk⟩ := rank_ex ls
  obtain ⟨_, ea⟩ := cnt_lt rk ha
  obtain ⟨_, eb⟩ := cnt_lt rk hb
  obtain ⟨l1, g1⟩ := List.getElem?_eq_some_iff.mp ea
  obtain ⟨l2, g2⟩ := List.getElem?_eq_some_iff.mp eb
  have ord := List.pairwise_iff_getElem.mp rk.ord
  rcases Nat.lt_trichotomy (cntA ls a) (cntA ls b) with q | q | q
  · exact q
  · have : a = b := by
      rw [← g1, ← g2]
      simp [q]
    subst this
    unfold Ahead at h
    omega
  · have := ord _ _ l2 l1 q
    rw [g1, g2] at this
    unfold Ahead at h this
    omega
/-- in the thinned row each keeps its rank -/
theorem cnt_thin {ls : List Lay} {m j i : Nat} (e : (keep ls m)[j]? = some i) : cntA (thinL ls m) j = cntA ls i := by
  unfold thinL
  rw [cnt_sub (keep_rising ls m) e]
  have mi := List.mem_of_getElem? e
  obtain ⟨m1, m2⟩ := List.mem_filter.mp mi
  have hi := List.mem_range.mp m1
  have lm := of_decide_eq_true m2
  unfold keep
  rw [List.filter_filter]
  unfold cntA
  congr 1
  refine List.filter_congr fun o mo => ?_
  have ho := List.mem_range.mp mo
  by_cases a : Ahead ls o i
  · have c := cnt_mono ho hi a
    have : decide (cntA ls o < m) = true := decide_eq_true (by omega)
    unfold cntA at this
    rw [this, Bool.and_true]
  · simp [a]
theorem thin_len {ls : List Lay} {m : Nat} : (thinL ls m).length = (keep ls m).length := sub_len (keep_rising ls m).lt
theorem sub_sub {ls : List Lay} {I : List Nat} (h : ∀ i ∈ I, i < ls.length) (f : Nat → Bool) (g : Nat → Bool) (hfg : ∀ j i, I[j]? = some i → f j = g i) :
    sub (sub ls I) ((List.range I.length).filter f) = sub ls (I.filter g) := by
  have e1 : sub (sub ls I) ((List.range I.length).filter f) = sub ls (((List.range I.length).filter f).map fun j => I[j]?.getD 0) := by
    unfold sub
    rw [List.filterMap_map]
    refine fm_congr fun j mj => ?_
    have hj := List.mem_range.mp (List.mem_filter.mp mj).1
    have q := sub_get h j
    unfold sub at q
    rw [q, List.getElem?_eq_getElem hj]
    simp [List.getElem?_eq_getElem hj]
  rw [e1]
  congr 1
  conv => rhs; rw [← range_map_get I, List.filter_map]
  congr 1
  refine List.filter_congr fun j mj => ?_
  have hj := List.mem_range.mp mj
  exact hfg j _ (by simp [List.getElem?_eq_getElem hj])
theorem thin_thin {ls : List Lay} {m k : Nat} : thinL (thinL ls m) k = thinL ls (min m k) := by
  have e : keep (thinL ls m) k = (List.range (keep ls m).length).filter fun j => decide (cntA (thinL ls m) j < k) := by
    unfold keep
    rw [thin_len]
    rfl
  have e2 : thinL (thinL ls m) k = sub (sub ls (keep ls m)) ((List.range (keep ls m).length).filter fun j => decide (cntA (thinL ls m) j < k)) := by
    show sub (thinL ls m) (keep (thinL ls m) k) = _
    rw [e]
    rfl
  rw [e2, sub_sub (keep_rising ls m).lt _ (fun i => decide (cntA ls i < k)) (fun j i q => by rw [cnt_thin q])]
  unfold thinL keep
  rw [List.filter_filter]
  congr 1
  refine List.filter_congr fun o _ => ?_
  rw [← Bool.decide_and]
  refine decide_eq_decide.mpr ?_
  omega
theorem thin_all {ls : List Lay} {m : Nat} (h : ls.length ≤ m) : thinL ls m = ls := by
  have e : keep ls m = List.range ls.length := List.filter_eq_self.mpr fun i mi => by
    obtain ⟨rs, rk⟩ := rank_ex ls
    have := (cnt_lt rk (List.mem_range.mp mi)).1
    exact decide_eq_true (by omega)
  unfold thinL
  rw [e]
  refine List.ext_getElem? fun j => ?_
  rw [sub_get (fun i m => List.mem_range.mp m)]
  by_cases hj : j < ls.length
  · rw [List.getElem?_range hj]
    simp
  · rw [List.getElem?_eq_none (show (List.range ls.length).length ≤ j by simp; omega), List.getElem?_eq_none (by omega)]
    rfl
theorem keep_len {ls : List Lay} {m : Nat} : (keep ls m).length ≤ m := by
  obtain ⟨rs, rk⟩ := rank_ex ls
  have nd : (keep ls m).Nodup := (List.nodup_range (n := ls.length)).sublist List.filter_sublist
  have sb : ∀ x ∈ keep ls m, x ∈ rs.take m := fun x mx => by
    obtain ⟨m1, m2⟩ := List.mem_filter.mp mx
    have lt := of_decide_eq_true m2
    obtain ⟨_, e⟩ := cnt_lt rk (List.mem_range.mp m1)
    refine List.mem_of_getElem? (i := cntA ls x) ?_
    rw [List.getElem?_take_of_lt lt]
    exact e
  have := pigeon _ _ nd sb
  rw [List.length_take] at this
  omega
/-- the numbers that are kept, from those ranked first -/
theorem keep_of_take {ls : List Lay} {rs : List Nat} (rk : IsRank ls rs) {m : Nat} {ms : List Nat} (p : ms.Perm (rs.take m)) (up : ms.Pairwise (· ≤ ·)) : ms = keep ls m := by
  have nd : rs.Nodup := rk.perm.nodup_iff.mpr List.nodup_range
  have mem : ∀ x, x ∈ rs.take m ↔ x ∈ keep ls m := by
    intro x
    unfold keep
    rw [List.mem_filter, List.mem_range, decide_eq_true_eq]
    constructor
    · intro mx
      obtain ⟨k, e⟩ := List.mem_iff_getElem?.mp mx
      have hk : k < m := by
        have := (List.getElem?_eq_some_iff.mp e).1
        rw [List.length_take] at this
        omega
      rw [List.getElem?_take_of_lt hk] at e
      exact ⟨rk.lt (List.mem_of_getElem? e), by rw [cnt_at rk e]; exact hk⟩
    · rintro ⟨lt, c⟩
      obtain ⟨_, e⟩ := cnt_lt rk lt
      refine List.mem_of_getElem? (i := cntA ls x) ?_
      rw [List.getElem?_take_of_lt c]
      exact e
  have nt : (rs.take m).Nodup := nd.sublist (List.take_sublist _ _)
  have nk : (keep ls m).Nodup := (List.nodup_range (n := ls.length)).sublist List.filter_sublist
  have p2 : (rs.take m).Perm (keep ls m) := (List.perm_ext_iff_of_nodup nt nk).mpr mem
  refine List.Perm.eq_of_pairwise (le := (· ≤ ·)) ?_ up ?_ (p.trans p2)
  · intro a b _ _ x y
    omega
  · exact (keep_rising ls m).up.imp fun h => Nat.le_of_lt h
theorem thin_mem {ls : List Lay} {m : Nat} {x : Lay} (h : x ∈ thinL ls m) : x ∈ ls := by
  obtain ⟨i, _, e⟩ := List.mem_filterMap.mp h
  exact List.mem_of_getElem? e
end Fd
namespace Fd
open PySem PySem.Spec PyProof.Rows L2
section
variable {X : Cx} {K : PySem.W.Frag} (h : X.K = K)
include h
theorem k_sortedI : CallR X (.builtin "sorted") (rSortedI K) := h ▸ cr_sortedI
end
theorem cut_take (xs : List V) (m : Nat) : cutV xs none (some (m : Int)) = xs.take m := by
  unfold cutV
  rw [HT.sIx_none, HT.sIx_nat, List.drop_zero, Nat.sub_zero]
  exact List.take_eq_take_iff.mpr (by omega)
theorem sorted_keep {ls : List Lay} {rs : List Nat} (rk : IsRank ls rs) {m : Nat} {ns : List Int} (p : ns.Perm ((rs.take m).map fun i : Nat => (i : Int))) (up : ns.Pairwise (· ≤ ·)) :
    ns = (keep ls m).map fun i : Nat => (i : Int) := by
  have nn : ∀ x ∈ ns, ∃ i : Nat, x = (i : Int) := fun x mx => by
    obtain ⟨i, _, e⟩ := List.mem_map.mp (p.mem_iff.mp mx)
    exact ⟨i, e.symm⟩
  have e : ns = (ns.map Int.toNat).map fun i : Nat => (i : Int) := by
    rw [List.map_map]
    conv => lhs; rw [← List.map_id ns]
    refine List.map_congr_left fun x mx => ?_
    obtain ⟨i, rfl⟩ := nn x mx
    rfl
  have p2 : (ns.map Int.toNat).Perm (rs.take m) := by
    have q := p.map Int.toNat
    rw [List.map_map] at q
    have id_ : (Int.toNat ∘ fun i : Nat => (i : Int)) = id := by
      funext i
      rfl
    rw [id_, List.map_id] at q
    exact q
  have up2 : (ns.map Int.toNat).Pairwise (· ≤ ·) := List.pairwise_map.mpr (up.imp fun {a b} h => by omega)
  rw [e, keep_of_take rk p2 up2]
theorem sub_append (ls : List Lay) (I J : List Nat) : sub ls (I ++ J) = sub ls I ++ sub ls J := by
  unfold sub
  exact List.filterMap_append ..
theorem sub_one {ls : List Lay} {i : Nat} {l : Lay} (h : ls[i]? = some l) : sub ls [i] = [l] := by
  simp [sub, h]
theorem sub_take {ls : List Lay} {I : List Nat} {j i : Nat} {l : Lay} (e : I[j]? = some i) (h : ls[i]? = some l) : sub ls (I.take (j + 1)) = sub ls (I.take j) ++ [l] := by
  rw [List.take_add_one, e, sub_append]
  congr 1
  exact sub_one h
theorem flen_or {α : Type} {p q r : α → Bool} : ∀ {l : List α}, (∀ x ∈ l, p x = (q x || r x) ∧ ¬ (q x = true ∧ r x = true)) → (l.filter p).length = (l.filter q).length + (l.filter r).length
  | [], _ => rfl
  | x :: l, h => by
    obtain ⟨a, b⟩ := h x (List.mem_cons_self ..)
    have ih := flen_or (l := l) fun y m => h y (List.mem_cons_of_mem _ m)
    rw [List.filter_cons, List.filter_cons, List.filter_cons, a]
    cases hq : q x <;> cases hr : r x <;> simp_all <;> omega
theorem cnt_parts {ls : List Lay} {x : Nat} (h : x < ls.length) : cntA ls x = ((List.range ls.length).filter fun o => decide (str ls x < str ls o)).length +
    ((List.range (ls.length - (x + 1))).filter fun j => decide (str ls (x + 1 + j) = str ls x)).length := by
  unfold cntA
  rw [flen_or (q := fun o => decide (str ls x < str ls o)) (r := fun o => decide (str ls o = str ls x) && decide (x < o)) (fun o _ => ?_)]
  · congr 1
    have e : ls.length = (x + 1) + (ls.length - (x + 1)) := by omega
    conv => lhs; rw [e, List.range_add, List.filter_append, List.length_append, List.filter_map, List.length_map]
    have z : (List.range (x + 1)).filter (fun o => decide (str ls o = str ls x) && decide (x < o)) = [] := List.filter_eq_nil_iff.mpr fun o m => by
      have := List.mem_range.mp m
      simp
      omega
    rw [z, List.length_nil, Nat.zero_add]
    congr 1
    refine List.filter_congr fun j _ => ?_
    have : decide (x < x + 1 + j) = true := decide_eq_true (by omega)
    simp [this]
  · unfold Ahead
    by_cases a : str ls x < str ls o <;> by_cases b : str ls o = str ls x <;> by_cases c : x < o <;> by_cases d : o = x <;> simp_all <;> omega
end Fd
namespace Fd
open PySem PySem.Spec PyProof.Rows L2
/-- over a range, the target a name, with a test -/
theorem lcRngT {K : PySem.W.Frag} {n : Nat} {tt : TT} {te : TE} {vs : List Nat} {σ : L2.St} {H1 : Hp} {Q : VK} {lo : Int} {j : Nat} (p : Option Addr) (at_ : Nat → Int) (hat : ∀ i : Nat, lo + (i : Int) = at_ i) (R : Nat → List PyData → Prop) (hp : PotO p H1) (hn : n ≤ 1000000) (r0 : R 0 []) (hw : ∀ x, wipe ((wipe σ vs).set j (some x)) vs = wipe σ vs)
    (step : ∀ i Ha ds (C : V → Hp → Prop) (N : Hp → Prop), i < n → St p H1 Ha → flatTs ds = true → R i ds →
      (∀ y H4 d, St p Ha H4 → flatT d = true → Dp K H4 y d → R (i + 1) (ds ++ [d]) → C y H4) → (∀ H3, St p Ha H3 → R (i + 1) ds → N H3) →
      tt ((wipe σ vs).set j (some (.int (at_ i)))) Ha fun b H3 => if b = true then te ((wipe σ vs).set j (some (.int (at_ i)))) H3 C else N H3)
    (done : ∀ D acc ds H', H1 D = none → St p H1 H' → H' D = some (.lst acc) → flatTs ds = true → DpAll K H' acc ds → R n ds → Q (.ref D) H') : LcK (Itr lo n) (gName j) tt te vs σ Q H1 := by
  refine lcW walk_range p R hp (fun _ _ => trivial) hn r0 ?_ done
  rintro i x Ha H' ds C N hi s fl r ⟨rfl, rfl⟩ k k2
  show gName j (V.int (lo + (i : Int))) _ _ _
  rw [hat]
  exact ⟨hw _, step i _ ds C N hi s fl r k k2⟩
theorem filt_succ (f : Nat → Bool) (m : Nat) : (List.range (m + 1)).filter f = (List.range m).filter f ++ (if f m = true then [m] else []) := by
  rw [List.range_succ, List.filter_append]
  congr 1
  rw [List.filter_cons]
  split <;> rfl
end Fd

namespace Fd
open PySem PySem.Spec PyProof.Rows L2
/-! ### t[lo:hi] and t + u of any tuples -/
def rSlF (K : PySem.W.Frag) : V → Option Int → Option Int → Hp → VK → Prop := fun x lo hi H Q => ∃ a xs, x = .ref a ∧ SqT K H a xs ∧ ∀ p H', Same H H' → SqT K H' p (cutV xs lo hi) → Q (.ref p) H'
def rCatF (K : PySem.W.Frag) : R2 := fun x y H Q => ∃ a b xs ys, x = .ref a ∧ y = .ref b ∧ SqT K H a xs ∧ SqT K H b ys ∧ xs.length + ys.length ≤ sizeLine ∧ ∀ p H', Same H H' → SqT K H' p (xs ++ ys) → Q (.ref p) H'
theorem cut_whole {xs : List V} {lo hi : Option Int} (h : HT.sIx xs.length 0 lo = 0 ∧ HT.sIx xs.length xs.length hi = xs.length) : cutV xs lo hi = xs := by
  unfold cutV
  rw [h.1, h.2, List.drop_zero, Nat.sub_zero, List.take_length]
section
variable {X : Cx} {K : PySem.W.Frag} (h : X.K = K)
include h
theorem k_slS : SlR X (rSlF K) := by
  subst h
  intro pins s σ H x v vl vu lo hi sl Q I rx hs pl pu q
  refine sl_tupA pins s σ H x v vl vu lo hi sl Q I rx hs pl pu ?_
  obtain ⟨a, xs, rfl, hx, k⟩ := q
  exact ⟨a, xs, rfl, hx, fun w => k a H (Same.refl _) (by rw [cut_whole w]; exact hx), fun _ p hp => k p _ (same_new hp) (SqT.of upd_same)⟩
theorem k_catS : OpR X (binaryOp .Add) (rCatF K) := by
  subst h
  intro pins s σ H x y v u Q I rx ry q
  refine op_catA pins s σ H x y v u Q I rx ry ?_
  obtain ⟨a, b, xs, ys, rfl, rfl, ha, hb, hz, k⟩ := q
  refine ⟨a, b, xs, ys, rfl, rfl, ha, hb, hz, fun e => k b H (Same.refl _) (by rw [e]; exact hb), fun _ e => k a H (Same.refl _) (by rw [e, List.append_nil]; exact ha), fun _ _ p hp => k p _ (same_new hp) (SqT.of upd_same)⟩
theorem k_max (hc : X.calm = true) : CallR X (.builtin "max") (rMax K) := h ▸ cr_max hc
end
theorem cut_drop (xs : List V) (m : Nat) : cutV xs (some (m : Int)) none = xs.drop m := by
  unfold cutV
  rw [HT.sIx_none, HT.sIx_nat]
  by_cases h : m ≤ xs.length
  · rw [Nat.min_eq_left h]
    exact List.take_of_length_le (by rw [List.length_drop]; omega)
  · rw [Nat.min_eq_right (by omega), List.drop_length, List.drop_eq_nil_of_le (by omega), List.take_nil]
theorem DpAll.take {K : PySem.W.Frag} {H : Hp} : ∀ {vs : List V} {ds : List PyData} (n : Nat), DpAll K H vs ds → DpAll K H (vs.take n) (ds.take n)
  | _, _, 0, _ => .nil
  | _, _, _ + 1, .nil => .nil
  | _, _, n + 1, .cons a b => .cons a (DpAll.take n b)
theorem DpAll.drop {K : PySem.W.Frag} {H : Hp} : ∀ {vs : List V} {ds : List PyData} (n : Nat), DpAll K H vs ds → DpAll K H (vs.drop n) (ds.drop n)
  | _, _, 0, h => h
  | _, _, _ + 1, .nil => .nil
  | _, _, n + 1, .cons _ b => DpAll.drop n b
/-! ### the first of a row -/
structure IsTop (ls : List Lay) (t : Nat) : Prop where
  lt : t < ls.length
  all : ∀ j, j < ls.length → j ≠ t → Ahead ls t j
theorem IsTop.uniq {ls : List Lay} {t u : Nat} (h : IsTop ls t) (k : IsTop ls u) : t = u := by
  by_cases e : t = u
  · exact e
  · have a := h.all u k.lt (fun z => e z.symm)
    have b := k.all t h.lt e
    unfold Ahead at a b
    omega
theorem top_of_rank {ls : List Lay} {i : Nat} {rs : List Nat} (h : IsRank ls (i :: rs)) : IsTop ls i := by
  refine ⟨h.lt (List.mem_cons_self ..), fun j hj ne => ?_⟩
  have mj : j ∈ i :: rs := h.perm.mem_iff.mpr (List.mem_range.mpr hj)
  rcases List.mem_cons.mp mj with e | mj
  · exact absurd e ne
  · exact (List.pairwise_cons.mp h.ord).1 j mj
/-- the row with its first rubbed by n; the row without its first -/
def rubL (ls : List Lay) (t : Nat) (n : Int) : List Lay := ls.modify t fun l => (l.1, l.2 - n)
theorem rub_get {ls : List Lay} {t i : Nat} {n : Int} {l : Lay} (h : ls[i]? = some l) : (rubL ls t n)[i]? = some (l.1, if i = t then l.2 - n else l.2) := by
  unfold rubL
  rw [List.getElem?_modify, h]
  by_cases e : i = t
  · simp [e]
  · have e' : ¬ t = i := fun z => e z.symm
    simp [e, e']
theorem rub_len {ls : List Lay} {t : Nat} {n : Int} : (rubL ls t n).length = ls.length := by
  unfold rubL
  rw [List.length_modify]
theorem rub_parts {ls : List Lay} {t : Nat} {n : Int} {l : Lay} (hp : ∀ x ∈ ls, 0 < x.2) (h : ls[t]? = some l) :
    (rubL ls t n).filter pos = ls.take t ++ (if l.2 ≤ n then [] else [(l.1, l.2 - n)]) ++ ls.drop (t + 1) := by
  obtain ⟨ht, e⟩ := List.getElem?_eq_some_iff.mp h
  unfold rubL
  rw [List.modify_eq_take_cons_drop ht, e, List.filter_append, List.filter_cons]
  have f1 : (ls.take t).filter pos = ls.take t := List.filter_eq_self.mpr fun x m => decide_eq_true (hp x (List.mem_of_mem_take m))
  have f2 : (ls.drop (t + 1)).filter pos = ls.drop (t + 1) := List.filter_eq_self.mpr fun x m => decide_eq_true (hp x (List.mem_of_mem_drop m))
  rw [f1, f2]
  by_cases q : l.2 ≤ n
  · rw [if_neg (by simp [pos]; omega), if_pos q, List.append_nil]
  · rw [if_pos (by simp [pos]; omega), if_neg q, List.append_assoc]
    rfl
theorem erase_step {ls : List Lay} {t i : Nat} {l : Lay} (h : ls[i]? = some l) : (ls.take (i + 1)).eraseIdx t = (ls.take i).eraseIdx t ++ (if i = t then [] else [l]) := by
  have hi := (List.getElem?_eq_some_iff.mp h).1
  have len : (ls.take i).length = i := by rw [List.length_take]; omega
  rw [List.take_add_one, h]
  show (ls.take i ++ [l]).eraseIdx t = _
  rcases Nat.lt_trichotomy t i with q | q | q
  · rw [List.eraseIdx_append_of_lt_length (by omega), if_neg (by omega)]
  · subst q
    rw [if_pos rfl, List.eraseIdx_append_of_length_le (by omega), len, Nat.sub_self, List.eraseIdx_of_length_le (l := ls.take t) (by omega)]
    rfl
  · rw [if_neg (by omega), List.eraseIdx_of_length_le (by simp; omega), List.eraseIdx_of_length_le (by omega)]
end Fd
namespace Fd
open PySem PySem.Spec PyProof.Rows L2
theorem lcK {K : PySem.W.Frag} {J : It} {n : Nat} {G : Hp → Prop} {Y : Nat → Hp → V → Hp → Prop} (w : Walk J n G Y) {g : TG} {tt : TT} {te : TE} {vs : List Nat} {σ : L2.St} {H1 : Hp} {Q : VK} (p : Option Addr) (R : Nat → List PyData → Prop)
    (hp : PotO p H1) (hG : ∀ H, St p H1 H → G H) (hn : n ≤ 1000000) (r0 : R 0 [])
    (step : ∀ i x Ha H' ds (C : V → Hp → Prop) (N : Hp → Prop), i < n → St p H1 Ha → flatTs ds = true → R i ds → Y i Ha x H' →
      (∀ y H4 d, St p Ha H4 → flatT d = true → Dp K H4 y d → R (i + 1) (ds ++ [d]) → C y H4) → (∀ H3, St p Ha H3 → R (i + 1) ds → N H3) →
      g x (wipe σ vs) H' fun σ2 H2 => wipe σ2 vs = wipe σ vs ∧ tt σ2 H2 fun b H3 => if b = true then te σ2 H3 C else N H3)
    (done : ∀ D acc ds H', H1 D = none → St p H1 H' → H' D = some (.lst acc) → flatTs ds = true → DpAll K H' acc ds → R n ds → Q (.ref D) H') : LcK J g tt te vs σ Q H1 :=
  lcW w p R hp hG hn r0 step done
end Fd
namespace Fd
open PySem PySem.Spec PyProof.Rows L2
theorem sameT {K : PySem.W.Frag} {H H1 : Hp} {a : Addr} {xs : List V} (s : Same H H1) (h : SqT K H a xs) : SqT K H1 a xs := St.tup potN (St.ofSame potN s) h
theorem dpsSame {K : PySem.W.Frag} {H H1 : Hp} {vs : List V} {ds : List PyData} (s : Same H H1) (z : flatTs ds = true) (k : DpAll K H vs ds) : DpAll K H1 vs ds := dpsSt potN (St.ofSame potN s) z k
end Fd

/-! ### sorted, of layers: pairs of a text and an int -/
namespace Fd
open PySem PySem.Spec PyProof.Rows L2 SrtO Srt
/-- x before y: by tag, then by strength -/
def ltL (x y : Lay) : Bool := if x.1 = y.1 then decide (x.2 < y.2) else decide (x.1.cps.toList < y.1.cps.toList)
theorem str_eq {x y : Str} (h : x.cps.toList = y.cps.toList) : x = y := by
  cases x with
  | mk a =>
    cases y with
    | mk b =>
      have : a = b := Array.toList_inj.mp h
      rw [this]
def leL (x y : Lay) : Prop := ltL y x = false
theorem ltL_iff {x y : Lay} : ltL x y = true ↔ (x.1 = y.1 ∧ x.2 < y.2) ∨ (x.1 ≠ y.1 ∧ x.1.cps.toList < y.1.cps.toList) := by
  unfold ltL
  by_cases e : x.1 = y.1
  · rw [if_pos e, decide_eq_true_eq]
    simp [e]
  · rw [if_neg e, decide_eq_true_eq]
    simp [e]
theorem swoL : Swo ltL := by
  have no : ∀ {x y : Lay}, ltL x y = false ↔ ¬ ((x.1 = y.1 ∧ x.2 < y.2) ∨ (x.1 ≠ y.1 ∧ x.1.cps.toList < y.1.cps.toList)) := fun {x y} => by
    rw [← ltL_iff]
    simp
  refine ⟨fun x y h => no.mpr fun k => ?_, fun x y z h1 h2 => no.mpr fun k => ?_⟩
  · rcases ltL_iff.mp h with ⟨a, b⟩ | ⟨a, b⟩
    · rcases k with ⟨c, d⟩ | ⟨c, d⟩
      · omega
      · exact c a.symm
    · rcases k with ⟨c, d⟩ | ⟨c, d⟩
      · exact a c.symm
      · exact absurd (List.lt_trans b d) (List.lt_irrefl _)
  · have n1 := no.mp h1
    have n2 := no.mp h2
    rcases k with ⟨c, d⟩ | ⟨c, d⟩
    · by_cases e : y.1 = x.1
      · have e1 : ¬ y.2 < x.2 := fun q => n1 (.inl ⟨e, q⟩)
        have e2 : ¬ z.2 < y.2 := fun q => n2 (.inl ⟨by rw [c, e], q⟩)
        omega
      · have e1 : ¬ y.1.cps.toList < x.1.cps.toList := fun q => n1 (.inr ⟨e, q⟩)
        have e2 : ¬ z.1.cps.toList < y.1.cps.toList := fun q => n2 (.inr ⟨by rw [c]; exact fun w => e w.symm, q⟩)
        rw [c] at e2
        exact e (str_eq (List.le_antisymm e2 e1))
    · have l1 : x.1.cps.toList ≤ y.1.cps.toList := by
        by_cases e : y.1 = x.1
        · rw [e]
          exact List.le_refl _
        · exact fun q => n1 (.inr ⟨e, q⟩)
      have l2 : y.1.cps.toList ≤ z.1.cps.toList := by
        by_cases e : z.1 = y.1
        · rw [e]
          exact List.le_refl _
        · exact fun q => n2 (.inr ⟨e, q⟩)
      exact (List.le_trans l1 l2) d
/-- a value that is a layer -/
def IsLay (h : Heap) (v : Value) (l : Lay) : Prop := ∃ a o t u n, v = .ref a ∧ h.get? a = some o ∧ o.cls = .type "tuple" ∧ o.data = .seq #[.str l.1 t, .int l.2 u] n
theorem IsLay.keeps {h h' : Heap} {v : Value} {l : Lay} (p : IsLay h v l) (k : ∀ b o, h.get? b = some o → o.cls = .type "tuple" → h'.get? b = some o) : IsLay h' v l := by
  obtain ⟨a, o, t, u, n, e, ho, hc, hd⟩ := p
  exact ⟨a, o, t, u, n, e, k _ _ ho hc, hc, hd⟩
theorem IsLay.uniq {h : Heap} {v : Value} {l m : Lay} (p : IsLay h v l) (q : IsLay h v m) : l = m := by
  obtain ⟨a, o, t, u, n, e, ho, hc, hd⟩ := p
  obtain ⟨a', o', t', u', n', e', ho', hc', hd'⟩ := q
  rw [e] at e'
  cases e'
  rw [ho] at ho'
  cases ho'
  rw [hd] at hd'
  injection hd' with h1 h2
  have h3 := congrArg Array.toList h1
  simp at h3
  obtain ⟨⟨x1, _⟩, ⟨x2, _⟩⟩ := h3
  exact Prod.ext x1 x2
section
variable {prog : Program} {w : World} {A : Around} {E : Value → Shared → Prop} {s : Shared}
theorem firstsL {h : Heap} : ∀ {vs : List Value}, (∀ v ∈ vs, ∃ l, IsLay h v l) → ∃ fs : List Value, PySem.W.KatTups h vs fs ∧ fs.length = vs.length ∧ ∀ f ∈ fs, ∃ x t, f = Value.str x t
  | [], _ => ⟨[], PySem.W.KatTups.nil, rfl, fun _ hm => by simp at hm⟩
  | v :: vs, hp => by
    obtain ⟨fs, h1, h2, h3⟩ := firstsL (vs := vs) fun v' hm => hp v' (List.mem_cons_of_mem _ hm)
    obtain ⟨l, a, o, t, u, n, e, ho, hc, hd⟩ := hp v (List.mem_cons_self ..)
    subst e
    refine ⟨.str l.1 t :: fs, PySem.W.KatTups.cons ho hc hd rfl h1, by rw [List.length_cons, List.length_cons, h2], fun f hm => ?_⟩
    rcases List.mem_cons.mp hm with rfl | hm
    · exact ⟨l.1, t, rfl⟩
    · exact h3 f hm
theorem layCmp {vs : List Value} {k : Value → Lay} (hp : ∀ v ∈ vs, IsLay s.heap v (k v)) : Cmp prog w A s (tuples' true) (fun p => p.1 ∈ vs) (lt2 fun v u => ltL (k v) (k u)) := by
  intro p q hm hm'
  have h1 := hp _ hm
  have h2 := hp _ hm'
  show wpAny (model prog w) A (keyLt' (tuples' true) p.1 q.1) (fun r s' => s' = s ∧ r = ltL (k p.1) (k q.1)) (fun _ _ => False) s
  unfold ltL
  generalize (k p.1) = l at h1 ⊢
  generalize (k q.1) = m at h2 ⊢
  obtain ⟨x, y⟩ := l
  obtain ⟨x', y'⟩ := m
  obtain ⟨a, o, t, u, n, e, ho, hc, hd⟩ := h1
  obtain ⟨a', o', t', u', n', e', ho', hc', hd'⟩ := h2
  rw [e, e']
  refine PySem.W.kat_lt ho hd ho' hd' ?_
  show PySem.W.KatLex prog w A true (decide (2 < 2)) _ [(.str x t, .str x' t'), (.int y u, .int y' u')] 0 s
  refine PySem.W.kat_cons (SeqAt.EqAt.str_str x t x' t' prog w _ _ ?_)
  refine PySem.W.kat_go (fun e1 => ?_) (fun e1 => ?_)
  · have ex : x = x' := by simpa using e1
    refine PySem.W.kat_yes (PySem.W.kat_cons (SeqAt.EqAt.int_int y u y' u' prog w _ _ ?_))
    refine PySem.W.kat_go (fun e2 => ?_) (fun e2 => ?_)
    · have ey : y = y' := by simpa using e2
      have e3 : (if x = x' then decide (y < y') else decide (x.cps.toList < x'.cps.toList)) = false := by
        rw [if_pos ex, ey]
        exact decide_eq_false (Int.lt_irrefl _)
      exact PySem.W.kat_yes (PySem.W.kat_nil ⟨rfl, e3.symm⟩)
    · have e3 : (if x = x' then decide (y < y') else decide (x.cps.toList < x'.cps.toList)) = decide (y < y') := if_pos ex
      refine PySem.W.kat_no (PySem.W.kat_one _ _ (PyProof.Rows.lt_int ?_))
      exact (show s = s ∧ decide (y < y') = (if x = x' then decide (y < y') else decide (x.cps.toList < x'.cps.toList)) from ⟨rfl, e3.symm⟩)
  · have ex : ¬ x = x' := by simpa using e1
    have e3 : (if x = x' then decide (y < y') else decide (x.cps.toList < x'.cps.toList)) = decide (x.cps.toList < x'.cps.toList) := if_neg ex
    exact PySem.W.kat_no (oneLt_str ⟨rfl, e3.symm⟩)
theorem laysSortable {a : Addr} {vs : List Value} {k : Value → Lay} (h0 : 0 < vs.length) (hp : ∀ v ∈ vs, IsLay s.heap v (k v)) (ha : ∀ o, s.heap.get? a = some o → o.cls ≠ .type "tuple") : SortableO prog w A s a vs fun v u => ltL (k v) (k u) := by
  intro h' keep
  have hp' : ∀ v ∈ vs, IsLay h' v (k v) := fun v hm => (hp v hm).keeps fun b o e c => keep b o (fun z => by subst z; exact ha o e c) e
  obtain ⟨fs, h1, h2, h3⟩ := firstsL fun v hm => ⟨_, hp' v hm⟩
  refine ⟨tuples' true, fun Q E hq => ?_, layCmp hp'⟩
  refine PySem.W.kat_kind (T := .type "str") h1 (by omega) (fun f hm => ?_) (by rfl) ?_
  · obtain ⟨x, t, rfl⟩ := h3 f hm
    exact PySem.W.Looks.now
  · have e : (Value.type "str" != Value.type "tuple") = true := by first | decide +kernel | rfl | decide
    rw [e]
    exact hq
theorem sortedLays {l : Addr} {vs : List Value} {k : Value → Lay} {Q : Value → Shared → Prop} (hl : s.heap.IsList l vs.toArray) (hz : vs.length ≤ sizeLine) (hp : ∀ v ∈ vs, IsLay s.heap v (k v))
    (h : ∀ (h' : Heap) (d : Addr) (out : List Value), Srtd (fun v u => ltL (k v) (k u)) out → Stb (fun v u => ltL (k v) (k u)) out vs → (∀ b o, s.heap.get? b = some o → h'.get? b = some o) → s.heap.objs.size ≤ d → (∃ n, h'.get? d = some (seqObj "list" out.toArray n)) → Q (.ref d) { s with heap := h' }) :
    wpAny (model prog w) A (call (.builtin "sorted") [.ref l]) Q E s := by
  have O : Swo fun v u => ltL (k v) (k u) := ⟨fun x y h => swoL.asym _ _ h, fun x y z h1 h2 => swoL.tr _ _ _ h1 h2⟩
  refine sorted_ord O hl hz (fun h2 h₁ a ha kk => ?_) fun out hs hb => ?_
  · refine laysSortable (s := { s with heap := h₁ }) (by omega) (fun v hm => (hp v hm).keeps fun b o e _ => (kk b o e).2) fun o e => ?_
    have e' : some o = some (seqObj "list" vs.toArray 0) := e.symm.trans ha
    cases e'
    intro c
    exact absurd (Value.type.inj c) (by decide)
  · exact h _ _ out hs hb (fun b o e => sortedAll_old e) (Nat.le_succ _) (sortedAll_at s.heap vs out.toArray)
end
/-- sorted(xs), xs a list of layers -/
def rSortedL (K : PySem.W.Frag) : List V → Hp → VK → Prop := fun vs H Q => ∃ (a : Addr) (xs : List V) (ls : List Lay), vs = [V.ref a] ∧ SqL K H a xs ∧ DpAll K H xs (ls.map layD) ∧
  ∀ (ys : List V) (ms : List Lay) (p : Addr), ms.Perm ls → ms.Pairwise leL → DpAll K H ys (ms.map layD) → H p = none → Q (.ref p) (upd H p (.lst ys))
section
variable {X : Cx} {K : PySem.W.Frag}
theorem laysOf {pins : List (Addr × Obj)} {σ : L2.St} {H : Hp} {s : Shared} {xs : List V} {its : List Value} {ls : List Lay} (I : Inv X pins σ H s) (rv : Vals xs its) (hx : DpAll X.K H xs (ls.map layD)) :
    ∃ k : Value → Lay, (∀ v ∈ its, IsLay s.heap v (k v) ∧ Dp X.K H (backV v) (layD (k v))) ∧ xs = its.map backV ∧ (∀ u ∈ its, ∃ a, u = Value.ref a) ∧ its.map k = ls := by
  have lay_dp : ∀ t l, Dp X.K H (V.ref t) (layD l) → IsLay s.heap (Value.ref t) l := fun t l d => by
    obtain ⟨t', e, sq⟩ := lay_inv d
    cases e
    obtain ⟨its2, r2, tup, _⟩ := I.tuple sq
    obtain ⟨o, ho, hc, n, hd⟩ := tup
    obtain ⟨u1, u2, rfl, ri, rj⟩ := vals2 r2
    obtain ⟨t1, rfl⟩ := ri
    obtain ⟨t2, rfl⟩ := rj
    exact ⟨t, o, t1, t2, n, rfl, ho, hc, hd⟩
  obtain ⟨e1, e2⟩ := refs_back rv fun x m => by
    obtain ⟨i, e⟩ := List.mem_iff_getElem?.mp m
    obtain ⟨l, b, _, e2, sq, d⟩ := lays_get hx e
    exact ⟨b, e2⟩
  have at_ : ∀ (i : Nat) v, its[i]? = some v → ∃ l, ls[i]? = some l ∧ Dp X.K H (backV v) (layD l) ∧ IsLay s.heap v l := fun i v hi => by
    obtain ⟨t, rfl⟩ := e2 v (List.mem_of_getElem? hi)
    have hxi : xs[i]? = some (V.ref t) := by
      rw [e1, List.getElem?_map, hi]
      rfl
    obtain ⟨l, b, hl, e, sq, d⟩ := lays_get hx hxi
    exact ⟨l, hl, d, lay_dp t l d⟩
  let k : Value → Lay := fun v => Classical.epsilon fun l => IsLay s.heap v l
  have hk : ∀ v ∈ its, IsLay s.heap v (k v) ∧ Dp X.K H (backV v) (layD (k v)) := fun v hv => by
    obtain ⟨i, hi⟩ := List.mem_iff_getElem?.mp hv
    obtain ⟨l, _, d, il⟩ := at_ i v hi
    have sp : IsLay s.heap v (k v) := Classical.epsilon_spec ⟨l, il⟩
    rw [sp.uniq il]
    exact ⟨il, d⟩
  have mapk : its.map k = ls := by
    refine List.ext_getElem? fun i => ?_
    rw [List.getElem?_map]
    cases hi : its[i]? with
    | none =>
      have len1 := lays_len hx
      have len2 : xs.length = its.length := by rw [e1, List.length_map]
      have : its.length ≤ i := List.getElem?_eq_none_iff.mp hi
      rw [List.getElem?_eq_none (show ls.length ≤ i by omega)]
      rfl
    | some v =>
      obtain ⟨l, hl, d, il⟩ := at_ i v hi
      rw [hl]
      show some (k v) = some l
      rw [(hk v (List.mem_of_getElem? hi)).1.uniq il]
  exact ⟨k, hk, e1, e2, mapk⟩
theorem k_sortedL (h : X.K = K) : CallR X (.builtin "sorted") (rSortedL K) := by
  subst h
  intro pins s σ H vs us Q I r h
  obtain ⟨a, xs, ls, rfl, hs, hx, q⟩ := h
  obtain ⟨its, rv, hl, hz⟩ := I.list hs
  obtain ⟨u, rfl, ru⟩ := vals1 r
  obtain rfl : u = Value.ref a := ru
  obtain ⟨k, hk, e1, e2, mapk⟩ := laysOf I rv hx
  refine sortedLays (k := k) hl.isList (by rw [← rv.length]; exact hz) (fun v hv => (hk v hv).1) fun h' d out h1 h2 kp hd hn => ?_
  have mem : ∀ u ∈ out, u ∈ its := fun u hu => h2.perm.mem_iff.mp hu
  have h3 : ∀ u ∈ out, ∃ a, u = Value.ref a := fun u hu => e2 u (mem u hu)
  obtain ⟨n, hn⟩ := hn
  have all : ∀ o : List Value, (∀ u ∈ o, u ∈ its) → DpAll X.K H (o.map backV) ((o.map k).map layD) := fun o => by
    induction o with
    | nil => exact fun _ => .nil
    | cons u o ih => exact fun m => .cons (hk u (m u (List.mem_cons_self ..))).2 (ih fun y my => m y (List.mem_cons_of_mem _ my))
  refine ⟨.ref d, upd H d (.lst (out.map backV)), I.laid (t' := s.toks) kp hd ⟨?_, out, n, vals_back h3, hn⟩, rfl, q _ (out.map k) d ?_ ?_ (all out mem) (I.hok.fresh hd)⟩
  · rw [List.length_map, h2.perm.length_eq, ← rv.length]
    exact hz
  · rw [← mapk]
    exact h2.perm.map k
  · exact List.pairwise_map.mpr h1
end
end Fd

/-! ### rows in their normal form -/
namespace Fd
open PySem PySem.Spec PyProof.Rows L2
def ins (l : Lay) : List Lay → List Lay
  | [] => [l]
  | m :: r => if l.1 = m.1 ∧ m.2 < l.2 then m :: ins l r else l :: m :: r
def nrm : List Lay → List Lay
  | [] => []
  | l :: r => ins l (nrm r)
def Settled : List Lay → Prop
  | [] => True
  | x :: r => (∀ y, r.head? = some y → x.1 = y.1 → x.2 ≤ y.2) ∧ Settled r
theorem ins_tags (l : Lay) : ∀ r : List Lay, (ins l r).map Prod.fst = l.1 :: r.map Prod.fst
  | [] => rfl
  | m :: r => by
    unfold ins
    by_cases h : l.1 = m.1 ∧ m.2 < l.2
    · rw [if_pos h, List.map_cons, ins_tags l r, List.map_cons, h.1]
    · rw [if_neg h]
      rfl
theorem nrm_tags : ∀ ls : List Lay, (nrm ls).map Prod.fst = ls.map Prod.fst
  | [] => rfl
  | l :: r => by
    show (ins l (nrm r)).map Prod.fst = _
    rw [ins_tags, nrm_tags r]
    rfl
theorem ins_perm (l : Lay) : ∀ r : List Lay, (ins l r).Perm (l :: r)
  | [] => List.Perm.refl _
  | m :: r => by
    unfold ins
    by_cases h : l.1 = m.1 ∧ m.2 < l.2
    · rw [if_pos h]
      exact ((ins_perm l r).cons m).trans (List.Perm.swap l m r)
    · rw [if_neg h]
theorem nrm_perm : ∀ ls : List Lay, (nrm ls).Perm ls
  | [] => List.Perm.refl _
  | l :: r => (ins_perm l (nrm r)).trans ((nrm_perm r).cons l)
theorem ins_head {l : Lay} {r : List Lay} {y : Lay} (h : (ins l r).head? = some y) : y = l ∨ (r.head? = some y ∧ l.1 = y.1 ∧ y.2 < l.2) := by
  cases r with
  | nil =>
    left
    exact (Option.some.inj h).symm
  | cons m r =>
    unfold ins at h
    by_cases q : l.1 = m.1 ∧ m.2 < l.2
    · rw [if_pos q] at h
      have := Option.some.inj h
      subst this
      exact .inr ⟨rfl, q.1, q.2⟩
    · rw [if_neg q] at h
      exact .inl (Option.some.inj h).symm
theorem ins_settled {l : Lay} : ∀ {r : List Lay}, Settled r → Settled (ins l r)
  | [], _ => And.intro (fun y h => nomatch h) True.intro
  | m :: r, h => by
    unfold ins
    by_cases q : l.1 = m.1 ∧ m.2 < l.2
    · rw [if_pos q]
      refine ⟨fun y hy e => ?_, ins_settled h.2⟩
      rcases ins_head hy with rfl | ⟨hy2, _⟩
      · omega
      · exact h.1 y hy2 e
    · rw [if_neg q]
      refine ⟨fun y hy e => ?_, h⟩
      obtain rfl := Option.some.inj hy
      have : ¬ m.2 < l.2 := fun z => q ⟨e, z⟩
      omega
theorem nrm_settled : ∀ ls : List Lay, Settled (nrm ls)
  | [] => trivial
  | l :: r => ins_settled (nrm_settled r)
theorem nrm_self : ∀ {ls : List Lay}, Settled ls → nrm ls = ls
  | [], _ => rfl
  | l :: r, h => by
    show ins l (nrm r) = _
    rw [nrm_self h.2]
    cases r with
    | nil => rfl
    | cons m r =>
      unfold ins
      rw [if_neg]
      rintro ⟨a, b⟩
      have := h.1 m rfl a
      omega
theorem nrm_nrm (ls : List Lay) : nrm (nrm ls) = nrm ls := nrm_self (nrm_settled ls)
theorem ins_comm {a b : Lay} (e : a.1 = b.1) : ∀ s : List Lay, ins a (ins b s) = ins b (ins a s)
  | [] => by
    obtain ⟨t, x⟩ := a
    obtain ⟨u, y⟩ := b
    simp only at e
    subst e
    unfold ins ins
    simp only [true_and]
    rcases Int.lt_trichotomy x y with q | q | q
    · rw [if_neg (by omega), if_pos q]
    · subst q
      rfl
    · rw [if_pos q, if_neg (by omega)]
  | m :: s => by
    have ih := ins_comm e s
    obtain ⟨t, x⟩ := a
    obtain ⟨u, y⟩ := b
    obtain ⟨v, z⟩ := m
    simp only at e
    subst e
    by_cases tv : t = v
    · subst tv
      by_cases h1 : z < x
      · by_cases h2 : z < y
        · have e1 : ins (t, y) ((t, z) :: s) = (t, z) :: ins (t, y) s := by simp [ins, h2]
          have e2 : ins (t, x) ((t, z) :: s) = (t, z) :: ins (t, x) s := by simp [ins, h1]
          have e3 : ins (t, x) ((t, z) :: ins (t, y) s) = (t, z) :: ins (t, x) (ins (t, y) s) := by simp [ins, h1]
          have e4 : ins (t, y) ((t, z) :: ins (t, x) s) = (t, z) :: ins (t, y) (ins (t, x) s) := by simp [ins, h2]
          rw [e1, e2, e3, e4, ih]
        · have h3 : y < x := by omega
          have h4 : ¬ x < y := by omega
          simp [ins, h1, h2, h3, h4]
      · by_cases h2 : z < y
        · have h3 : x < y := by omega
          have h4 : ¬ y < x := by omega
          simp [ins, h1, h2, h3, h4]
        · rcases Int.lt_trichotomy x y with q | q | q
          · have h4 : ¬ y < x := by omega
            simp [ins, h1, h2, q, h4]
          · subst q
            rfl
          · have h4 : ¬ x < y := by omega
            simp [ins, h1, h2, q, h4]
    · rcases Int.lt_trichotomy x y with q | q | q
      · have h4 : ¬ y < x := by omega
        simp [ins, tv, q, h4]
      · subst q
        rfl
      · have h4 : ¬ x < y := by omega
        simp [ins, tv, q, h4]
theorem nrm_swap {a b : Lay} (e : a.1 = b.1) (r : List Lay) : ∀ p : List Lay, nrm (p ++ a :: b :: r) = nrm (p ++ b :: a :: r)
  | [] => ins_comm e (nrm r)
  | x :: p => by
    show ins x (nrm (p ++ a :: b :: r)) = ins x (nrm (p ++ b :: a :: r))
    rw [nrm_swap e r p]
def Uni (g : List Lay) : Prop := ∀ x ∈ g, ∀ y ∈ g, x.1 = y.1
theorem nrm_uni {g h : List Lay} (p : g.Perm h) : Uni g → nrm g = nrm h := by
  induction p with
  | nil => exact fun _ => rfl
  | cons x p ih =>
    intro u
    show ins x _ = ins x _
    rw [ih fun a ma b mb => u a (List.mem_cons_of_mem _ ma) b (List.mem_cons_of_mem _ mb)]
  | swap x y l =>
    intro u
    exact ins_comm (u y (List.mem_cons_self ..) x (List.mem_cons_of_mem _ (List.mem_cons_self ..))) (nrm l)
  | trans p q ih1 ih2 =>
    intro u
    rw [ih1 u]
    exact ih2 fun a ma b mb => u a (p.mem_iff.mpr ma) b (p.mem_iff.mpr mb)
theorem sorted_settled : ∀ {g : List Lay}, g.Pairwise leL → Settled g
  | [], _ => trivial
  | x :: r, h => by
    obtain ⟨a, b⟩ := List.pairwise_cons.mp h
    refine ⟨fun y hy e => ?_, sorted_settled b⟩
    have q := a y (List.mem_of_mem_head? hy)
    unfold leL ltL at q
    rw [if_pos e.symm] at q
    have := of_decide_eq_false q
    omega
/-- what sorted gives of a stretch -/
theorem sorted_nrm {g ms : List Lay} (u : Uni g) (p : ms.Perm g) (s : ms.Pairwise leL) : ms = nrm g := by
  rw [nrm_uni p.symm u, nrm_self (sorted_settled s)]
theorem ins_app {x : Lay} {S : List Lay} (h : ∀ m, S.head? = some m → x.1 ≠ m.1) : ∀ T : List Lay, ins x (T ++ S) = ins x T ++ S
  | [] => by
    cases S with
    | nil => rfl
    | cons m S =>
      show ins x (m :: S) = x :: m :: S
      unfold ins
      rw [if_neg]
      exact fun q => h m rfl q.1
  | m :: T => by
    show ins x (m :: (T ++ S)) = _
    unfold ins
    by_cases q : x.1 = m.1 ∧ m.2 < x.2
    · rw [if_pos q, if_pos q, ins_app h T]
      rfl
    · rw [if_neg q, if_neg q]
      rfl
theorem nrm_head {R : List Lay} {m : Lay} (h : (nrm R).head? = some m) : ∃ m', R.head? = some m' ∧ m'.1 = m.1 := by
  have t := nrm_tags R
  cases e : nrm R with
  | nil => rw [e] at h; cases h
  | cons a b =>
    rw [e] at h t
    obtain rfl := Option.some.inj h
    cases R with
    | nil => cases t
    | cons c d => exact ⟨c, rfl, (List.cons.inj t).1.symm⟩
theorem nrm_app {R : List Lay} : ∀ {g : List Lay}, (∀ x ∈ g, ∀ m, R.head? = some m → x.1 ≠ m.1) → nrm (g ++ R) = nrm g ++ nrm R
  | [], _ => rfl
  | x :: g, h => by
    show ins x (nrm (g ++ R)) = ins x (nrm g) ++ nrm R
    rw [nrm_app fun y my => h y (List.mem_cons_of_mem _ my)]
    refine ins_app (fun m hm => ?_) (nrm g)
    obtain ⟨m', h1, h2⟩ := nrm_head hm
    rw [← h2]
    exact h x (List.mem_cons_self ..) m' h1
/-- neighbours have unlike tags -/
def Adj : List (List Lay) → Prop
  | [] => True
  | [_] => True
  | g :: h :: r => (∀ x ∈ g, ∀ y ∈ h, x.1 ≠ y.1) ∧ Adj (h :: r)
theorem nrm_flat : ∀ {gss : List (List Lay)}, Adj gss → (∀ g ∈ gss, g ≠ []) → nrm gss.flatten = (gss.map nrm).flatten
  | [], _, _ => rfl
  | [g], _, _ => by simp
  | g :: h :: r, a, ne => by
    have ih := nrm_flat a.2 fun x m => ne x (List.mem_cons_of_mem _ m)
    show nrm (g ++ (h :: r).flatten) = nrm g ++ ((h :: r).map nrm).flatten
    rw [← ih]
    refine nrm_app fun x mx m hm => ?_
    cases h with
    | nil => exact absurd rfl (ne [] (List.mem_cons_of_mem _ (List.mem_cons_self ..)))
    | cons c d =>
      have e : ((c :: d) :: r).flatten.head? = some c := rfl
      rw [e] at hm
      obtain rfl := Option.some.inj hm
      exact a.1 x mx c (List.mem_cons_self ..)
theorem adj_new {h : List Lay} : ∀ {i : List (List Lay)} {g : List Lay}, Adj (i ++ [g]) → (∀ x ∈ g, ∀ y ∈ h, x.1 ≠ y.1) → Adj (i ++ [g] ++ [h])
  | [], g, _, k => ⟨k, trivial⟩
  | [a], g, q, k => ⟨q.1, k, trivial⟩
  | a :: b :: i, g, q, k => ⟨q.1, adj_new (i := b :: i) q.2 k⟩
theorem adj_more {h : List Lay} : ∀ {i : List (List Lay)} {g : List Lay}, Adj (i ++ [g]) → (∀ y ∈ h, ∃ x ∈ g, y.1 = x.1) → Adj (i ++ [h])
  | [], g, _, k => trivial
  | [a], g, q, k => ⟨fun x mx y my => by
      obtain ⟨z, mz, e⟩ := k y my
      rw [e]
      exact q.1 x mx z mz, trivial⟩
  | a :: b :: i, g, q, k => ⟨q.1, adj_more (i := b :: i) q.2 k⟩
/-! inversions -/
def inv : List Lay → Nat
  | [] => 0
  | l :: r => r.countP (fun m => decide (m.2 < l.2)) + inv r
theorem inv_swap {a b : Lay} (h : b.2 < a.2) (r : List Lay) : ∀ p : List Lay, inv (p ++ b :: a :: r) + 1 = inv (p ++ a :: b :: r)
  | [] => by
    show (a :: r).countP _ + (r.countP _ + inv r) + 1 = (b :: r).countP _ + (r.countP _ + inv r)
    rw [List.countP_cons_of_neg (by simp; omega), List.countP_cons_of_pos (by simpa using h)]
    omega
  | x :: p => by
    have ih := inv_swap h r p
    show (p ++ b :: a :: r).countP _ + inv (p ++ b :: a :: r) + 1 = (p ++ a :: b :: r).countP _ + inv (p ++ a :: b :: r)
    have pm : (p ++ b :: a :: r).Perm (p ++ a :: b :: r) := List.Perm.append_left p (List.Perm.swap a b r)
    rw [pm.countP_eq]
    omega
theorem inv_le : ∀ ls : List Lay, inv ls ≤ ls.length * ls.length
  | [] => Nat.le_refl _
  | l :: r => by
    have ih := inv_le r
    have c := List.countP_le_length (p := fun m : Lay => decide (m.2 < l.2)) (l := r)
    show r.countP _ + inv r ≤ _
    rw [List.length_cons, Nat.mul_succ, Nat.succ_mul]
    omega
theorem settled_of : ∀ {ls : List Lay}, (∀ (k : Nat) a b, ls[k]? = some a → ls[k + 1]? = some b → a.1 = b.1 → a.2 ≤ b.2) → Settled ls
  | [], _ => trivial
  | x :: r, h => by
    refine ⟨fun y hy e => h 0 x y rfl (by rw [List.getElem?_cons_succ, ← List.head?_eq_getElem?]; exact hy) e, settled_of fun k a b p q => h (k + 1) a b (by simpa using p) (by simpa using q)⟩
theorem parts2 {ls : List Lay} {k : Nat} {a b : Lay} (h : ls[k]? = some a) (h2 : ls[k + 1]? = some b) : ls = ls.take k ++ a :: b :: ls.drop (k + 2) := by
  obtain ⟨l1, e1⟩ := List.getElem?_eq_some_iff.mp h
  obtain ⟨l2, e2⟩ := List.getElem?_eq_some_iff.mp h2
  conv => lhs; rw [← List.take_append_drop k ls, List.drop_eq_getElem_cons l1, List.drop_eq_getElem_cons l2, e1, e2]
theorem inv_zero {ls : List Lay} (h : inv ls = 0) : Settled ls := settled_of fun k a b p q e => by
  by_cases z : b.2 < a.2
  · have s := inv_swap z (ls.drop (k + 2)) (ls.take k)
    rw [← parts2 p q] at s
    omega
  · omega
end Fd

/-! ### sorted of a tuple of layers -/
namespace Fd
open PySem PySem.Spec PyProof.Rows L2 SrtO Srt HT
section
variable {prog : Program} {w : World} {A : Around} {E : Value → Shared → Prop} {s : Shared}
/-- the heap behind what collects the items of a tuple -/
def gathered (h : Heap) (vs : List Value) : Heap := (h.push (seqObj "list" #[] 0)).update h.objs.size (Obj.mapSeq (· ++ vs.toArray))
theorem gathered_size (h : Heap) (vs : List Value) : (gathered h vs).objs.size = h.objs.size + 1 := by
  unfold gathered
  rw [Heap.size_update, size_push']
theorem gathered_old {h : Heap} {vs : List Value} {b : Addr} {o : Obj} (e : h.get? b = some o) : (gathered h vs).get? b = some o := by
  have lt : b < h.objs.size := Heap.lt_size e
  unfold gathered
  rw [Heap.get?_update_ne _ _ _ _ (Nat.ne_of_lt lt)]
  exact Heap.get?_push_of_some _ e
theorem collectT {l : Addr} {vs : List Value} {Q : List Value → Shared → Prop} (ht : IsTup s.heap l vs.toArray) (hz : vs.length ≤ sizeLine) (h : Q vs { s with heap := gathered s.heap vs }) : wpAny (model prog w) A (collect (.ref l)) Q E s := by
  obtain ⟨o, ho, hc, n, hd⟩ := ht
  have old : (s.heap.push (seqObj "list" #[] 0)).get? l = some o := Heap.get?_push_of_some _ ho
  have new : (s.heap.push (seqObj "list" #[] 0)).get? s.heap.objs.size = some (seqObj "list" #[] 0) := Heap.get?_push_size _ rfl
  unfold collect
  refine wpAny_bind (wpAny_runValue (codeAny_builtin entry_proto_collect' ?_))
  refine wpAny_bind (wpAny_newList (wpAny_pure ⟨Code.quiet_builtin _ (by decide +kernel), codeAny_builtin entry_list_iadd' ?_⟩))
  show wpAny _ _ (Builtin.List.listExtendWith (.ref s.heap.objs.size) (.ref l) (.ref s.heap.objs.size)) _ _ { s with heap := s.heap.push (seqObj "list" #[] 0) }
  unfold Builtin.List.listExtendWith
  refine wpAny_bind (wpAny_typeOf (T := "tuple") ⟨o, old, hc⟩ ?_)
  have tt : (Value.type "tuple" == Value.type "tuple") = true := by rfl
  rw [if_pos (by rw [tt]; simp)]
  refine wpAny_bind (listItems_at old hd (wpAny_bind (listItems_at new rfl ?_)))
  rw [if_neg (by simp)]
  refine wpAny_bind (listUpdate_at new rfl ?_ (Nat.zero_le _) (by show (#[] ++ vs.toArray).size ≤ sizeLine + 1; simp; omega))
  refine wpAny_pure ?_
  show wpAny (model prog w) A (do
      let o ← load s.heap.objs.size
      match o.data with
      | .seq xs _ => pure xs.toList
      | _ => unsupported "internal:collect") Q E { s with heap := gathered s.heap vs }
  refine wpAny_bind (wpAny_load (get?_update_seq new _) ?_)
  show wpAny _ _ (pure ((#[] : Array Value) ++ vs.toArray).toList) Q E _
  rw [show ((#[] : Array Value) ++ vs.toArray).toList = vs by simp]
  exact wpAny_pure h
theorem sortedLaysT {l : Addr} {vs : List Value} {k : Value → Lay} {Q : Value → Shared → Prop} (hl : IsTup s.heap l vs.toArray) (hz : vs.length ≤ sizeLine) (hp : ∀ v ∈ vs, IsLay s.heap v (k v))
    (h : ∀ (h' : Heap) (d : Addr) (out : List Value), Srtd (fun v u => ltL (k v) (k u)) out → Stb (fun v u => ltL (k v) (k u)) out vs → (∀ b o, s.heap.get? b = some o → h'.get? b = some o) → s.heap.objs.size ≤ d → (∃ n, h'.get? d = some (seqObj "list" out.toArray n)) → Q (.ref d) { s with heap := h' }) :
    wpAny (model prog w) A (call (.builtin "sorted") [.ref l]) Q E s := by
  have O : Swo fun v u => ltL (k v) (k u) := ⟨fun x y h => swoL.asym _ _ h, fun x y z h1 h2 => swoL.tr _ _ _ h1 h2⟩
  refine Calls.call_function_entry kind_sorted plain_sorted entry_sorted (args_sorted1 _) ?_
  unfold Builtin.«sorted»
  refine wpAny_bind (m := checkCount "sorted" 1 1 _) (wpAny_pure (wpAny_bind (collectT hl hz (wpAny_bind (wpAny_newList ?_ hz)))))
  have at1 : ((gathered s.heap vs).push (seqObj "list" vs.toArray 0)).get? (s.heap.objs.size + 1) = some (seqObj "list" vs.toArray 0) := by
    rw [← gathered_size s.heap vs]
    exact Heap.get?_push_size _ rfl
  have old : ∀ b o, s.heap.get? b = some o → ((gathered s.heap vs).push (seqObj "list" vs.toArray 0)).get? b = some o := fun b o q => Heap.get?_push_of_some _ (gathered_old q)
  show wpAny _ _ _ _ _ { s with heap := (gathered s.heap vs).push (seqObj "list" vs.toArray 0) }
  rw [gathered_size]
  refine wpAny_bind (wpAny_holding (wpAny_call_entry slot_list_sort ⟨_, at1, rfl⟩ entry_list_sort (list_sort_ord O at1 hz (fun h2 => ?_) fun out hs hb => ⟨_, rfl, ?_⟩) (args_list_sort _)))
  · refine laysSortable (s := { s with heap := (gathered s.heap vs).push (seqObj "list" vs.toArray 0) }) (by omega) (fun v hm => (hp v hm).keeps fun b o e _ => old b o e) fun o e => ?_
    have e' : some o = some (seqObj "list" vs.toArray 0) := e.symm.trans at1
    cases e'
    intro c
    exact absurd (Value.type.inj c) (by decide)
  · refine wpAny_pure ⟨_, rfl, h _ _ out hs hb (fun b o e => ?_) (Nat.le_succ _) (sortedHeap_at at1)⟩
    rw [sortedHeap_old (Nat.ne_of_lt (Nat.lt_succ_of_lt (Heap.lt_size e))) (Nat.lt_trans (Heap.lt_size e) (by rw [size_push', gathered_size]; omega))]
    exact old b o e
end
/-- sorted(t), t a tuple of layers -/
def rSortedT (K : PySem.W.Frag) : List V → Hp → VK → Prop := fun vs H Q => ∃ (a : Addr) (xs : List V) (ls : List Lay), vs = [V.ref a] ∧ SqT K H a xs ∧ DpAll K H xs (ls.map layD) ∧
  ∀ (ys : List V) (ms : List Lay) (p : Addr), ms.Perm ls → ms.Pairwise leL → DpAll K H ys (ms.map layD) → H p = none → Q (.ref p) (upd H p (.lst ys))
section
variable {X : Cx} {K : PySem.W.Frag}
theorem k_sortedT (h : X.K = K) : CallR X (.builtin "sorted") (rSortedT K) := by
  subst h
  intro pins s σ H vs us Q I r h
  obtain ⟨a, xs, ls, rfl, hs, hx, q⟩ := h
  obtain ⟨its, rv, ht, hz⟩ := I.tuple hs
  obtain ⟨u, rfl, ru⟩ := vals1 r
  obtain rfl : u = Value.ref a := ru
  obtain ⟨k, hk, e1, e2, mapk⟩ := laysOf I rv hx
  refine sortedLaysT (k := k) ht (by rw [← rv.length]; exact hz) (fun v hv => (hk v hv).1) fun h' d out h1 h2 kp hd hn => ?_
  have mem : ∀ u ∈ out, u ∈ its := fun u hu => h2.perm.mem_iff.mp hu
  have h3 : ∀ u ∈ out, ∃ a, u = Value.ref a := fun u hu => e2 u (mem u hu)
  obtain ⟨n, hn⟩ := hn
  have all : ∀ o : List Value, (∀ u ∈ o, u ∈ its) → DpAll X.K H (o.map backV) ((o.map k).map layD) := fun o => by
    induction o with
    | nil => exact fun _ => .nil
    | cons u o ih => exact fun m => .cons (hk u (m u (List.mem_cons_self ..))).2 (ih fun y my => m y (List.mem_cons_of_mem _ my))
  refine ⟨.ref d, upd H d (.lst (out.map backV)), I.laid (t' := s.toks) kp hd ⟨?_, out, n, vals_back h3, hn⟩, rfl, q _ (out.map k) d ?_ ?_ (all out mem) (I.hok.fresh hd)⟩
  · rw [List.length_map, h2.perm.length_eq, ← rv.length]
    exact hz
  · rw [← mapk]
    exact h2.perm.map k
  · exact List.pairwise_map.mpr h1
end
end Fd

/-! ### a comprehension of two clauses -/
namespace Fd
open PySem PySem.Spec PyProof.Rows L2
def Lc2K (J : It) (g : TG) (tt : TT) (wi1 : TI) (g1 : TG) (tt1 : TT) (te : TE) (vs vs1 : List Nat) (σ : L2.St) (Q : VK) (H1 : Hp) : Prop := ∀ D, H1 D = none → ∃ W : Nat → Nat → Hp → Prop, (∃ m, W 0 m (upd H1 D (.lst []))) ∧ ∀ i m H, W i m H →
  (J.stop i H ∧ Q (.ref D) H) ∨ (J.go i H ∧ ∃ Nx : Hp → Prop, (∀ H', Nx H' → ∃ m', m' < m ∧ W (i + 1) m' H') ∧ ∀ x H', J.yld i H x H' → g x (wipe σ vs) H' fun σ2 H2 => wipe σ2 vs = wipe σ vs ∧ tt σ2 H2 fun b H3 =>
    if b = true then wi1 σ2 H3 fun J1 H4 => ∃ W1 : Nat → Nat → Hp → Prop, (∃ m, W1 0 m H4) ∧ ∀ j k H, W1 j k H →
      (J1.stop j H ∧ Nx H) ∨ (J1.go j H ∧ ∃ Nx1 : Hp → Prop, (∀ H', Nx1 H' → ∃ k', k' < k ∧ W1 (j + 1) k' H') ∧ ∀ x H', J1.yld j H x H' → g1 x (wipe σ2 vs1) H' fun σ3 H5 => wipe σ3 vs1 = wipe σ2 vs1 ∧ tt1 σ3 H5 fun b H6 =>
        if b = true then te σ3 H6 fun y H7 => ∃ acc, H7 D = some (.lst acc) ∧ acc.length < sizeLine ∧ Nx1 (upd H7 D (.lst (acc ++ [y]))) else Nx1 H6)
    else Nx H3)
theorem tLc2E {wi : TI} {g : TG} {tt : TT} {wi1 : TI} {g1 : TG} {tt1 : TT} {te : TE} {vs vs1 : List Nat} {σ : L2.St} {H : Hp} {Q : VK} :
    tLc2 wi g tt wi1 g1 tt1 te vs vs1 σ H Q = wi σ H fun J H1 => Lc2K J g tt wi1 g1 tt1 te vs vs1 σ Q H1 := rfl
/-- over a list, and for each over a new list whose items are kept as they are -/
theorem lc2Lst {K : PySem.W.Frag} {wi1 : TI} {te : TE} {vs vs1 : List Nat} {σ : L2.St} {H1 : Hp} {Q : VK} {a : Addr} {xs : List V} {j0 j1 : Nat} (R : Nat → List PyData → Prop)
    (hx : H1 a = some (.lst xs)) (hb : ∀ i ds, R i ds → ds.length ≤ 1000) (r0 : R 0 [])
    (hw : ∀ x, wipe ((wipe σ vs).set j0 (some x)) vs = wipe σ vs) (hw1 : ∀ x y, wipe ((wipe ((wipe σ vs).set j0 (some x)) vs1).set j1 (some y)) vs1 = wipe ((wipe σ vs).set j0 (some x)) vs1)
    (hte : ∀ x y H (C : V → Hp → Prop), C y H → te ((wipe ((wipe σ vs).set j0 (some x)) vs1).set j1 (some y)) H C)
    (step : ∀ i x Ha ds (C : It → Hp → Prop), xs[i]? = some x → St none H1 Ha → flatTs ds = true → R i ds →
      (∀ q ys es, Ha q = none → DpAll K Ha ys es → flatTs es = true → R (i + 1) (ds ++ es) → C (Itl K q) (upd Ha q (.lst ys))) → wi1 ((wipe σ vs).set j0 (some x)) Ha C)
    (done : ∀ D acc ds H', H1 D = none → St none H1 H' → H' D = some (.lst acc) → flatTs ds = true → DpAll K H' acc ds → R xs.length ds → Q (.ref D) H') :
    Lc2K (Itl K a) (gName j0) tYes wi1 (gName j1) tYes te vs vs1 σ Q H1 := by
  intro D hD
  have line : (1000 : Nat) < sizeLine := by decide
  have w : Walk (Itl K a) xs.length (fun H => SqL K H a xs) (YAt xs) := walk_list
  let Pv : Nat → Hp → Prop := fun i H => ∃ acc ds, St none H1 H ∧ H D = some (.lst acc) ∧ flatTs ds = true ∧ DpAll K H acc ds ∧ R i ds
  refine ⟨fun i m H => m = xs.length - i ∧ i ≤ xs.length ∧ Pv i H, ⟨xs.length, by simp, Nat.zero_le _, [], [], St.new potN hD, upd_same, by simp [flatTs], .nil, r0⟩, ?_⟩
  rintro i m H ⟨rfl, hi, acc, ds, sH, hl, fl, al, r⟩
  have hxH := SqL.of (K := K) (sH.same a _ (fun z => nomatch z) hx)
  by_cases hlt : i < xs.length
  · refine .inr ⟨w.goes i H hlt hxH, Pv (i + 1), fun H' p' => ⟨xs.length - (i + 1), by omega, rfl, hlt, p'⟩, fun x H' y => ?_⟩
    obtain ⟨rfl, e⟩ := w.yields i H x H' hlt hxH y
    refine ⟨hw x, ?_⟩
    simp only [tYes, ↓reduceIte]
    refine step i x _ ds _ e sH fl r fun q ys es nq dy fe r' => ?_
    have nqD : D ≠ q := fun z => by rw [← z, hl] at nq; cases nq
    have w1 : Walk (Itl K q) ys.length (fun H => SqL K H q ys) (YAt ys) := walk_list
    have s4 : St none H' (upd H' q (.lst ys)) := St.new potN nq
    have lenE : ys.length = es.length := DpAll.len dy
    have lenA : acc.length = ds.length := DpAll.len al
    have bound := hb _ _ r'
    rw [List.length_append] at bound
    let Pw : Nat → Hp → Prop := fun j H => ∃ acc, St none H1 H ∧ H D = some (.lst acc) ∧ H q = some (.lst ys) ∧ DpAll K H ys es ∧ DpAll K H acc (ds ++ es.take j)
    refine ⟨fun j k H => k = ys.length - j ∧ j ≤ ys.length ∧ Pw j H, ⟨ys.length, by simp, Nat.zero_le _, acc, sH.trans s4, (upd_ne nqD).trans hl, upd_same, dpsSt potN s4 fe dy, by simpa using dpsSt potN s4 fl al⟩, ?_⟩
    rintro j k Hj ⟨rfl, hj, acc1, sj, hlj, hqj, dyj, alj⟩
    have hqs := SqL.of (K := K) hqj
    by_cases jlt : j < ys.length
    · refine .inr ⟨w1.goes j Hj jlt hqs, Pw (j + 1), fun H' p' => ⟨ys.length - (j + 1), by omega, rfl, jlt, p'⟩, fun y Hk yy => ?_⟩
      obtain ⟨rfl, ey⟩ := w1.yields j Hj y Hk jlt hqs yy
      refine ⟨hw1 x y, ?_⟩
      refine hte x y _ _ ⟨acc1, hlj, ?_, acc1 ++ [y], St.put potN sj hD, upd_same, (upd_ne (Ne.symm nqD)).trans hqj, DpAll.move (fun _ _ => tup_put hlj) fe dyj, ?_⟩
      · have := DpAll.len alj
        rw [List.length_append, List.length_take] at this
        omega
      · obtain ⟨d, ed, kd⟩ := DpAll.get dyj ey
        have fd : flatT d = true := flatTs_mem fe d (List.mem_of_getElem? ed)
        have e2 : ds ++ es.take (j + 1) = (ds ++ es.take j) ++ [d] := by
          rw [List.take_add_one, ed, List.append_assoc]
          rfl
        rw [e2]
        refine DpAll.app (DpAll.move (fun _ _ => tup_put hlj) (flatTs_app fl (flatTs_of fun z m => flatTs_mem fe z (List.mem_of_mem_take m))) alj) (.cons (Dp.move (fun _ _ => tup_put hlj) fd kd) .nil)
    · have ej : j = ys.length := by omega
      subst ej
      refine .inl ⟨w1.stops Hj hqs, acc1, ds ++ es, sj, hlj, flatTs_app fl fe, ?_, r'⟩
      rw [List.take_of_length_le (by omega)] at alj
      exact alj
  · have e : i = xs.length := by omega
    subst e
    exact .inl ⟨w.stops H hxH, done D acc ds H hD sH hl fl al r⟩
end Fd
namespace Fd
open PySem PySem.Spec PyProof.Rows L2
theorem pi_listK {X : Cx} {K : PySem.W.Frag} {tg l : Expr} {tl : TE} (h : X.K = K) (hl : PE X l tl) : PI X tg l (iList K tl) := h ▸ pi_list hl
end Fd

/-! ### repr of things that may be dicts of ints by texts -/
namespace Fd
open PySem PySem.Spec PyProof.Rows L2
/-- the entries, as values and as data -/
def entsV (es : List (Str × Int)) : List (L2.Key × V) := es.map fun e => (Sum.inr e.1, V.int e.2)
def entsD (es : List (Str × Int)) : PyData := .dict (es.map fun e => (.str e.1, .int e.2))
theorem readsEnts {P : Program} {w : World} {h : Heap} : ∀ {ds : List DictEntry} {vs : List (L2.Key × Value)} {es : List (Str × Int)}, Pairs (mixKind P w) ds vs → KV (entsV es) vs →
    ReadsAll h (ds.map (·.key)) (es.map fun e => PyData.str e.1) [] ∧ ReadsAll h (ds.map (·.val)) (es.map fun e => PyData.int e.2) []
  | _, _, [], p, q => by
    cases q
    cases p
    exact ⟨.nil, .nil⟩
  | _, _, e :: es, p, q => by
    cases q with
    | cons a t =>
      cases p with
      | cons k v r =>
        obtain ⟨i1, i2⟩ := readsEnts r t
        obtain ⟨a1, tk, a2⟩ := a
        rw [← a1] at k
        have k2 : keyIs (Sum.inr e.1) _ = true := k
        rcases keyIs_shape k2 with ⟨i, u, z, _⟩ | ⟨x, u, z, z2⟩
        · cases z
        · cases z
          refine ⟨?_, ?_⟩
          · refine .cons (as := []) (bs := []) ?_ i1
            show Reads h (DictEntry.key _) _ _
            rw [z2]
            exact .str _ _
          · refine .cons (as := []) (bs := []) ?_ i2
            show Reads h (DictEntry.val _) _ _
            rw [v, a2]
            exact .int _ _
/-- plain data that repr can tell, or a dict of ints by texts -/
def Th (K : PySem.W.Frag) (H : Hp) (v : V) (d : PyData) : Prop := (Dp K H v d ∧ Nice d) ∨
  ∃ a es, v = .ref a ∧ H a = some (.dK (entsV es)) ∧ d = entsD es ∧ d.showable = true ∧ d.shown.length ≤ 1000 ∧ d.depth ≤ 10
def rReprX (K : PySem.W.Frag) : List V → Hp → VK → Prop := fun xs H Q => ∃ v d, xs = [v] ∧ Th K H v d ∧ Q (.str d.shown) H
theorem k_reprX {X : Cx} {K : PySem.W.Frag} (h : X.K = K) (gd : X.A.guards = some []) (hu : X.A.units + 70 < cLine) : CallR X (.builtin "repr") (rReprX K) := by
  subst h
  intro pins s σ H xs us Q I r h
  obtain ⟨v, d, rfl, th, q⟩ := h
  rcases th with ⟨hd, nice⟩ | ⟨a, es, rfl, ha, rfl, sh, len, dp⟩
  · exact call_reprD gd hu pins s σ H _ us Q I r ⟨v, d, rfl, hd, nice, q⟩
  · obtain ⟨u, rfl, ru⟩ := vals1 r
    cases ru
    obtain ⟨z, sm, vs, kv, o, ds, ep, ho, ex, hdat, _, pr, _⟩ := dk_of I.hok ha
    obtain ⟨i1, i2⟩ := readsEnts (h := s.heap) pr kv
    have rd : Reads s.heap (.ref a) (entsD es) (a :: [] ++ []) := by
      refine .dict ho ex.1 hdat ?_ ?_
      · rw [List.map_map]
        exact i1
      · rw [List.map_map]
        exact i2
    have line : (1000 : Nat) < sizeLine := by decide
    exact repr_of_reads' rd sh (fun _ m => by
      have e : sysModules = a := by simpa using m
      rw [e] at sm
      simp at sm) gd (by omega) (fun _ _ e => e) (fun h' u tk k => ⟨.str _, H, I.kept k, ⟨_, rfl⟩, q⟩) (by omega)
end Fd
namespace Fd
open PySem PySem.Spec PyProof.Rows L2
mutual
/-- data stay where nothing that stood is written -/
theorem dpKeep {K : PySem.W.Frag} {H H1 : Hp} (s : Same H H1) : ∀ {v : V} {d : PyData}, Dp K H v d → Dp K H1 v d
  | _, _, .non => .non
  | _, _, .bl b => .bl b
  | _, _, .int i => .int i
  | _, _, .str x => .str x
  | _, _, .lst h k => .lst (s.seq h) (dpsKeep s k)
  | _, _, .tup h k => .tup (St.tup potN (St.ofSame potN s) h) (dpsKeep s k)
theorem dpsKeep {K : PySem.W.Frag} {H H1 : Hp} (s : Same H H1) : ∀ {vs : List V} {ds : List PyData}, DpAll K H vs ds → DpAll K H1 vs ds
  | _, _, .nil => .nil
  | _, _, .cons a b => .cons (dpKeep s a) (dpsKeep s b)
end
theorem Th.keep {K : PySem.W.Frag} {H H1 : Hp} {v : V} {d : PyData} (s : Same H H1) (h : Th K H v d) : Th K H1 v d := by
  rcases h with ⟨hd, n⟩ | ⟨a, es, e, ha, r⟩
  · exact .inl ⟨dpKeep s hd, n⟩
  · exact .inr ⟨a, es, e, s _ _ ha, r⟩
/-- what isinstance says of a thing -/
def Cl (K : PySem.W.Frag) (H : Hp) (v : V) : Prop := (∃ z : Str, v = .str z ∧ z.length ≤ 20 ∧ ∀ c ∈ z.cps.toList, c < 128) ∨ (∃ i : Int, v = .int i) ∨ (∃ b : Bool, v = .bl b) ∨
  ∃ t : String, TyX K H v (.type t) ∧ kitB t "str" = some false ∧ kitB t "int" = some false ∧ kitB t "bool" = some false ∧ (∀ z : Str, v ≠ .str z) ∧ (∀ i : Int, v ≠ .int i)
theorem Cl.keep {K : PySem.W.Frag} {H H1 : Hp} {v : V} (s : Same H H1) (h : Cl K H v) : Cl K H1 v := by
  rcases h with h | h | h | ⟨t, ty, r⟩
  · exact .inl h
  · exact .inr (.inl h)
  · exact .inr (.inr (.inl h))
  · refine .inr (.inr (.inr ⟨t, ?_, r⟩))
    cases ty with
    | base b =>
      cases b with
      | non => exact .base .non
      | bl x => exact .base (.bl x)
      | int x => exact .base (.int x)
      | str x => exact .base (.str x)
      | flt x => exact .base (.flt x)
      | lst e => exact .base (.lst (s _ _ e))
      | frz e => exact .base (.frz (s _ _ e))
      | tup e => exact .base (.tup (s _ _ e))
      | dK e => exact .base (.dK (s _ _ e))
      | dT e => exact .base (.dT (s _ _ e))
    | byt b => exact .byt b
    | set e => exact .set (s _ _ e)
    | kList e c => exact .kList e c
    | kTuple e c => exact .kTuple e c
    | kDict e c => exact .kDict e c
    | fTuple e => exact .fTuple (s _ _ e)
    | fDict e => exact .fDict (s _ _ e)
/-- a short text of plain signs -/
def TxtOk (z : Str) : Prop := z.length ≤ 20 ∧ ∀ c ∈ z.cps.toList, c < 128
theorem strOk_txt {z : Str} (h : ∀ c ∈ z.cps.toList, c < 128) : PyData.strOk z = true := by
  unfold PyData.strOk
  rw [Array.all_eq_true']
  intro c m
  have := h c (Array.mem_toList_iff.mpr m)
  simp
  omega
theorem niceW_txt {z : Str} (h : TxtOk z) : NiceW 20 (.str z) := by
  refine ⟨by simp only [PyData.showable], by simp only [PyData.hasDict], ?_, by simp only [PyData.weight]; exact h.1, ?_, by simp [PyData.depth]⟩
  · simp only [PyData.leavesShort, List.all_eq_true, decide_eq_true_eq]
    intro c m
    have := h.2 c m
    omega
  · simp only [PyData.canLay0]
    exact strOk_txt h.2
theorem nice_txt {z : Str} (h : TxtOk z) : Nice (.str z) := (niceW_txt h).nice (by decide)
theorem nice_txts {zs : List Str} (n : zs.length ≤ 60) (h : ∀ z ∈ zs, TxtOk z) : NiceW (21 * zs.length) (.list (zs.map PyData.str)) := by
  have q := niceWs (n := 20) (k := 0) (ds := zs.map PyData.str) fun d m => by
    obtain ⟨z, mz, rfl⟩ := List.mem_map.mp m
    exact ⟨niceW_txt (h z mz), by simp [PyData.depth]⟩
  have := q.lst (by decide)
  rw [List.length_map] at this
  exact this
theorem niceW_bool (b : Bool) : NiceW 10 (.bool b) := by
  refine ⟨by simp only [PyData.showable], by simp only [PyData.hasDict], ?_, ?_, ?_, by simp [PyData.depth]⟩ <;> cases b <;> decide
theorem nice_bools {bs : List Bool} (n : bs.length ≤ 60) : Nice (.list (bs.map PyData.bool)) := by
  have q := niceWs (n := 10) (k := 0) (ds := bs.map PyData.bool) fun d m => by
    obtain ⟨z, mz, rfl⟩ := List.mem_map.mp m
    exact ⟨niceW_bool z, by simp [PyData.depth]⟩
  refine (q.lst (by decide)).nice ?_
  rw [List.length_map]
  omega
theorem dps_bools {K : PySem.W.Frag} {H : Hp} : ∀ bs : List Bool, DpAll K H (bs.map V.bl) (bs.map PyData.bool)
  | [] => .nil
  | b :: bs => .cons (.bl b) (dps_bools bs)
end Fd
namespace Fd
open PySem PySem.Spec PyProof.Rows L2
/-- over a text, the target a name, with a test -/
theorem lcStrT {K : PySem.W.Frag} {tt : TT} {te : TE} {vs : List Nat} {σ : L2.St} {H1 : Hp} {Q : VK} {z : Str} {j : Nat} (p : Option Addr) (R : Nat → List PyData → Prop) (hp : PotO p H1) (hn : z.cps.size ≤ 1000000) (r0 : R 0 []) (hw : ∀ x, wipe ((wipe σ vs).set j (some x)) vs = wipe σ vs)
    (step : ∀ i c Ha ds (C : V → Hp → Prop) (N : Hp → Prop), z.cps[i]? = some c → St p H1 Ha → flatTs ds = true → R i ds →
      (∀ y H4 d, St p Ha H4 → flatT d = true → Dp K H4 y d → R (i + 1) (ds ++ [d]) → C y H4) → (∀ H3, St p Ha H3 → R (i + 1) ds → N H3) →
      tt ((wipe σ vs).set j (some (.str ⟨#[c]⟩))) Ha fun b H3 => if b = true then te ((wipe σ vs).set j (some (.str ⟨#[c]⟩))) H3 C else N H3)
    (done : ∀ D acc ds H', H1 D = none → St p H1 H' → H' D = some (.lst acc) → flatTs ds = true → DpAll K H' acc ds → R z.cps.size ds → Q (.ref D) H') : LcK (Its z) (gName j) tt te vs σ Q H1 := by
  refine lcW walk_str p R hp (fun _ _ => trivial) hn r0 ?_ done
  rintro i x Ha H' ds C N hi s fl r ⟨rfl, c, e, rfl⟩ k k2
  exact ⟨hw _, step i c _ ds C N e s fl r k k2⟩
theorem cps_get {z : Str} {i c : Nat} (h : z.cps[i]? = some c) : z.cps.toList[i]? = some c := by
  rw [Array.getElem?_toList]
  exact h
theorem cps_size (z : Str) : z.cps.toList.length = z.cps.size := Array.length_toList
end Fd

namespace Fd
open PySem PySem.Spec PySem.Calls PySem.W PyProof.Rows L2
/-! ### a, *rest = a tuple or a list -/
section
variable {prog : Program} {w : World} {A : Around} {E : Value → Shared → Prop} {s : Shared} {env : Env}
theorem starT {l : Addr} {items : Array Value} {n i : Nat} {Q : List Value → Shared → Prop} (hl : PyProof.Rows.IsTup s.heap l items) (hh : A.handled = none) (hi : i < n) (hn : n ≤ items.size + 1) (hz : items.size ≤ 16384)
    (h : ∀ (h' : Heap) (tk : Nat), (∀ b o, s.heap.get? b = some o → h'.get? b = some o) →
      Q (items.toList.take i ++ [.ref h'.objs.size] ++ (items.toList.drop i).drop (items.size + 1 - n)) { s with heap := h'.push { cls := .type "list", data := .seq ((items.toList.drop i).take (items.size + 1 - n)).toArray }, toks := tk }) :
    wpAny (model prog w) A (unpackItems (.ref l) n (some i)) Q E s := by
  have hlt : l ≠ s.heap.objs.size := by obtain ⟨o, ho, _⟩ := hl; exact Nat.ne_of_lt (Heap.lt_size ho)
  have hll : l < s.heap.objs.size := by obtain ⟨o, ho, _⟩ := hl; exact Heap.lt_size ho
  unfold unpackItems
  refine wpAny_bind ?_
  unfold notIterableAtAll
  refine wpAny_bind (wpAny_specialOf hl.typeIs slot_tuple_iter.lookup ?_)
  refine wpAny_pure ?_
  simp only [Bool.false_eq_true, if_false]
  refine wpAny_bind (wpAny_holding (iter_tuple hl ?_))
  refine wpAny_bind (wpAny_holding (draw_tuple hlt i 0 _ _ ⟨_, Heap.get?_push_size _ rfl, rfl, rfl⟩ (hl.push _) (by omega) fun h₁ hit₁ hs₁ => ?_))
  have hl₁ : PyProof.Rows.IsTup h₁ l items := (hl.push _).extBut hs₁.extBut hlt
  rw [Nat.zero_add] at hit₁
  have hit₁' := hit₁
  obtain ⟨oi, hoi, _⟩ := hit₁'
  have hl₁' := hl₁
  obtain ⟨ol, hol, _⟩ := hl₁'
  rw [List.drop_zero]
  have hfl : (items.toList.take i).length = i := by rw [List.length_take, Array.length_toList]; omega
  rw [if_neg (show ¬ ((items.toList.take i).length < i) by rw [hfl]; omega)]
  refine wpAny_bind (wpAny_holding (kun_collect (s := { s with heap := h₁ }) (T := "tuple_iterator") (.inr (.inr (.inr rfl))) (Walks.tuple (A := A.in1) hh s.heap.objs.size l hlt items) (fun j u st => st.1.typeIs) (k := i) (by omega) ⟨hit₁, hl₁⟩ (Heap.lt_size hoi) (Heap.lt_size hol) (fun h₂ tk hk => ?_) (by rw [sizeLine_eq]; omega)))
  have hrl : (items.toList.drop i).length = items.size - i := by rw [List.length_drop, Array.length_toList]
  have hmid : (items.toList.drop i).length - (n - 1 - i) = items.size + 1 - n := by rw [hrl]; omega
  show wpAny _ _ (if (items.toList.drop i).length < n - 1 - i then _ else _) _ _ _
  rw [if_neg (by rw [hrl]; omega)]
  show wpAny _ _ (newList ((items.toList.drop i).take ((items.toList.drop i).length - (n - 1 - i))) >>= fun d => pure (items.toList.take i ++ [d] ++ (items.toList.drop i).drop ((items.toList.drop i).length - (n - 1 - i)))) _ _ _
  rw [hmid]
  have he : ∀ b o, s.heap.get? b = some o → h₂.get? b = some o := fun b o e => hk b o (Nat.ne_of_lt (Heap.lt_size e)) (hs₁.extBut b o (Nat.ne_of_lt (Heap.lt_size e)) (Heap.get?_push_of_some _ e))
  exact wpAny_bind (wpAny_newObj_type (wpAny_pure (h h₂ tk he)) (by show (List.toArray _).size ≤ sizeLine; rw [List.size_toArray, List.length_take, hrl, sizeLine_eq]; omega))
theorem starL {l : Addr} {items : Array Value} {n i : Nat} {Q : List Value → Shared → Prop} (hl : s.heap.IsList l items) (hh : A.handled = none) (hi : i < n) (hn : n ≤ items.size + 1) (hz : items.size ≤ 16384)
    (h : ∀ (h' : Heap) (tk : Nat), (∀ b o, s.heap.get? b = some o → h'.get? b = some o) →
      Q (items.toList.take i ++ [.ref h'.objs.size] ++ (items.toList.drop i).drop (items.size + 1 - n)) { s with heap := h'.push { cls := .type "list", data := .seq ((items.toList.drop i).take (items.size + 1 - n)).toArray }, toks := tk }) :
    wpAny (model prog w) A (unpackItems (.ref l) n (some i)) Q E s := by
  have hlt : l ≠ s.heap.objs.size := by obtain ⟨o, ho, _⟩ := hl; exact Nat.ne_of_lt (Heap.lt_size ho)
  have hll : l < s.heap.objs.size := by obtain ⟨o, ho, _⟩ := hl; exact Heap.lt_size ho
  unfold unpackItems
  refine wpAny_bind ?_
  unfold notIterableAtAll
  refine wpAny_bind (wpAny_specialOf hl.typeIs slot_list_iter.lookup ?_)
  refine wpAny_pure ?_
  simp only [Bool.false_eq_true, if_false]
  refine wpAny_bind (wpAny_holding (wpAny_pyIter_list hl ?_))
  refine wpAny_bind (wpAny_holding (kun_draw hlt i 0 _ _ ⟨_, Heap.get?_push_size _ rfl, rfl, rfl⟩ (hl.push _) (by omega) fun h₁ hit₁ hs₁ => ?_))
  have hl₁ : h₁.IsList l items := (hl.push _).extBut hs₁.extBut hlt
  rw [Nat.zero_add] at hit₁
  have hit₁' := hit₁
  obtain ⟨oi, hoi, _⟩ := hit₁'
  have hl₁' := hl₁
  obtain ⟨ol, hol, _⟩ := hl₁'
  rw [List.drop_zero]
  have hfl : (items.toList.take i).length = i := by rw [List.length_take, Array.length_toList]; omega
  rw [if_neg (show ¬ ((items.toList.take i).length < i) by rw [hfl]; omega)]
  refine wpAny_bind (wpAny_holding (kun_collect (s := { s with heap := h₁ }) (T := "list_iterator") (.inr (.inr (.inl rfl))) (Walks.list (A := A.in1) hh s.heap.objs.size l hlt items) (fun j u st => st.1.typeIs) (k := i) (by omega) ⟨hit₁, hl₁⟩ (Heap.lt_size hoi) (Heap.lt_size hol) (fun h₂ tk hk => ?_) (by rw [sizeLine_eq]; omega)))
  have hrl : (items.toList.drop i).length = items.size - i := by rw [List.length_drop, Array.length_toList]
  have hmid : (items.toList.drop i).length - (n - 1 - i) = items.size + 1 - n := by rw [hrl]; omega
  show wpAny _ _ (if (items.toList.drop i).length < n - 1 - i then _ else _) _ _ _
  rw [if_neg (by rw [hrl]; omega)]
  show wpAny _ _ (newList ((items.toList.drop i).take ((items.toList.drop i).length - (n - 1 - i))) >>= fun d => pure (items.toList.take i ++ [d] ++ (items.toList.drop i).drop ((items.toList.drop i).length - (n - 1 - i)))) _ _ _
  rw [hmid]
  have he : ∀ b o, s.heap.get? b = some o → h₂.get? b = some o := fun b o e => hk b o (Nat.ne_of_lt (Heap.lt_size e)) (hs₁.extBut b o (Nat.ne_of_lt (Heap.lt_size e)) (Heap.get?_push_of_some _ e))
  exact wpAny_bind (wpAny_newObj_type (wpAny_pure (h h₂ tk he)) (by show (List.toArray _).size ≤ sizeLine; rw [List.size_toArray, List.length_take, hrl, sizeLine_eq]; omega))
end
section
variable {X : Cx} {pos : Pos}
theorem pgs_star {e : Expr} {es : List Expr} {p : Pos} {t : TG} {u : TGs} (h1 : PG X e t) (h2 : PGs X es u)
    (hs : (assignEach (.Starred e p :: es) X.env).map (·.2) = assign e X.env :: (assignEach es X.env).map (·.2) := by rfl) : PGs X (.Starred e p :: es) (gCons t u) := by
  refine ⟨fun pins s σ H vs us Q I r h => ?_⟩
  obtain ⟨v, vr, e1, h⟩ := h
  subst e1
  cases r with
  | cons r rr =>
    rw [hs]
    refine assignInOrder_cons (thn (h1.run pins s σ H _ _ _ I r h) fun _ s1 ⟨σ1, H1, I1, q1⟩ => ?_)
    exact h2.run pins s1 σ1 H1 _ _ Q I1 rr q1
/-- a, .., *rest, .., z = a tuple or a list: n targets, the i-th is starred -/
def gStar (K : PySem.W.Frag) (n i : Nat) (t : TGs) : TG := fun v σ H Q => ∃ a xs, v = .ref a ∧ (SqT K H a xs ∨ SqL K H a xs) ∧ n ≤ xs.length + 1 ∧ xs.length ≤ 16384 ∧
  ∀ D, H D = none → t (xs.take i ++ .ref D :: (xs.drop i).drop (xs.length + 1 - n)) σ (upd H D (.lst ((xs.drop i).take (xs.length + 1 - n)))) Q
theorem Vals_take : ∀ {vs : List V} {us : List Value} (k : Nat), Vals vs us → Vals (vs.take k) (us.take k)
  | _, _, 0, _ => .nil
  | _, _, _ + 1, .nil => .nil
  | _, _, k + 1, .cons r h => .cons r (Vals_take k h)
theorem Vals_drop : ∀ {vs : List V} {us : List Value} (k : Nat), Vals vs us → Vals (vs.drop k) (us.drop k)
  | _, _, 0, h => h
  | _, _, _ + 1, .nil => .nil
  | _, _, k + 1, .cons _ h => Vals_drop k h
theorem pg_star {es : List Expr} {k : Nat} {t : TGs} {n i : Nat} (hc : X.calm = true) (hi : i < n) (h : PGs X es t)
    (hn : (assignEach es X.env).length = n := by rfl) (hst : (assignEach es X.env).findIdx? (·.1) = some i := by rfl) : PG X (.Tuple es k pos) (gStar X.K n i t) := by
  refine ⟨fun pins s σ H v u Q I r hw => ?_⟩
  obtain ⟨a, xs, e1, hq, hl, hz, hw⟩ := hw
  subst e1
  cases r
  have fin : ∀ (its : List Value), Vals xs its → ∀ (h' : Heap) (tk : Nat), (∀ b o, s.heap.get? b = some o → h'.get? b = some o) →
      wpAny (model X.prog X.w) X.A (assignInOrder ((assignEach es X.env).map (·.2)) (its.take i ++ [.ref h'.objs.size] ++ (its.drop i).drop (its.length + 1 - n)))
        (fun _ s' => ∃ σ' H', Inv X pins σ' H' s' ∧ Q σ' H') X.xe { s with heap := h'.push { cls := .type "list", data := .seq ((its.drop i).take (its.length + 1 - n)).toArray }, toks := tk } := by
    intro its rv h' tk hk
    have el : its.length = xs.length := rv.length.symm
    have I1 : Inv X pins σ H { s with heap := h', toks := tk } := I.kept (t' := tk) hk
    have hf : H h'.objs.size = none := I1.hok.fresh (Nat.le_refl _)
    have I2 : Inv X pins σ (upd H h'.objs.size (.lst ((xs.drop i).take (xs.length + 1 - n)))) { s with heap := h'.push { cls := .type "list", data := .seq ((its.drop i).take (its.length + 1 - n)).toArray }, toks := tk } :=
      I1.laid (t' := tk) (fun b u e => Heap.get?_push_of_some _ e) (Nat.le_refl _) ⟨by rw [List.length_take, List.length_drop, sizeLine_eq]; omega, _, 0, (by rw [el]; exact Vals_take _ (Vals_drop _ rv)), Heap.get?_push_size _ rfl⟩
    refine h.run pins _ σ _ _ _ Q I2 ?_ (hw _ hf)
    rw [el, List.append_assoc]
    exact (Vals_take i rv).append (.cons rfl (Vals_drop _ (Vals_drop i rv)))
  rw [PyProof.Rows.assign_Tuple]
  refine wpAny_bind (wpAny_standAt ?_)
  unfold unpack
  rw [hn, hst]
  rcases hq with hq | hq
  · obtain ⟨its, rv, ht, _⟩ := I.tuple hq
    have el : its.length = xs.length := rv.length.symm
    have sz : its.toArray.size = xs.length := by rw [List.size_toArray, el]
    refine wpAny_bind (wpAny_holding (starT (items := its.toArray) ht (I.ok.hd hc) hi (by rw [sz]; exact hl) (by rw [sz]; exact hz) fun h' tk hk => ?_))
    have q := fin its rv h' tk hk
    simpa using q
  · obtain ⟨its, rv, pl, _⟩ := I.list hq
    have hl' : s.heap.IsList a its.toArray := by
      obtain ⟨o, m, e, c, d, q⟩ := pl
      exact ⟨o, e, c, m, q⟩
    have el : its.length = xs.length := rv.length.symm
    have sz : its.toArray.size = xs.length := by rw [List.size_toArray, el]
    refine wpAny_bind (wpAny_holding (starL (items := its.toArray) hl' (I.ok.hd hc) hi (by rw [sz]; exact hl) (by rw [sz]; exact hz) fun h' tk hk => ?_))
    have q := fin its rv h' tk hk
    simpa using q
/-- a, *rest = .. -/
def gHd (K : PySem.W.Frag) (t : TGs) : TG := fun v σ H Q => ∃ a y r, v = .ref a ∧ (SqT K H a (y :: r) ∨ SqL K H a (y :: r)) ∧ r.length ≤ 1000 ∧ ∀ D, H D = none → t [y, .ref D] σ (upd H D (.lst r)) Q
theorem pg_hd {es : List Expr} {k : Nat} {t : TGs} (hc : X.calm = true) (h : PGs X es t)
    (hn : (assignEach es X.env).length = 2 := by rfl) (hst : (assignEach es X.env).findIdx? (·.1) = some 1 := by rfl) : PG X (.Tuple es k pos) (gHd X.K t) := by
  refine ⟨fun pins s σ H v u Q I r hw => (pg_star (n := 2) (i := 1) hc (by decide) h hn hst).run pins s σ H v u Q I r ?_⟩
  obtain ⟨a, y, xs, rfl, hs, hl, q⟩ := hw
  refine ⟨a, y :: xs, rfl, hs, by simp, by simp; omega, fun D hD => ?_⟩
  have e1 : List.take 1 (y :: xs) ++ V.ref D :: List.drop ((y :: xs).length + 1 - 2) (List.drop 1 (y :: xs)) = [y, .ref D] := by simp
  have e2 : List.take ((y :: xs).length + 1 - 2) (List.drop 1 (y :: xs)) = xs := by simp
  rw [e1, e2]
  exact q D hD
end
end Fd

namespace Fd
open PySem PySem.Spec PySem.Calls PyProof.Rows L2
section
variable {prog : Program} {w : World} {K : Type} [DecidableEq K] {knd : KeyKind prog w K} {A : Around} {E : Value → Shared → Prop} {s : Shared}
theorem notRef {v : Value} (h : carriedByValue v = true) : ∀ a, v ≠ .ref a := by
  rintro a rfl
  exact nomatch h
theorem dictPut_pairs {d : Addr} {kvs : List (K × Value)} {k : K} {key v : Value} {Q : Unit → Shared → Prop} (hkey : knd.is k key = true) (hm : s.heap.DictOf knd d kvs)
    (hQ : ∀ h', h'.DictOf knd d (stored kvs k v) → Heap.SameBut d s.heap h' → Q () { s with heap := h' })
    (hsz : kvs.length ≤ sizeLine) :
    wpAny (model prog w) A (dictPut d (knd.hash k) key v) Q E s := by
  obtain ⟨o, es, ep, ho, hc, hd, hk, hp, hn⟩ := hm
  have hes : es.size ≤ sizeLine := by
    have e1 := hp.length
    have e2 : es.toList.length = es.size := by simp
    omega
  unfold dictPut
  refine wpAny_bind (wpAny_dictFind_of hkey ho hd hk ?_)
  have hidx : (es.findIdx? fun e => knd.is k e.key) = kvs.findIdx? fun kv => decide (kv.1 = k) := by
    rw [← hp.findIdx k]; obtain ⟨l⟩ := es; simp
  cases hi : es.findIdx? fun e => knd.is k e.key with
  | some i =>
    refine wpAny_updateDict ho hd (hQ _ ⟨_, _, ep, Heap.get?_update_self _ ho (Obj.isFreed_of_dict (Obj.data_mapDict hd _)),
      hc.mapDict _, Obj.data_mapDict hd _, hk.modify _ _, ?_, ?_⟩ (Heap.SameBut.update ..))
    · rw [stored, if_pos (any_of_findIdx_some (hidx ▸ hi))]
      have hl : (es.toList.findIdx? fun e => knd.is k e.key) = some i := by rw [← hi]; obtain ⟨l⟩ := es; simp
      have := hp.modify hn hl v
      obtain ⟨l⟩ := es
      simpa using this
    · rw [stored, if_pos (any_of_findIdx_some (hidx ▸ hi)), keys_map_store]; exact hn
  | none =>
    have hnot : k ∉ kvs.map (·.1) := not_mem_of_findIdx_none (hidx ▸ hi)
    have hany : ¬ (kvs.any fun kv => decide (kv.1 = k)) = true := by
      rw [List.any_eq_true]; rintro ⟨kv, hkv, he⟩
      exact hnot (List.mem_map.mpr ⟨kv, hkv, of_decide_eq_true he⟩)
    refine wpAny_updateDictKeys (hz := hes) ho hd (hQ _ ⟨_, _, ep + 1, Heap.get?_update_self _ ho (Obj.isFreed_of_dict (Obj.data_mapDictKeys hd _)),
      hc.mapDictKeys _, Obj.data_mapDictKeys hd _, hk.push hkey _, ?_, ?_⟩ (Heap.SameBut.update ..))
    · rw [stored, if_neg hany]
      have := hp.append hkey (knd.hash k) v
      obtain ⟨l⟩ := es
      simpa using this
    · rw [stored, if_neg hany, List.map_append, List.nodup_append]
      refine ⟨hn, by simp, ?_⟩
      intro a ha b hb
      simp only [List.map_cons, List.map_nil, List.mem_singleton] at hb
      subst hb
      exact fun e => hnot (e ▸ ha)
theorem mergeMap {d o : Addr} {kvs more : List (K × Value)} {Q : Unit → Shared → Prop} (hdo : d ≠ o) (hoS : (o == sysModules) = false)
    (hd : s.heap.DictOf knd d kvs) (ho : s.heap.DictOf knd o more)
    (hQ : ∀ h', h'.DictOf knd d (merged kvs more) → h'.DictOf knd o more → Heap.SameBut d s.heap h' → Q () { s with heap := h' })
    (hsz : kvs.length + more.length ≤ sizeLine) :
    wpAny (model prog w) A (mergeMapping d (.ref o) false) Q E s := by
  obtain ⟨od, esd, epd, hod, hcd, hdd, hkd, hpd, hnd⟩ := id hd
  obtain ⟨oo, eso, epo, hoo, hco, hdo', hko, hpo, hno⟩ := id ho
  unfold mergeMapping
  refine wpAny_bind (wpAny_isInstance ho.typeIs isSubtype_dict_dict ?_)
  rw [if_pos rfl]
  refine wpAny_bind (wpAny_specialOf ho.typeIs F.slot_dict_iter.lookup ?_)
  refine wpAny_bind (wpAny_pure ?_)
  have e0 : ((some (Value.builtin "dict.__iter__") : Option Value) == some (.builtin "dict.__iter__")) = true := by decide
  rw [e0]
  show wpAny _ _ (if (o == sysModules) = true then _ else _) _ _ _
  rw [if_neg (by rw [hoS]; exact Bool.false_ne_true)]
  have hlen : more.length = eso.size := by rw [← hpo.length]; simp
  have loop : wpAny (model prog w) A (do
      let l ← dictEntries o
      let epoch ← dictEpoch o
      forIn (List.range l.size) PUnit.unit fun i (_ : PUnit) => (do
          let l' ← dictEntries o
          match l'[i]? with
            | some e => do
              holding [e.key, e.val] (dictPut d e.hash e.key e.val)
              let ep' ← dictEpoch o
              if (ep' != epoch) = true then do
                  (unsupported "dict.changed-during-merge" : Sem PUnit)
                  pure (ForInStep.yield PUnit.unit)
                else pure (ForInStep.yield PUnit.unit)
            | _ => do
              (unsupported "dict.changed-during-merge" : Sem PUnit)
              pure (ForInStep.yield PUnit.unit) : Sem (ForInStep PUnit))
      pure ()) Q E s := by
    refine wpAny_bind (wpAny_dictEntries hoo hdo' ?_)
    refine wpAny_bind (wpAny_dictEpoch hoo hdo' ?_)
    refine wpAny_bind ?_
    rw [List.range_eq_range']
    refine wpAny_forIn_list _
      (fun rest _ s' => ∃ h' i, s' = { s with heap := h' } ∧ rest = List.range' i (eso.size - i) ∧ i ≤ eso.size ∧ h'.DictOf knd d (merged kvs (more.take i)) ∧ h'.get? o = some oo ∧ Heap.SameBut d s.heap h')
      _ ?_ ?_ _ _ ⟨s.heap, 0, rfl, by simp, Nat.zero_le _, by simpa [merged] using hd, hoo, Heap.SameBut.refl _ _⟩
    · rintro x rest b s' ⟨h', i, rfl, hr, hi, hd', hoo', hs'⟩
      have hlt : i < eso.size := by
        rcases Nat.lt_or_ge i eso.size with h | h
        · exact h
        · rw [Nat.sub_eq_zero_of_le h] at hr; simp at hr
      obtain ⟨rfl, hrest⟩ : x = i ∧ rest = List.range' (i + 1) (eso.size - (i + 1)) := by
        have e : eso.size - i = (eso.size - (i + 1)) + 1 := by omega
        rw [e, List.range'_succ] at hr
        injection hr with h1 h2
        exact ⟨h1, h2⟩
      refine wpAny_bind (wpAny_dictEntries hoo' hdo' ?_)
      rw [Array.getElem?_eq_getElem hlt]
      obtain ⟨kv, hkv⟩ : ∃ kv, more[x]? = some kv := ⟨more[x]'(by rw [hlen]; exact hlt), List.getElem?_eq_getElem _⟩
      obtain ⟨k, v⟩ := kv
      obtain ⟨hkey, hval⟩ := hpo.get? (e := eso[x]) (by simp [hlt]) hkv
      obtain ⟨k', hkey', hhash⟩ := hko eso[x] (Array.getElem_mem hlt)
      obtain rfl : k' = k := knd.inj _ _ _ hkey' hkey
      show wpAny _ _ (holding [eso[x].key, eso[x].val] (dictPut d eso[x].hash eso[x].key eso[x].val) >>= _) _ _ _
      rw [hhash, hval]
      have hmx : (merged kvs (more.take x)).length ≤ sizeLine := by
        have e1 := merged_length_le kvs (more.take x)
        have e2 : (more.take x).length ≤ more.length := by rw [List.length_take]; omega
        omega
      refine wpAny_bind (wpAny_holding (dictPut_pairs (hsz := hmx) hkey hd' fun h'' hd'' hs'' => ?_))
      have hoo'' : h''.get? o = some oo := (hs''.2 o (Ne.symm hdo)).trans hoo'
      refine wpAny_bind (wpAny_dictEpoch hoo'' hdo' ?_)
      rw [if_neg (by simp)]
      exact wpAny_pure ⟨h'', x + 1, rfl, hrest, hlt, by rw [merged_take_succ kvs more x (k', v) hkv]; exact hd'', hoo'', hs'.trans hs''⟩
    · rintro b s' ⟨h', i, rfl, hr, hi, hd', hoo', hs'⟩
      have hin : i = eso.size := by
        rcases Nat.lt_or_ge i eso.size with h | h
        · have e : eso.size - i = (eso.size - (i + 1)) + 1 := by omega
          rw [e, List.range'_succ] at hr; exact nomatch hr
        · exact Nat.le_antisymm hi h
      refine wpAny_pure (hQ h' ?_ ⟨oo, eso, epo, hoo', hco, hdo', hko, hpo, hno⟩ hs')
      rw [hin, ← hlen, List.take_length] at hd'; exact hd'
  refine wpAny_bind (wpAny_dictEntries hod hdd ?_)
  show wpAny _ _ (if esd.isEmpty = true then _ else _) _ _ _
  by_cases hemp : esd.isEmpty = true
  · rw [if_pos hemp]
    refine wpAny_bind (wpAny_dictEntries hoo hdo' ?_)
    refine wpAny_bind (PySem.MeetsSeq2.wpAny_forIn_array _ (fun rest _ s' => s' = s ∧ ∀ e ∈ rest, e ∈ eso) _ ?_ ?_ _ _ ⟨rfl, fun e h => by simpa using h⟩)
    · rintro x rest b s' ⟨rfl, hm⟩
      obtain ⟨k', hkey', _⟩ := hko x (hm x (List.mem_cons_self ..))
      have nr := notRef (knd.byValue _ _ hkey')
      have hm' : s' = s' ∧ ∀ e ∈ rest, e ∈ eso := ⟨rfl, fun e h => hm e (List.mem_cons_of_mem _ h)⟩
      dsimp only
      split
      · rename_i a ea
        exact absurd ea (nr a)
      · exact wpAny_pure hm'
    · rintro b s' ⟨rfl, _⟩
      exact loop
  · rw [if_neg hemp]
    exact loop
end
end Fd

namespace Fd
open PySem PySem.Spec PySem.Calls PyProof.Rows L2
section
variable {prog : Program} {w : World} {K : Type} [DecidableEq K] {knd : KeyKind prog w K} {A : Around} {E : Value → Shared → Prop} {s : Shared}
theorem dispSpread {g k x : Sem Value} {Q : Value → Shared → Prop}
    (h : wpAny (model prog w) A g (fun gv s1 => ∃ o more, gv = .ref o ∧ s.heap.objs.size ≠ o ∧ (o == sysModules) = false ∧ s1.heap.DictOf knd s.heap.objs.size [] ∧ s1.heap.DictOf knd o more ∧ more.length < sizeLine ∧
      ∀ h2, h2.DictOf knd s.heap.objs.size more → Heap.SameBut s.heap.objs.size s1.heap h2 →
        wpAny (model prog w) A k (fun kv s2 => wpAny (model prog w) A x (fun xv s3 => ∃ kk, knd.is kk kv = true ∧ s3.heap.DictOf knd h2.objs.size [] ∧ (h2.objs.size == sysModules) = false ∧
          ∀ h4, h4.DictOf knd h2.objs.size [(kk, xv)] → Heap.SameBut h2.objs.size s3.heap h4 → ∃ more', h4.DictOf knd s.heap.objs.size more' ∧ more'.length < sizeLine ∧
            ∀ h5, h5.DictOf knd s.heap.objs.size (stored more' kk xv) → h5.DictOf knd h2.objs.size [(kk, xv)] → Heap.SameBut s.heap.objs.size h4 h5 → Q (.ref s.heap.objs.size) { s3 with heap := h5, toks := s3.toks + 1 }) E s2)
          E { s1 with heap := h2.push { cls := .type "dict", data := .dict #[] } }) E { s with heap := s.heap.push { cls := .type "dict", data := .dict #[] } }) :
    wpAny (model prog w) A (dictDisplay [(none, g), (some k, x)]) Q E s := by
  unfold dictDisplay
  dsimp only
  rw [List.forIn_cons]
  simp only [List.isEmpty_nil, if_true, pure_bind, bind_assoc]
  refine wpAny_bind (wpAny_alloc ?_)
  refine wpAny_bind (wpAny_holding (wpAny_mono h (fun gv s1 h1 => ?_) fun _ _ e => e))
  obtain ⟨o, more, rfl, hdo, hoS, hd, ho, hm, h1⟩ := h1
  refine wpAny_bind (wpAny_onRaise (wpAny_tryCatch (wpAny_onRaise (wpAny_holding (mergeMap (knd := knd) hdo hoS hd ho (fun h2 hd2 ho2 sb => ?_) (by simp; omega))))))
  have e0 : merged [] more = more := by
    obtain ⟨_, _, _, _, _, _, _, _, hn⟩ := ho
    exact merged_nil_of_nodup more hn
  rw [e0] at hd2
  have h2' := h1 h2 hd2 sb
  clear h1 h
  rw [List.forIn_cons]
  have l17 : (([(k, x)] : List (Sem Value × Sem Value)).length == 17) = false := rfl
  simp only [List.nil_append, l17, Bool.false_eq_true, if_false, pure_bind, List.forIn_nil, List.isEmpty_cons]
  have sub := wpAny_subDict (prog := prog) (w := w) (knd := knd) (A := A) (E := E) (s := { s1 with heap := h2 }) (pairs := [(k, x)])
    (Q := fun d2 s' => wpAny (model prog w) A ((holding [Value.ref s.heap.objs.size, Value.ref d2] (mergeMapping s.heap.objs.size (Value.ref d2) false)).onRaise fun y => do
      let _ ← holding [Value.ref s.heap.objs.size, y] (runValue (Code.builtin "proto.let_go" { }))
      pure ()) (fun _ s5 => Q (.ref s.heap.objs.size) s5) E s') (by show 1 ≤ 15; decide) ?_
  · refine wpAny_bind (wpAny_bind (wpAny_holding (wpAny_mono sub (fun d2 s4 h4 => ?_) fun _ _ e => e)))
    exact wpAny_bind (wpAny_mono h4 (fun _ s5 h5 => wpAny_pure (wpAny_pure h5)) fun _ _ e => e)
  · refine evalPairs_cons (wpAny_mono h2' (fun kv s2 q2 => wpAny_mono q2 (fun xv s3 q3 => evalPairs_nil ?_) fun _ _ e => e) fun _ _ e => e)
    obtain ⟨kk, hk, d3, ds, q3⟩ := q3
    refine ⟨[(kk, xv)], ⟨hk, rfl, True.intro⟩, d3, fun h4 d4 sb4 => ?_⟩
    have e1 : merged [] [(kk, xv)] = [(kk, xv)] := rfl
    rw [e1] at d4
    obtain ⟨more', dm, hm', q5⟩ := q3 h4 d4 sb4
    have ne : s.heap.objs.size ≠ h2.objs.size := by
      obtain ⟨oo, _, _, e, _⟩ := hd2
      exact Nat.ne_of_lt (Heap.lt_size e)
    refine wpAny_onRaise (wpAny_holding (mergeMap (knd := knd) ne ds dm d4 (fun h5 d5 d5' sb5 => ?_) (by simp; omega)))
    exact q5 h5 (by simpa [merged] using d5) d5' sb5
end
section
variable {X : Cx}
/-- {**g, k: x}: d the new dict, e the one that holds the pair for a while -/
def tSpread (tg tk tx : TE) : TE := fun σ H Q => ∀ d, H d = none → tg σ (upd H d (.dK [])) fun v H1 => ∃ o kvs, v = .ref o ∧ o ≠ d ∧ H1 d = some (.dK []) ∧ H1 o = some (.dK kvs) ∧ kvs.length ≤ 1000 ∧
  ∀ e, upd H1 d (.dK kvs) e = none → tk σ (upd (upd H1 d (.dK kvs)) e (.dK [])) fun y H3 => tx σ H3 fun z H4 => ∃ k : Key, y = kV k ∧ H4 e = some (.dK []) ∧ H4 d = some (.dK kvs) ∧
    Q (.ref d) (upd (upd H4 e (.dK [(k, z)])) d (.dK (putK kvs k z)))
theorem pe_spread {ge ke xe : Expr} {pos : Pos} {tg tk tx : TE} (hg : PE X ge tg) (hk : PE X ke tk) (hx : PE X xe tx) : PE X (.Dict [none, some ke] [ge, xe] pos) (tSpread tg tk tx) := by
  refine ⟨fun pins s σ H Q I h => ?_⟩
  rw [arm_eval_Dict]
  refine wpAny_bind (wpAny_standAt ?_)
  show wpAny _ _ (dictDisplay [(none, (do let x ← eval ge X.env; standAt pos; pure x)), (some (eval ke X.env), (do let x ← eval xe X.env; standAt pos; pure x))]) _ _ _
  have hn := I.hok.fresh (Nat.le_refl s.heap.objs.size)
  have I1 := I.laid (a := s.heap.objs.size) (o := .dK []) (h' := s.heap.push { cls := .type "dict", data := .dict #[] }) (t' := s.toks) (fun _ _ q => Heap.get?_push_of_some _ q) (Nat.le_refl _) (dk_empty s.heap I.big)
  refine dispSpread (knd := mixKind X.prog X.w) (wpAny_bind (thn (hg.run pins _ σ _ _ I1 (h _ hn)) fun gv s1 ⟨v, H1, I2, rg, o, kvs, ev, od, hd1, ho1, hl, h2⟩ => wpAny_bind (wpAny_standAt (wpAny_pure ?_))))
  subst ev
  cases rg
  obtain ⟨z1, m1, vs1, r1, dd1⟩ := dk_of I2.hok hd1
  cases r1
  obtain ⟨z2, m2, vs2, r2, dd2⟩ := dk_of I2.hok ho1
  have line : (1000 : Nat) < sizeLine := by decide
  refine ⟨o, vs2, rfl, Ne.symm od, m2, dd1, dd2, by rw [← r2.length]; omega, fun hp2 d2 sb => ?_⟩
  have he2 : ∃ q, hp2.get? s.heap.objs.size = some q := let ⟨q, _, _, hq, _⟩ := d2; ⟨q, hq⟩
  have I3 : Inv X pins σ (upd H1 s.heap.objs.size (.dK kvs)) { s1 with heap := hp2 } := d_write I2 (by rw [hd1]; exact True.intro) sb he2 (dk_new z2 m1 r2 d2)
  have hn3 := I3.hok.fresh (Nat.le_refl hp2.objs.size)
  have I4 := I3.laid (a := hp2.objs.size) (o := .dK []) (h' := hp2.push { cls := .type "dict", data := .dict #[] }) (t' := s1.toks) (fun _ _ q => Heap.get?_push_of_some _ q) (Nat.le_refl _) (dk_empty hp2 I3.big)
  refine thn (hk.run pins _ σ _ _ I4 (h2 _ hn3)) fun kv s2 ⟨y, H3, I5, ry, q5⟩ => wpAny_bind (thn (hx.run pins _ σ _ _ I5 q5) fun xv s3 ⟨z, H4, I6, rz, k, ey, he4, hd4, q6⟩ => wpAny_bind (wpAny_standAt (wpAny_pure ?_)))
  subst ey
  obtain ⟨z3, m3, vs3, r3, dd3⟩ := dk_of I6.hok he4
  cases r3
  refine ⟨k, kV_is ry, dd3, m3, fun hp4 d4 sb4 => ?_⟩
  have he4' : ∃ q, hp4.get? hp2.objs.size = some q := let ⟨q, _, _, hq, _⟩ := d4; ⟨q, hq⟩
  have I7 : Inv X pins σ (upd H4 hp2.objs.size (.dK [(k, z)])) { s3 with heap := hp4, toks := s3.toks } :=
    d_write (t' := s3.toks) I6 (by rw [he4]; exact True.intro) sb4 he4' (dk_new (by show 1 ≤ sizeLine; decide) m3 (KV.put (κ := Key) .nil k rz) d4)
  have ne : s.heap.objs.size ≠ hp2.objs.size := by
    obtain ⟨q, hq⟩ := he2
    exact Nat.ne_of_lt (Heap.lt_size hq)
  have hd5 : (upd H4 hp2.objs.size (.dK [(k, z)])) s.heap.objs.size = some (.dK kvs) := by rw [upd_ne ne]; exact hd4
  obtain ⟨z5, m5, vs5, r5, dd5⟩ := dk_of I7.hok hd5
  refine ⟨vs5, dd5, by rw [← r5.length]; omega, fun hp5 d5 d5' sb5 => ?_⟩
  have he5 : ∃ q, hp5.get? s.heap.objs.size = some q := let ⟨q, _, _, hq, _⟩ := d5; ⟨q, hq⟩
  have hl5 : (putK kvs k z).length ≤ sizeLine := by
    have := length_putK kvs k z
    omega
  have I8 := d_write (t' := s3.toks + 1) I7 (by rw [hd5]; exact True.intro) sb5 he5 (dk_new hl5 m1 (r5.put k rz) d5)
  exact ⟨.ref s.heap.objs.size, _, I8, rfl, q6⟩
end
end Fd

namespace Fd
open PySem PySem.Spec PySem.Calls PyProof.Rows L2 RZ
/-! ### zip of a list and a tuple -/
abbrev zH1 (h : Heap) (l1 : Addr) : Heap := h.push { cls := .type "list_iterator", data := .fields #[.ref l1, .int 0 0] }
abbrev zH2 (h : Heap) (l1 l2 : Addr) : Heap := (zH1 h l1).push { cls := .type "tuple_iterator", data := .fields #[.ref l2, .int 0 0] }
abbrev zH3 (h : Heap) (l1 l2 : Addr) : Heap := (zH2 h l1 l2).push { cls := .type "tuple", data := .seq #[.ref h.objs.size, .ref (zH1 h l1).objs.size] }
abbrev zH4 (h : Heap) (l1 l2 : Addr) : Heap := (zH3 h l1 l2).push { cls := .type "tuple", data := .seq #[.none, .none] }
abbrev zH5 (h : Heap) (l1 l2 : Addr) : Heap := (zH4 h l1 l2).push { cls := .type "zip", data := .fields #[.none, .bool false, .bool false, .ref (zH2 h l1 l2).objs.size, .ref (zH3 h l1 l2).objs.size] }
theorem meets_zipM (l1 l2 : Addr) (xs ys : Array Value) :
    Meets (Builtin.«zip.__new__» ⟨[.type "zip", .ref l1, .ref l2], []⟩) (fun _ R s => s.heap.IsList l1 xs ∧ s.heap.IsTuple l2 ys ∧
      R (.ok (.ret (.ref (zH4 s.heap l1 l2).objs.size))) { s with heap := zH5 s.heap l1 l2 }) :=
  .of_wp fun prog w A R s h => by
    obtain ⟨hp, g, d, tk, os⟩ := s; obtain ⟨hl1, hl2, h⟩ := h
    have hsub := sub_zip
    have hL1 : Heap.IsList (Shared.heap ⟨hp, g, d, tk, os⟩) l1 xs := hl1
    have hL2 : Heap.IsTuple (Shared.heap ⟨hp.push { cls := .type "list_iterator", data := .fields #[.ref l1, .int 0 0] }, g, d, tk, os⟩) l2 ys := Heap.IsTuple.push hl2 _
    wp_walk using wpAny_pyIter_list hL1, wpAny_pyIter_tuple hL2
    exact ⟨_, rfl, h⟩
section
variable {prog : Program} {w : World} {A : Around} {E : Value → Shared → Prop} {s : Shared}
theorem call_zipM {l1 l2 : Addr} {xs ys : Array Value} {Q : Value → Shared → Prop} (hl1 : s.heap.IsList l1 xs) (hl2 : s.heap.IsTuple l2 ys)
    (h : ∀ h', IsZip h' (s.heap.objs.size + 4) (s.heap.objs.size + 2) (s.heap.objs.size + 3) .none → IsPair h' (s.heap.objs.size + 2) (.ref s.heap.objs.size) (.ref (s.heap.objs.size + 1)) →
      IsPair h' (s.heap.objs.size + 3) .none .none → h'.IsListIter s.heap.objs.size l1 0 → h'.IsTupleIter (s.heap.objs.size + 1) l2 0 → h'.objs.size = s.heap.objs.size + 5 →
      (∀ c o, s.heap.get? c = some o → h'.get? c = some o) → Q (.ref (s.heap.objs.size + 4)) { s with heap := h' }) :
    wpAny (model prog w) A (call (.type "zip") [.ref l1, .ref l2]) Q E s := by
  refine callType_new F.called_zip (by decide) (F.typeCall_zip_2 _ _) (F.newCall_zip_2 _ _) (fun obj => F.args_object_init_3 obj _ _) F.entry_zip_new
    (meets_zipM l1 l2 xs ys) ⟨hl1, hl2, ?_⟩
  have z1 : (zH1 s.heap l1).objs.size = s.heap.objs.size + 1 := Heap.size_push ..
  have z2 : (zH2 s.heap l1 l2).objs.size = s.heap.objs.size + 2 := by rw [Heap.size_push, z1]
  have z3 : (zH3 s.heap l1 l2).objs.size = s.heap.objs.size + 3 := by rw [Heap.size_push, z2]
  have z4 : (zH4 s.heap l1 l2).objs.size = s.heap.objs.size + 4 := by rw [Heap.size_push, z3]
  have z5 : (zH5 s.heap l1 l2).objs.size = s.heap.objs.size + 5 := by rw [Heap.size_push, z4]
  have g5 : (zH5 s.heap l1 l2).get? (zH4 s.heap l1 l2).objs.size = some _ := Heap.get?_push_size _ rfl
  have g4 : (zH5 s.heap l1 l2).get? (zH3 s.heap l1 l2).objs.size = some _ := Heap.get?_push_of_some _ (Heap.get?_push_size _ rfl)
  have g3 : (zH5 s.heap l1 l2).get? (zH2 s.heap l1 l2).objs.size = some _ := Heap.get?_push_of_some _ (Heap.get?_push_of_some _ (Heap.get?_push_size _ rfl))
  have g2 : (zH5 s.heap l1 l2).get? (zH1 s.heap l1).objs.size = some _ := Heap.get?_push_of_some _ (Heap.get?_push_of_some _ (Heap.get?_push_of_some _ (Heap.get?_push_size _ rfl)))
  have g1 : (zH5 s.heap l1 l2).get? s.heap.objs.size = some _ := Heap.get?_push_of_some _ (Heap.get?_push_of_some _ (Heap.get?_push_of_some _ (Heap.get?_push_of_some _ (Heap.get?_push_size _ rfl))))
  show _ ∧ _
  rw [z2, z3, z4] at g5
  rw [z1, z2] at g3
  rw [z3] at g4
  rw [z1] at g2
  rw [z4]
  exact ⟨⟨_, g5, rfl⟩, h _ g5 g3 g4 ⟨_, g1, rfl, rfl⟩ ⟨_, g2, rfl, rfl⟩ z5 fun c o x =>
    Heap.get?_push_of_some _ (Heap.get?_push_of_some _ (Heap.get?_push_of_some _ (Heap.get?_push_of_some _ (Heap.get?_push_of_some _ x))))⟩
end
/-- the list at a and the tuple at b, the items in new pairs -/
def ItzM (K : PySem.W.Frag) (a b : Addr) : It :=
  ⟨fun i H => ∃ (xs ys : List V) (x y : V), SqL K H a xs ∧ SqT K H b ys ∧ xs[i]? = some x ∧ ys[i]? = some y,
    fun i H v H' => ∃ T x y, v = .ref T ∧ H T = none ∧ H' = upd H T (.tup [x, y]) ∧ (∀ xs, SqL K H a xs → xs[i]? = some x) ∧ ∀ ys, SqT K H b ys → ys[i]? = some y,
    fun i H => ∃ xs ys : List V, SqL K H a xs ∧ SqT K H b ys ∧ i ≤ xs.length ∧ i ≤ ys.length ∧ (xs.length = i ∨ ys.length = i)⟩
/-- the cells lie apart -/
def sep (z TI TO i1 i2 a b : Addr) : Prop := TI ≠ z ∧ TO ≠ z ∧ TI ≠ TO ∧ TI ≠ i1 ∧ TI ≠ i2 ∧ z ≠ i1 ∧ z ≠ i2 ∧ TO ≠ i1 ∧ TO ≠ i2 ∧ i1 ≠ i2 ∧
  a ≠ z ∧ a ≠ TO ∧ a ≠ i1 ∧ a ≠ i2 ∧ b ≠ z ∧ b ≠ TO ∧ b ≠ i1 ∧ b ≠ i2
theorem turn_zipM {P : Program} {w : World} {K : PySem.W.Frag} {elts : List Expr} {kk : Nat} {tpos : Pos} {a b z TI TO i1 i2 : Addr} (D : sep z TI TO i1 i2 a b) :
    Turn P w K (.Tuple elts kk tpos) (ItzM K a b) [z, TI, TO, i1, i2] z (fun i h => IsZip h z TI TO .none ∧ IsPair h TI (.ref i1) (.ref i2) ∧ (∃ x y, IsPair h TO x y) ∧ h.IsListIter i1 a i ∧ h.IsTupleIter i2 b i) where
  mem := by simp
  obj := fun i h st c hc => by
    obtain ⟨hz, hTI, ⟨x, y, hTO⟩, ⟨o1, e1, _, d1⟩, ⟨o2, e2, _, d2⟩⟩ := st
    have e' : c = z ∨ c = TI ∨ c = TO ∨ c = i1 ∨ c = i2 := by simpa using hc
    rcases e' with q | q | q | q | q
    · rw [q]; exact ⟨_, hz, fun v q => nomatch q⟩
    · rw [q]; exact ⟨_, hTI, fun v q => nomatch q⟩
    · rw [q]; exact ⟨_, hTO, fun v q => nomatch q⟩
    · rw [q]; exact ⟨o1, e1, fun v q => by rw [d1] at q; cases q⟩
    · rw [q]; exact ⟨o2, e2, fun v q => by rw [d2] at q; cases q⟩
  keep := fun i h h' st k => by
    obtain ⟨hz, hTI, ⟨x, y, hTO⟩, h1, h2⟩ := st
    exact ⟨k z (by simp) _ hz, k TI (by simp) _ hTI, ⟨x, y, k TO (by simp) _ hTO⟩, h1.at fun o q => k i1 (by simp) o q, h2.at fun o q => k i2 (by simp) o q⟩
  item := by
    intro X hP hw hK hc i pins s σ H E I hf st hg
    subst hP hw hK
    obtain ⟨hz, hTI, ⟨x0, y0, hTO⟩, h1, h2⟩ := st
    obtain ⟨xs, ys, x, y, hqx, hqy, hx, hy⟩ := hg
    obtain ⟨its, rv, p, _⟩ := I.list hqx
    obtain ⟨its2, rv2, p2, _⟩ := I.tuple hqy
    obtain ⟨u, hu, ru⟩ := rv.get hx
    obtain ⟨u2, hu2, ru2⟩ := rv2.get hy
    have hzl : z < s.heap.objs.size := Heap.lt_size hz
    obtain ⟨c1, c2, c3, c4, c5, c6, c7, c8, c9, c10, c11, c12, c13, c14, c15, c16, c17, c18⟩ := D
    have S : ZipSep2 z TI TO i1 i2 [i1, a] [i2, b] := ⟨c1, c2, c3, c4, by simp, by simp [c6, Ne.symm c11], by simp [c8, Ne.symm c12], c5, by simp, by simp [c7, Ne.symm c15], by simp [c9, Ne.symm c16], by simp [c10, Ne.symm c17], by simp [Ne.symm c10, Ne.symm c14]⟩
    have D1 := Draws.list (prog := X.prog) (w := X.w) (A := X.A.in1) (I.ok.hd hc) i1 a c13 its.toArray
    have D2 := Draws.tuple (prog := X.prog) (w := X.w) (A := X.A.in1) (I.ok.hd hc) i2 b c18 its2.toArray
    have hxl := (List.getElem?_eq_some_iff.mp hu).1
    have hyl := (List.getElem?_eq_some_iff.mp hu2).1
    refine wpAny_pyNext_zipD2_item (i := i) S D1 D2 hz hTI hTO ⟨h1, p.isList⟩ ⟨h2, p2⟩ (by simpa using hxl) (by simpa using hyl) fun x1 x2 h' tk y1 y2 z' TO' st1' st2' hT hsz hk => ?_
    obtain rfl : x1 = u := by
      have q : its.toArray[i]? = some u := by simpa using hu
      exact Option.some.inj (y1.symm.trans q)
    obtain rfl : x2 = u2 := by
      have q : its2.toArray[i]? = some u2 := by simpa using hu2
      exact Option.some.inj (y2.symm.trans q)
    refine ⟨_, rfl, wpAny_letOwnedTupleGo_zip (s := { s with heap := h', toks := tk }) z' fun h'' z'' sb => ?_⟩
    have hT2 : h''.get? s.heap.objs.size = some { cls := .type "tuple", data := .seq #[x1, x2] } := (sb.2 _ (Nat.ne_of_gt hzl)).trans hT
    have new : ObjOk X.prog X.w (upd H s.heap.objs.size (.tup [x, y])) h'' s.heap.objs.size (.tup [x, y]) :=
      ⟨by show 2 ≤ sizeLine; decide, [x1, x2], .cons ru (.cons ru2 .nil), ⟨_, hT2, rfl, _, rfl⟩⟩
    have I1 : Inv X pins σ (upd H s.heap.objs.size (.tup [x, y])) { s with heap := h'', toks := tk } :=
      I.turnedNew (t' := tk) (ch := [z, TI, TO, i1, i2]) (fun c o hb q => (sb.2 c (fun q' => hb (by simp [q']))).trans (hk c o (fun q' => hb (by simp [q'])) (fun q' => hb (by simp [q'])) (fun q' => hb (by simp [q'])) (fun q' => hb (by simp [q'])) q)) hf (Nat.le_refl _) new
    refine ⟨.ref s.heap.objs.size, _, I1, rfl, ⟨_, x, y, rfl, I.hok.fresh (Nat.le_refl _), rfl, fun l hl => by rw [I.list_inj hl hqx]; exact hx, fun l hl => by rw [I.tuple_inj hl hqy]; exact hy⟩, ⟨z'', ?_, ⟨x1, x2, ?_⟩, ?_, ?_⟩, fun c hcm => ?_⟩
    · exact (sb.2 _ c1).trans (hk _ _ c1 c3 c4 c5 hTI)
    · exact (sb.2 _ c2).trans TO'
    · exact st1'.1.at fun o q => (sb.2 _ (Ne.symm c6)).trans q
    · exact st2'.1.at fun o q => (sb.2 _ (Ne.symm c7)).trans q
    · have hlt : c < s.heap.objs.size := by
        have e' : c = z ∨ c = TI ∨ c = TO ∨ c = i1 ∨ c = i2 := by simpa using hcm
        rcases e' with q | q | q | q | q
        · rw [q]; exact hzl
        · rw [q]; exact Heap.lt_size hTI
        · rw [q]; exact Heap.lt_size hTO
        · rw [q]; obtain ⟨_, e1, _⟩ := h1; exact Heap.lt_size e1
        · rw [q]; obtain ⟨_, e2, _⟩ := h2; exact Heap.lt_size e2
      rw [upd_ne (Nat.ne_of_lt hlt)]
      exact (hf c hcm).1
  done := by
    intro X hP hw hK hc i pins s σ H E I hf st hg
    subst hP hw hK
    obtain ⟨hz, hTI, ⟨x0, y0, hTO⟩, h1, h2⟩ := st
    obtain ⟨xs, ys, hqx, hqy, hi1, hi2, hend⟩ := hg
    obtain ⟨its, rv, p, _⟩ := I.list hqx
    obtain ⟨its2, rv2, p2, _⟩ := I.tuple hqy
    have l1 := rv.length
    have l2 := rv2.length
    obtain ⟨c1, c2, c3, c4, c5, c6, c7, c8, c9, c10, c11, c12, c13, c14, c15, c16, c17, c18⟩ := D
    have S : ZipSep2 z TI TO i1 i2 [i1, a] [i2, b] := ⟨c1, c2, c3, c4, by simp, by simp [c6, Ne.symm c11], by simp [c8, Ne.symm c12], c5, by simp, by simp [c7, Ne.symm c15], by simp [c9, Ne.symm c16], by simp [c10, Ne.symm c17], by simp [Ne.symm c10, Ne.symm c14]⟩
    have D1 := Draws.list (prog := X.prog) (w := X.w) (A := X.A.in1) (I.ok.hd hc) i1 a c13 its.toArray
    have D2 := Draws.tuple (prog := X.prog) (w := X.w) (A := X.A.in1) (I.ok.hd hc) i2 b c18 its2.toArray
    refine wpAny_pyNext_zipD2_end (i := i) S D1 D2 hz hTI hTO ⟨h1, p.isList⟩ ⟨h2, p2⟩ (by simp; omega) (by simp; omega) (by simp; omega) fun h' tk hk => ⟨rfl, I.turnedL (t' := tk) (ch := [z, TI, TO, i1, i2]) (fun c o hb q =>
      hk c o (fun q' => hb (by simp [q'])) (fun q' => hb (by simp [q'])) (fun q' => hb (by simp [q'])) (fun q' => hb (by simp [q'])) q) hf⟩
  self := fun A i s Q E st h => wpAny_pyIter_zip st.1 h
def iZipM (K : PySem.W.Frag) (ta : TA) : TI := fun σ H R => ta σ H fun vs H1 => ∃ a b xs ys, vs = [.ref a, .ref b] ∧ SqL K H1 a xs ∧ SqT K H1 b ys ∧ R (ItzM K a b) H1
theorem pi_zipM {X : Cx} {e e2 : Expr} {ta : TA} {p pos tpos : Pos} {elts : List Expr} {kk : Nat} (hg : Gl X "zip") (hm : X.mg "zip" = none) (ha : PA X [e, e2] ta)
    (hs : starEach [e, e2] X.env = (false, eval e X.env) :: starEach [e2] X.env := by rfl) (hpl : (backTo pos (starEach [e2] X.env)).any (·.1) = false := by rfl) :
    PI X (.Tuple elts kk tpos) (.Call (.Name "zip" p) [e, e2] [] pos) (iZipM X.K ta) := by
  refine ⟨fun pins s σ H R I h => ?_⟩
  refine Call_ (ld_blt I hg hm PyProof.Rows.boot_zip (PyProof.Rows.callWith_type1 (thn (ha.run pos pins s σ H _ I h) fun us s1 ⟨vs, H1, I1, r1, q1⟩ => ?_) hs hpl))
  obtain ⟨a, b, xs, ys, ex, hqx, hqy, q⟩ := q1
  subst ex
  cases r1 with
  | cons r rr =>
    cases rr with
    | cons r' rr =>
      cases rr
      cases r
      cases r'
      have fresh5 : ∀ c, c ∈ [s1.heap.objs.size + 4, s1.heap.objs.size + 2, s1.heap.objs.size + 3, s1.heap.objs.size, s1.heap.objs.size + 1] → FpOk X pins H1 c := fun c hcm => by
        have hle : s1.heap.objs.size ≤ c := by
          have e' : c = s1.heap.objs.size + 4 ∨ c = s1.heap.objs.size + 2 ∨ c = s1.heap.objs.size + 3 ∨ c = s1.heap.objs.size ∨ c = s1.heap.objs.size + 1 := by simpa using hcm
          rcases e' with z | z | z | z | z <;> rw [z] <;> omega
        exact I1.fpOk hle (I1.hok.fresh hle)
      obtain ⟨its, rv, p1, _⟩ := I1.list hqx
      obtain ⟨its2, rv2, p2, _⟩ := I1.tuple hqy
      obtain ⟨o2, ho2, _⟩ := id p2
      have la : ∀ k : Nat, a ≠ s1.heap.objs.size + k := fun k => Nat.ne_of_lt (Nat.lt_add_right k p1.lt)
      have lb : ∀ k : Nat, b ≠ s1.heap.objs.size + k := fun k => Nat.ne_of_lt (Nat.lt_add_right k (Heap.lt_size ho2))
      refine call_zipM p1.isList (show s1.heap.IsTuple b its2.toArray from p2) fun h' hz hTI hTO h1 h2 hsz hk => wpAny_pyIter_zip hz ?_
      have I2 : Inv X pins σ H1 { s1 with heap := h' } := I1.kept (t' := s1.toks) hk
      refine ⟨s1.heap.objs.size + 4, [s1.heap.objs.size + 4, s1.heap.objs.size + 2, s1.heap.objs.size + 3, s1.heap.objs.size, s1.heap.objs.size + 1], _, _, H1, rfl, I2, turn_zipM ?_, ⟨hz, hTI, ⟨_, _, hTO⟩, h1, h2⟩, fresh5, q⟩
      unfold sep
      refine ⟨?_, ?_, ?_, ?_, ?_, ?_, ?_, ?_, ?_, ?_, ?_, ?_, ?_, ?_, ?_, ?_, ?_, ?_⟩ <;> intro z <;> first | exact la 4 z | exact la 3 z | exact la 1 z | exact la 0 z | exact lb 4 z | exact lb 3 z | exact lb 1 z | exact lb 0 z | (have z : (_ : Nat) = _ := z; omega)
theorem walk_zipM {K : PySem.W.Frag} {a b : Addr} {xs ys : List V} {n : Nat} (hn : n = min xs.length ys.length) : Walk (ItzM K a b) n (fun H => SqL K H a xs ∧ SqT K H b ys) (YPair (fun i => xs[i]?) (fun i => ys[i]?)) := by
  subst hn
  refine ⟨fun i _ hi q => ?_, fun _ q => ⟨xs, ys, q.1, q.2, by omega, by omega, by omega⟩, fun i H v H' _ q y => ?_⟩
  · have h1 : i < xs.length := by omega
    have h2 : i < ys.length := by omega
    exact ⟨xs, ys, xs[i], ys[i], q.1, q.2, by simp [h1], by simp [h2]⟩
  · obtain ⟨T, x, z, h1, h2, h3, h4, h5⟩ := y
    exact ⟨T, x, z, h1, h2, h3, h4 xs q.1, h5 ys q.2⟩
end Fd

namespace Fd
open PySem PySem.Spec PyProof.Rows L2
/-! ### objects of the text's own classes -/
structure HasM (P : Program) (w : World) (K : PySem.W.Frag) (mg : Str → Option Value) (base : Heap) (C : Addr) (m : Str) (k : Nat) (ps : List Str) (sp : Sp) : Prop where
  ex : ∃ f fd, FnOk P w K mg base CX0 k f fd ps sp ∧ Meth K C m f ∧ Binds K fd ps []
/-- a class by its global name: made, its attributes read and stored -/
structure HasC (K : PySem.W.Frag) (mg : Str → Option Value) (x : Str) (C : Addr) : Prop where
  cl : Cls K C
  at_ : mg x = some (.ref C)
def tFd (C : Addr) (ta : TE) (f : Str) : TE := fun σ H Q => ta σ H fun x H1 => ∃ a dx fs v, x = .ref a ∧ H1 a = some (.ins C dx fs) ∧ fs.lookup f = some v ∧ Q v H1
def sFd (C : Addr) (ta tv : TE) (f : Str) : TS := fun D σ H => tv σ H fun y H1 => ta σ H1 fun x H2 => ∃ a dx fs, x = .ref a ∧ H2 a = some (.ins C dx fs) ∧ fs.length < 1000 ∧ D.nx σ (upd H2 a (.ins C dx (putF f y fs)))
section
variable {X : Cx} {K : PySem.W.Frag} {C : Addr} {k j : Nat} {ps : List Str} {sp : Sp} {x f m : Str} {p pos apos pos' : Pos} {o e value : Expr} {es : List Expr} {ta te tv : TE} {t tk : TA}
theorem fldC (hK : X.K = K) (c : Cls K C) (n : NoAttr K C f) (he : PE X e ta) (hb : attributeBase e f X.env (eval e X.env) = eval e X.env := by rfl) : PE X (.Attribute e f pos) (tFd C ta f) := by
  subst hK
  refine ⟨fun pins s σ H Q I h => ?_⟩
  refine attr_of hb (thn (he.run pins s σ H _ I h) fun u s1 ⟨x, H1, I1, rx, a, dx, fs, v, ex, ea, l, q⟩ => ?_)
  subst ex
  obtain rfl : u = Value.ref a := rx
  exact getattr_ok I1 ea c n l fun u' s2 I2 ru => ⟨v, H1, I2, ru, q⟩
theorem stoC (hK : X.K = K) (c : Cls K C) (n : NoAttr K C f) (ha : PE X o ta) (hv : PE X value tv) (hs : swapsWith value (some (.Attribute o f pos')) pos.line X.env = pure false := by rfl) : PS X (.Assign [.Attribute o f pos'] value pos) (sFd C ta tv f) := by
  subst hK
  refine ⟨fun pins s σ H D I h => ?_⟩
  refine plainObj_wpAny_Assign_Attribute (thn (hv.run pins s σ H _ I h) fun u s1 ⟨y, H1, I1, ry, q⟩ => thn (ha.run pins s1 σ H1 _ I1 q) fun ov s2 ⟨x, H2, I2, rx, a, dx, fs, ex, ea, l, q2⟩ => ?_) hs
  subst ex
  obtain rfl : ov = Value.ref a := rx
  exact setattr_ok I2 ea c n l ry fun s3 I3 => ⟨σ, _, I3, q2⟩
theorem methC (M : HasM X.prog X.w X.K X.mg X.base C m k ps sp) (c : Cls X.K C) (hr : Room j X.A) (he : PE X o ta) (ha : PA X (e :: es) t) (hk : k ≤ j := by decide) {pl : Sem Bool}
    (hst : starEach (e :: es) X.env = (false, eval e X.env) :: starEach es X.env := by rfl) (hpl : (backTo pos (starEach es X.env)).any (·.1) = false := by rfl)
    (ht : eval (.Call (.Attribute o m apos) (e :: es) [] pos) X.env = (do
      let ov ← eval o X.env
      standAt apos.atName
      let (f, first) ← holding [ov] (getMethod ov m pl)
      callWith pos f first (backTo pos (starEach (e :: es) X.env)) (backToKw pos (keywordEach [] X.env))) := by rfl) :
    PE X (.Call (.Attribute o m apos) (e :: es) [] pos) (tMeth C m sp [] E0 ta t) := by
  obtain ⟨f, fd, F, hm, hb⟩ := M.ex
  exact pe_meth he c hm (F.mono hk) hr hb .nil pass0 ha hst hpl ht
theorem methC0 (M : HasM X.prog X.w X.K X.mg X.base C m k ps sp) (c : Cls X.K C) (hr : Room j X.A) (he : PE X o ta) (hk : k ≤ j := by decide) {pl : Sem Bool}
    (ht : eval (.Call (.Attribute o m apos) [] [] pos) X.env = (do
      let ov ← eval o X.env
      standAt apos.atName
      let (f, first) ← holding [ov] (getMethod ov m pl)
      callWith pos f first (backTo pos (starEach [] X.env)) (backToKw pos (keywordEach [] X.env))) := by rfl) :
    PE X (.Call (.Attribute o m apos) [] [] pos) (tMeth C m sp [] E0 ta tNil) := by
  obtain ⟨f, fd, F, hm, hb⟩ := M.ex
  exact pe_meth0 he c hm (F.mono hk) hr hb .nil pass0 ht
/-- a class made by C(e, ..) -/
structure HasI (P : Program) (w : World) (K : PySem.W.Frag) (mg : Str → Option Value) (base : Heap) (x : Str) (C : Addr) (k : Nat) (ps : List Str) (sp : Sp) : Prop where
  ex : ∃ f fd, FnOk P w K mg base CX0 k f fd ps sp ∧ Mk K C f ∧ Binds K fd ps [] ∧ mg x = some (.ref C)
theorem makeC (M : HasI X.prog X.w X.K X.mg X.base x C k ps sp) (hr : Room j X.A) (hg : Gl X x) (ha : PA X (e :: es) t) (hk : k + 1 ≤ j := by decide) (hdb : (x == ("__debug__" : Str)) = false := by decide)
    (he : starEach (e :: es) X.env = (false, eval e X.env) :: starEach es X.env := by rfl) (hpl : (backTo pos (starEach es X.env)).any (·.1) = false := by rfl) :
    PE X (.Call (.Name x p) (e :: es) [] pos) (tMake C sp [] E0 t) := by
  obtain ⟨f, fd, F, mk, hb, hm⟩ := M.ex
  exact pe_make mk F (hr.mono hk) hg hm hb .nil pass0 ha hdb he hpl
structure HasW (P : Program) (w : World) (K : PySem.W.Frag) (mg : Str → Option Value) (base : Heap) (x : Str) (C : Addr) (n : Nat) (ks : List Str) (k : Nat) (ps : List Str) (sp : Sp) : Prop where
  ex : ∃ f fd, FnOk P w K mg base CX0 k f fd ps sp ∧ Mk K C f ∧ KBn K fd ps (n + 1) ks (fun us ws => us ++ ws) (fun vs zs => vs ++ zs) ∧ mg x = some (.ref C)
theorem makeW {n : Nat} {ks : List Str} {kws : List Keyword} (M : HasW X.prog X.w X.K X.mg X.base x C n ks k ps sp) (hr : Room j X.A) (hg : Gl X x) (ha : PA X (e :: es) t) (hkw : PK X kws tk) (hk : k + 1 ≤ j := by decide)
    (hall : (backToKw pos (keywordEach kws X.env)).all (·.1.isSome) = true := by rfl) (hks : (backToKw pos (keywordEach kws X.env)).filterMap (·.1) = ks := by rfl) (hdb : (x == ("__debug__" : Str)) = false := by decide)
    (he : starEach (e :: es) X.env = (false, eval e X.env) :: starEach es X.env := by rfl) (hpl : ((backTo pos (starEach (e :: es) X.env)).any (·.1) || (backToKw pos (keywordEach kws X.env)).any (·.1.isNone)) = false := by rfl) :
    PE X (.Call (.Name x p) (e :: es) kws pos) (tMakeK C n ks.length sp (fun vs zs => vs ++ zs) E0 t tk) := by
  obtain ⟨f, fd, F, mk, hb, hm⟩ := M.ex
  exact pe_makeK mk F (hr.mono hk) hg hm hb pass0 ha hkw hall hks hdb he hpl
end
/-! ### one's own fields -/
def placeF (p : V) (w : Int) (g : Addr) (n : Int) : List (Str × V) := [("_palette", p), ("_wear", .int w), ("_ground", .ref g), ("_next_mark", .int n)]
theorem pf_g (p : V) (w : Int) (g g' : Addr) (n : Int) : putF "_ground" (.ref g') (placeF p w g n) = placeF p w g' n := by rfl
theorem pf_w (p : V) (w w' : Int) (g : Addr) (n : Int) : putF "_wear" (.int w') (placeF p w g n) = placeF p w' g n := by rfl
theorem pf_n (p : V) (w : Int) (g : Addr) (n n' : Int) : putF "_next_mark" (.int n') (placeF p w g n) = placeF p w g n' := by rfl
theorem pf_lp (p : V) (w : Int) (g : Addr) (n : Int) : (placeF p w g n).lookup ("_palette" : Str) = some p := by rfl
theorem pf_lw (p : V) (w : Int) (g : Addr) (n : Int) : (placeF p w g n).lookup ("_wear" : Str) = some (.int w) := by rfl
theorem pf_lg (p : V) (w : Int) (g : Addr) (n : Int) : (placeF p w g n).lookup ("_ground" : Str) = some (.ref g) := by rfl
theorem pf_ln (p : V) (w : Int) (g : Addr) (n : Int) : (placeF p w g n).lookup ("_next_mark" : Str) = some (.int n) := by rfl
theorem pf_m (p : V) (w : Int) (g : Addr) (n : Int) : (placeF p w g n).lookup ("lay" : Str) = none := by rfl
end Fd

namespace Fd
open PySem PySem.Spec PyProof.Rows L2
/-! ### rows whose tags may be anything flat -/
abbrev GLay := PyData × Int
def gD (g : GLay) : PyData := .tuple [g.1, .int g.2]
def gL (gs : List GLay) : List Lay := gs.map fun g => (("" : Str), g.2)
theorem gL_len (gs : List GLay) : (gL gs).length = gs.length := by simp [gL]
theorem dp_pair {K : PySem.W.Frag} {H : Hp} {v : V} {d : PyData} {i : Int} (h : Dp K H v (.tuple [d, .int i])) : ∃ a x, v = .ref a ∧ SqT K H a [x, .int i] ∧ Dp K H x d := by
  obtain ⟨a, xs, rfl, s, al⟩ := Dp.tupInv h
  cases al with
  | cons h1 r =>
    cases r with
    | cons h2 r =>
      cases r
      cases h2
      exact ⟨a, _, rfl, s, h1⟩
theorem gs_get {K : PySem.W.Frag} {H : Hp} {xs : List V} {gs : List GLay} {i : Nat} {v : V} (h : DpAll K H xs (gs.map gD)) (e : xs[i]? = some v) :
    ∃ g b x, gs[i]? = some g ∧ v = .ref b ∧ SqT K H b [x, .int g.2] ∧ Dp K H x g.1 ∧ Dp K H v (gD g) := by
  obtain ⟨d, q, k⟩ := DpAll.get h e
  rw [List.getElem?_map] at q
  cases eg : gs[i]? with
  | none => rw [eg] at q; cases q
  | some g =>
    rw [eg] at q
    obtain rfl : gD g = d := Option.some.inj q
    obtain ⟨a, x, e2, s, hx⟩ := dp_pair k
    exact ⟨g, a, x, rfl, e2, s, hx, k⟩
theorem gs_len {K : PySem.W.Frag} {H : Hp} {xs : List V} {gs : List GLay} (al : DpAll K H xs (gs.map gD)) : xs.length = gs.length := by
  rw [DpAll.len al, List.length_map]
theorem gs_at {K : PySem.W.Frag} {H : Hp} {xs : List V} {gs : List GLay} {i : Nat} (h : DpAll K H xs (gs.map gD)) (hi : i < gs.length) : ∃ g b x, gs[i]? = some g ∧ xs[i]? = some (.ref b) ∧ SqT K H b [x, .int g.2] ∧ Dp K H x g.1 := by
  have len := gs_len h
  have e : xs[i]? = some xs[i] := List.getElem?_eq_getElem (by omega)
  obtain ⟨g, b, x, q, e2, s, hx, _⟩ := gs_get h e
  exact ⟨g, b, x, q, by rw [e, e2], s, hx⟩
theorem str_gL (gs : List GLay) {i : Nat} {g : GLay} (h : gs[i]? = some g) : str (gL gs) i = g.2 := by
  unfold str gL
  rw [List.getElem?_map, h]
  rfl
/-! ### what changes, what stays -/
def Mu : HO → Prop
  | .ins _ _ _ => True
  | .dK _ => True
  | _ => False
structure Chg (S : List Addr) (H H' : Hp) : Prop where
  mu : ∀ q ∈ S, ∃ o, H q = some o ∧ Mu o
  same : ∀ a o, a ∉ S → H a = some o → H' a = some o
section
variable {K : PySem.W.Frag} {H H1 : Hp} {S : List Addr} {a : Addr} {xs : List V}
theorem Chg.of_mu (c : Chg S H H1) {o : HO} (h : H a = some o) (n : ¬ Mu o) : H1 a = some o := c.same a o (fun m => by
  obtain ⟨u, e, mu⟩ := c.mu a m
  rw [h] at e
  cases e
  exact n mu) h
theorem Chg.seqT (c : Chg S H H1) (h : SqT K H a xs) : SqT K H1 a xs := by
  rcases h with (h | ⟨ob, h⟩) | h
  · exact .inl (.inl (c.of_mu h (fun z => z)))
  · exact .inl (.inr ⟨ob, c.of_mu h (fun z => z)⟩)
  · exact .inr h
theorem Chg.seqL (c : Chg S H H1) (h : SqL K H a xs) : SqL K H1 a xs := by
  rcases h with (h | ⟨ob, h⟩) | h
  · exact .inl (.inl (c.of_mu h (fun z => z)))
  · exact .inl (.inr ⟨ob, c.of_mu h (fun z => z)⟩)
  · exact .inr h
theorem Chg.lst (c : Chg S H H1) (h : H a = some (.lst xs)) : H1 a = some (.lst xs) := c.of_mu h (fun z => z)
theorem Chg.dps (c : Chg S H H1) {ds : List PyData} (fl : flatTs ds = true) (h : DpAll K H xs ds) : DpAll K H1 xs ds := DpAll.move (fun _ _ t => c.seqT t) fl h
theorem Chg.dp (c : Chg S H H1) {v : V} {d : PyData} (fl : flatT d = true) (h : Dp K H v d) : Dp K H1 v d := Dp.move (fun _ _ t => c.seqT t) fl h
theorem smDps (c : Same H H1) {ds : List PyData} (fl : flatTs ds = true) (h : DpAll K H xs ds) : DpAll K H1 xs ds := DpAll.move (fun _ _ t => St.tup potN (St.ofSame potN c) t) fl h
theorem smDp (c : Same H H1) {v : V} {d : PyData} (fl : flatT d = true) (h : Dp K H v d) : Dp K H1 v d := Dp.move (fun _ _ t => St.tup potN (St.ofSame potN c) t) fl h
theorem smT {H2 : Hp} (c : Same H H1) (d : Same H1 H2) : Same H H2 := fun a o e => d a o (c a o e)
theorem smFr (c : Same H H1) (e : H1 a = none) : H a = none := by
  cases h : H a with
  | none => rfl
  | some o =>
    have := c a o h
    rw [e] at this
    cases this
end
/-! ### dicts whose keys are texts -/
theorem valV_txt {α : Type} (f : α → Str) (g : α → V) {z : Str} : ∀ {l : List α}, z ∉ l.map f → valV (l.map fun i => ((Sum.inr (f i) : L2.Key), g i)) (Sum.inr z) = none
  | [], _ => rfl
  | i :: l, h => by
    have h1 : ¬ f i = z := fun e => h (by simp [e])
    rw [List.map_cons, valV_neg (by intro e; exact h1 (Sum.inr.inj e))]
    exact valV_txt f g fun m => h (List.mem_cons_of_mem _ m)
theorem valV_txtS {α : Type} (f : α → Str) (g : α → V) {i : α} : ∀ {l : List α}, i ∈ l → (l.map f).Nodup → valV (l.map fun i => ((Sum.inr (f i) : L2.Key), g i)) (Sum.inr (f i)) = some (g i)
  | j :: l, h, nd => by
    rw [List.map_cons, List.nodup_cons] at nd
    rw [List.map_cons]
    by_cases e : f j = f i
    · rcases List.mem_cons.mp h with q | q
      · subst q
        exact valV_pos rfl
      · exact absurd (List.mem_map.mpr ⟨i, q, e.symm⟩) nd.1
    · rw [valV_neg (by intro q; exact e (Sum.inr.inj q))]
      refine valV_txtS f g ?_ nd.2
      rcases List.mem_cons.mp h with q | q
      · subst q
        exact absurd rfl e
      · exact q
theorem not_take {α : Type} (f : α → Str) {l : List α} (nd : (l.map f).Nodup) {i : Nat} {x : α} (h : l[i]? = some x) : f x ∉ (l.take i).map f := by
  intro m
  obtain ⟨y, my, e⟩ := List.mem_map.mp m
  obtain ⟨j, ej⟩ := List.mem_iff_getElem?.mp my
  rw [List.getElem?_take] at ej
  by_cases hj : j < i
  · rw [if_pos hj] at ej
    obtain ⟨hi, ei⟩ := List.getElem?_eq_some_iff.mp h
    obtain ⟨hj', ej'⟩ := List.getElem?_eq_some_iff.mp ej
    have n := (List.pairwise_iff_getElem.mp nd) j i (by rw [List.length_map]; exact hj') (by rw [List.length_map]; exact hi) hj
    rw [List.getElem_map, List.getElem_map, ej', ei] at n
    exact n e
  · rw [if_neg hj] at ej
    cases ej
/-! ### a palette -/
def palF (m f : Addr) : List (Str × V) := [("_made", .ref m), ("_fades", .ref f)]
def fadesK (inks : List Lay) : List (L2.Key × V) := inks.map fun i => (Sum.inr i.1, V.int i.2)
structure PalAt (K : PySem.W.Frag) (C : Addr) (H : Hp) (p m f : Addr) (inks : List Lay) : Prop where
  ob : ∃ dx, H p = some (.ins C dx (palF m f))
  made : ∃ vs, H m = some (.lst vs) ∧ DpAll K H vs (inks.map layD)
  fades : H f = some (.dK (fadesK inks))
def NmOk (z : Str) : Prop := TagOk z ∧ 1 ≤ z.length
structure InksOk (inks : List Lay) : Prop where
  ok : ∀ i ∈ inks, NmOk i.1 ∧ 0 ≤ i.2 ∧ i.2.natAbs < 2 ^ 250
  nd : (inks.map (·.1)).Nodup
  pos : 1 ≤ inks.length
  most : inks.length ≤ 8
theorem PalAt.same {K : PySem.W.Frag} {C : Addr} {H H' : Hp} {p m f : Addr} {inks : List Lay} (h : PalAt K C H p m f inks) (s : Same H H') : PalAt K C H' p m f inks := by
  obtain ⟨⟨dx, a⟩, ⟨vs, b, c⟩, d⟩ := h
  exact ⟨⟨dx, s _ _ a⟩, ⟨vs, s _ _ b, smDps s (flat_lays _) c⟩, s _ _ d⟩
theorem PalAt.chg {K : PySem.W.Frag} {C : Addr} {H H' : Hp} {p m f : Addr} {inks : List Lay} {S : List Addr} (h : PalAt K C H p m f inks) (s : Chg S H H') (np : p ∉ S) (nf : f ∉ S) : PalAt K C H' p m f inks := by
  obtain ⟨⟨dx, a⟩, ⟨vs, b, c⟩, d⟩ := h
  exact ⟨⟨dx, s.same _ _ np a⟩, ⟨vs, s.lst b, s.dps (flat_lays _) c⟩, s.same _ _ nf d⟩
/-! ### a place -/
abbrev Lyr := Nat × Str × Int
def mD (l : Lyr) : PyData := .tuple [.tuple [.str l.2.1, .int l.1], .int l.2.2]
def lD (l : Lyr) : PyData := .tuple [.int l.1, .str l.2.1, .int l.2.2]
def mG (l : Lyr) : GLay := (.tuple [.str l.2.1, .int l.1], l.2.2)
theorem mD_g (l : Lyr) : mD l = gD (mG l) := rfl
def mrow (ls : List Lyr) : PyData := .tuple (ls.map mD)
theorem flat_mD (l : Lyr) : flatT (mD l) = true := by simp [mD, flatT, flatTs]
theorem flat_lD (l : Lyr) : flatT (lD l) = true := by simp [lD, flatT, flatTs]
theorem flat_mDs (ls : List Lyr) : flatTs (ls.map mD) = true := flatTs_of fun d m => by
  obtain ⟨l, _, rfl⟩ := List.mem_map.mp m
  exact flat_mD l
theorem flat_lDs (ls : List Lyr) : flatTs (ls.map lD) = true := flatTs_of fun d m => by
  obtain ⟨l, _, rfl⟩ := List.mem_map.mp m
  exact flat_lD l
theorem flat_mrow (ls : List Lyr) : flatT (mrow ls) = true := by
  unfold mrow flatT
  exact flat_mDs ls
/-- rows of layers by inks, in order; in the heap a dict of an ink's row each -/
abbrev GGrd := List (Str × List GLay)
def FlatG (gr : GGrd) : Prop := ∀ r ∈ gr, ∀ g ∈ r.2, flatT g.1 = true
def rowG (gs : List GLay) : PyData := .tuple (gs.map gD)
theorem flat_gD {g : GLay} (h : flatT g.1 = true) : flatT (gD g) = true := by simp [gD, flatT, flatTs, h]
theorem flat_gDs {gs : List GLay} (h : ∀ g ∈ gs, flatT g.1 = true) : flatTs (gs.map gD) = true := flatTs_of fun d m => by
  obtain ⟨g, mg, rfl⟩ := List.mem_map.mp m
  exact flat_gD (h g mg)
theorem flat_rowG {gs : List GLay} (h : ∀ g ∈ gs, flatT g.1 = true) : flatT (rowG gs) = true := by
  unfold rowG flatT
  exact flat_gDs h
def GRel (K : PySem.W.Frag) (H : Hp) (kv : L2.Key × V) (r : Str × List GLay) : Prop := kv.1 = Sum.inr r.1 ∧ Dp K H kv.2 (rowG r.2)
def GrdG (K : PySem.W.Frag) (H : Hp) (g : Addr) (gr : GGrd) : Prop := ∃ kvs : List (L2.Key × V), H g = some (.dK kvs) ∧ Paired (GRel K H) kvs gr
theorem pairedMem {α β : Type} {R R' : α → β → Prop} : ∀ {xs : List α} {ys : List β}, Paired R xs ys → (∀ x y, y ∈ ys → R x y → R' x y) → Paired R' xs ys
  | _, _, .nil, _ => .nil
  | _, _, .cons h t, f => .cons (f _ _ (List.mem_cons_self ..) h) (pairedMem t fun x y m => f x y (List.mem_cons_of_mem _ m))
theorem grels {K : PySem.W.Frag} {H H' : Hp} {kvs : List (L2.Key × V)} {gr : GGrd} (fl : FlatG gr) (f : ∀ a xs, SqT K H a xs → SqT K H' a xs) (h : Paired (GRel K H) kvs gr) : Paired (GRel K H') kvs gr :=
  pairedMem h fun x y m r => ⟨r.1, Dp.move f (flat_rowG (fl y m)) r.2⟩
theorem GrdG.same {K : PySem.W.Frag} {H H' : Hp} {g : Addr} {gr : GGrd} (fl : FlatG gr) (h : GrdG K H g gr) (s : Same H H') : GrdG K H' g gr := by
  obtain ⟨kvs, a, b⟩ := h
  exact ⟨kvs, s _ _ a, grels fl (fun _ _ t => St.tup potN (St.ofSame potN s) t) b⟩
theorem GrdG.chg {K : PySem.W.Frag} {H H' : Hp} {g : Addr} {gr : GGrd} {S : List Addr} (fl : FlatG gr) (h : GrdG K H g gr) (s : Chg S H H') (n : g ∉ S) : GrdG K H' g gr := by
  obtain ⟨kvs, a, b⟩ := h
  exact ⟨kvs, s.same _ _ n a, grels fl (fun _ _ t => s.seqT t) b⟩
abbrev Grd := List (Str × List Lyr)
def gG (gr : Grd) : GGrd := gr.map fun r => (r.1, r.2.map mG)
theorem flat_gG (gr : Grd) : FlatG (gG gr) := by
  rintro r m g mg
  obtain ⟨r', _, rfl⟩ := List.mem_map.mp m
  obtain ⟨l, _, rfl⟩ := List.mem_map.mp mg
  simp [mG, flatT, flatTs]
def GrdAt (K : PySem.W.Frag) (H : Hp) (g : Addr) (gr : Grd) : Prop := GrdG K H g (gG gr)
structure PlaceAt (K : PySem.W.Frag) (cP cQ : Addr) (H : Hp) (x p m f g : Addr) (inks : List Lay) (wear : Int) (gr : Grd) (next : Nat) : Prop where
  ob : ∃ dx, H x = some (.ins cQ dx (placeF (.ref p) wear g next))
  pal : PalAt K cP H p m f inks
  grd : GrdAt K H g gr
  names : gr.map (·.1) = inks.map (·.1)
theorem GrdAt.same {K : PySem.W.Frag} {H H' : Hp} {g : Addr} {gr : Grd} (h : GrdAt K H g gr) (s : Same H H') : GrdAt K H' g gr := GrdG.same (flat_gG gr) h s
theorem GrdAt.chg {K : PySem.W.Frag} {H H' : Hp} {g : Addr} {gr : Grd} {S : List Addr} (h : GrdAt K H g gr) (s : Chg S H H') (n : g ∉ S) : GrdAt K H' g gr := GrdG.chg (flat_gG gr) h s n
theorem PlaceAt.same {K : PySem.W.Frag} {cP cQ : Addr} {H H' : Hp} {x p m f g : Addr} {inks : List Lay} {wear : Int} {gr : Grd} {next : Nat} (h : PlaceAt K cP cQ H x p m f g inks wear gr next) (s : Same H H') : PlaceAt K cP cQ H' x p m f g inks wear gr next := by
  obtain ⟨⟨dx, a⟩, b, c, d⟩ := h
  exact ⟨⟨dx, s _ _ a⟩, b.same s, c.same s, d⟩
theorem PlaceAt.chg {K : PySem.W.Frag} {cP cQ : Addr} {H H' : Hp} {x p m f g : Addr} {inks : List Lay} {wear : Int} {gr : Grd} {next : Nat} {S : List Addr} (h : PlaceAt K cP cQ H x p m f g inks wear gr next) (s : Chg S H H')
    (nx : x ∉ S) (np : p ∉ S) (nf : f ∉ S) (ng : g ∉ S) : PlaceAt K cP cQ H' x p m f g inks wear gr next := by
  obtain ⟨⟨dx, a⟩, b, c, d⟩ := h
  exact ⟨⟨dx, s.same _ _ nx a⟩, b.chg s np nf, c.chg s ng, d⟩
/-! ### what is seen -/
open Classical in
noncomputable def firstOf (gs : List GLay) : Option GLay := if h : ∃ t, IsTop (gL gs) t then gs[h.choose]? else none
theorem firstOf_top {gs : List GLay} {t : Nat} (h : IsTop (gL gs) t) : firstOf gs = gs[t]? := by
  unfold firstOf
  have e : ∃ t, IsTop (gL gs) t := ⟨t, h⟩
  rw [dif_pos e, IsTop.uniq e.choose_spec h]
theorem firstOf_nil : firstOf [] = none := by
  unfold firstOf
  rw [dif_neg]
  rintro ⟨t, h⟩
  have := h.1
  simp [gL] at this
noncomputable def topStep (acc : Option (Str × GLay)) (r : Str × List GLay) : Option (Str × GLay) :=
  match firstOf r.2 with
  | none => acc
  | some l => match acc with
    | none => some (r.1, l)
    | some a => if a.2.2 < l.2 then some (r.1, l) else some a
noncomputable def topG (gr : GGrd) : Option (Str × GLay) := gr.foldl topStep none
def seenD (a : Str × GLay) : PyData := .tuple [.str a.1, a.2.1, .int a.2.2]
/-- None, or a tuple of ink, tag, strength -/
def SeenV (K : PySem.W.Frag) (H : Hp) (v : V) : Option (Str × GLay) → Prop
  | none => v = .non
  | some a => Dp K H v (seenD a)
theorem grel_none {K : PySem.W.Frag} {H : Hp} {z : Str} : ∀ {kvs : List (L2.Key × V)} {gr : GGrd}, Paired (GRel K H) kvs gr → z ∉ gr.map (·.1) → valV kvs (Sum.inr z : L2.Key) = none
  | _, _, .nil, _ => rfl
  | kv :: kvs, r :: gr, .cons h t, n => by
    have h1 : ¬ kv.1 = (Sum.inr z : L2.Key) := fun e => n (by
      rw [h.1] at e
      rw [List.map_cons]
      exact (Sum.inr.inj e) ▸ List.mem_cons_self ..)
    rw [valV_neg h1]
    exact grel_none t fun m => n (by rw [List.map_cons]; exact List.mem_cons_of_mem _ m)
theorem grel_some {K : PySem.W.Frag} {H : Hp} {r : Str × List GLay} : ∀ {kvs : List (L2.Key × V)} {gr : GGrd}, Paired (GRel K H) kvs gr → (gr.map (·.1)).Nodup → r ∈ gr → ∃ v, valV kvs (Sum.inr r.1 : L2.Key) = some v ∧ Dp K H v (rowG r.2)
  | _, _, .nil, _, m => nomatch m
  | kv :: kvs, s :: gr, .cons h t, nd, m => by
    rw [List.map_cons, List.nodup_cons] at nd
    by_cases e : s.1 = r.1
    · rcases List.mem_cons.mp m with q | q
      · subst q
        exact ⟨kv.2, valV_pos h.1, h.2⟩
      · exact absurd (List.mem_map.mpr ⟨r, q, e.symm⟩) nd.1
    · have h1 : ¬ kv.1 = (Sum.inr r.1 : L2.Key) := fun q => e (by rw [h.1] at q; exact Sum.inr.inj q)
      rw [valV_neg h1]
      refine grel_some t nd.2 ?_
      rcases List.mem_cons.mp m with q | q
      · subst q
        exact absurd rfl e
      · exact q
/-- one ink's row put anew -/
def setG (gr : GGrd) (z : Str) (gs : List GLay) : GGrd := gr.map fun r => if r.1 = z then (r.1, gs) else r
theorem grel_map {K : PySem.W.Frag} {H : Hp} {z : Str} {gs : List GLay} {v : V} (hv : Dp K H v (rowG gs)) : ∀ {kvs : List (L2.Key × V)} {gr : GGrd}, Paired (GRel K H) kvs gr →
    Paired (GRel K H) (kvs.map fun kv => if kv.1 = (Sum.inr z : L2.Key) then (kv.1, v) else kv) (setG gr z gs)
  | _, _, .nil => .nil
  | kv :: kvs, r :: gr, .cons h t => by
    unfold setG
    rw [List.map_cons, List.map_cons]
    refine .cons ?_ (grel_map hv t)
    by_cases e : r.1 = z
    · rw [if_pos e, if_pos (by rw [h.1, e])]
      exact ⟨h.1, hv⟩
    · rw [if_neg e, if_neg (fun q => e (by rw [h.1] at q; exact Sum.inr.inj q))]
      exact h
theorem grel_put {K : PySem.W.Frag} {H : Hp} {z : Str} {gs : List GLay} {v : V} {kvs : List (L2.Key × V)} {gr : GGrd} (hv : Dp K H v (rowG gs)) (h : Paired (GRel K H) kvs gr) (nd : (gr.map (·.1)).Nodup) (m : z ∈ gr.map (·.1)) :
    Paired (GRel K H) (putK kvs (Sum.inr z : L2.Key) v) (setG gr z gs) := by
  obtain ⟨r, mr, rfl⟩ := List.mem_map.mp m
  obtain ⟨u, e, _⟩ := grel_some h nd mr
  unfold putK
  rw [valV_any, e, if_pos (by rfl)]
  exact grel_map hv h
theorem firstOf_mem {gs : List GLay} {l : GLay} (h : firstOf gs = some l) : l ∈ gs := by
  unfold firstOf at h
  split at h
  · exact List.mem_of_getElem? h
  · cases h
theorem fold_mem {a : Str × GLay} : ∀ {gr : GGrd} {acc : Option (Str × GLay)}, gr.foldl topStep acc = some a → acc = some a ∨ ∃ r ∈ gr, r.1 = a.1 ∧ a.2 ∈ r.2
  | [], _, h => .inl h
  | r :: gr, acc, h => by
    rw [List.foldl_cons] at h
    rcases fold_mem h with q | ⟨s, ms, q⟩
    · unfold topStep at q
      cases e : firstOf r.2 with
      | none => rw [e] at q; exact .inl q
      | some l =>
        rw [e] at q
        have ml := firstOf_mem e
        cases acc with
        | none =>
          have q' : some (r.1, l) = some a := q
          cases q'
          exact .inr ⟨r, List.mem_cons_self .., rfl, ml⟩
        | some b =>
          have q' : (if b.2.2 < l.2 then some (r.1, l) else some b) = some a := q
          by_cases c : b.2.2 < l.2
          · rw [if_pos c] at q'
            cases q'
            exact .inr ⟨r, List.mem_cons_self .., rfl, ml⟩
          · rw [if_neg c] at q'
            exact .inl q'
    · exact .inr ⟨s, List.mem_cons_of_mem _ ms, q⟩
theorem topG_mem {gr : GGrd} {a : Str × GLay} (h : topG gr = some a) : ∃ r ∈ gr, r.1 = a.1 ∧ a.2 ∈ r.2 := by
  rcases fold_mem h with q | q
  · cases q
  · exact q
theorem flat_take {gr : GGrd} (fl : FlatG gr) (n : Nat) : FlatG (gr.take n) := fun r m => fl r (List.mem_of_mem_take m)
theorem SeenV.move {K : PySem.W.Frag} {H H' : Hp} {v : V} {gr : GGrd} (fl : FlatG gr) (f : ∀ a xs, SqT K H a xs → SqT K H' a xs) (h : SeenV K H v (topG gr)) : SeenV K H' v (topG gr) := by
  cases e : topG gr with
  | none => rw [e] at h; exact h
  | some a =>
    rw [e] at h
    obtain ⟨r, mr, _, ma⟩ := topG_mem e
    exact Dp.move f (by simp [seenD, flatT, flatTs, fl r mr _ ma]) h
theorem topG_succ (gr : GGrd) {i : Nat} {r : Str × List GLay} (h : gr[i]? = some r) : topG (gr.take (i + 1)) = topStep (topG (gr.take i)) r := by
  unfold topG
  rw [List.take_add_one, h, List.foldl_append]
  rfl
theorem paired_len {α β : Type} {R : α → β → Prop} : ∀ {xs : List α} {ys : List β}, Paired R xs ys → xs.length = ys.length
  | _, _, .nil => rfl
  | _, _, .cons _ t => congrArg (· + 1) (paired_len t)
theorem paired_snoc {α β : Type} {R : α → β → Prop} {x : α} {y : β} (h : R x y) : ∀ {xs : List α} {ys : List β}, Paired R xs ys → Paired R (xs ++ [x]) (ys ++ [y])
  | _, _, .nil => .cons h .nil
  | _, _, .cons a t => .cons a (paired_snoc h t)
/-! ### comprehensions of dicts, kept folded -/
def DcK (J : It) (g : TG) (tt : TT) (tk tv : TE) (vs : List Nat) (σ : L2.St) (Q : VK) (H1 : Hp) : Prop := ∀ D, H1 D = none → ∃ W : Nat → Nat → Hp → Prop, (∃ m, W 0 m (upd H1 D (.dK []))) ∧ ∀ i m H, W i m H →
  (J.stop i H ∧ Q (.ref D) H) ∨ (J.go i H ∧ ∃ Nx : Hp → Prop, (∀ H', Nx H' → ∃ m', m' < m ∧ W (i + 1) m' H') ∧ ∀ x H', J.yld i H x H' → g x (wipe σ vs) H' fun σ2 H2 => wipe σ2 vs = wipe σ vs ∧ tt σ2 H2 fun b H3 =>
    if b = true then tk σ2 H3 fun y H4 => tv σ2 H4 fun z H5 => ∃ kvs k, y = kV k ∧ H5 D = some (.dK kvs) ∧ kvs.length < sizeLine ∧ Nx (upd H5 D (.dK (putK kvs k z))) else Nx H3)
theorem tDcE {wi : TI} {g : TG} {tt : TT} {tk tv : TE} {vs : List Nat} {σ : L2.St} {H : Hp} {Q : VK} : tDc wi g tt tk tv vs σ H Q = wi σ H fun J H1 => DcK J g tt tk tv vs σ Q H1 := rfl
section
variable {J : It} {n : Nat} {G : Hp → Prop} {Y : Nat → Hp → V → Hp → Prop}
theorem dcW (w : Walk J n G Y) {g : TG} {tt : TT} {tk tv : TE} {vs : List Nat} {σ : L2.St} {H1 : Hp} {Q : VK} (R : Nat → Hp → List (L2.Key × V) → Prop)
    (hn : n ≤ 1000000) (r0 : ∀ D, H1 D = none → R 0 (upd H1 D (.dK [])) []) (hG : ∀ i H kvs, Same H1 H → R i H kvs → G H)
    (step : ∀ i x Ha H' kvs D (C : V → V → Hp → Prop) (N : Hp → Prop), i < n → Same H1 Ha → H1 D = none → Ha D = some (.dK kvs) → R i Ha kvs → Y i Ha x H' →
      (∀ k z H5, Same Ha H5 → valV kvs k = none → (∀ H6, (∀ a o, a ≠ D → H5 a = some o → H6 a = some o) → R (i + 1) H6 (kvs ++ [(k, z)])) → C (kV k) z H5) →
      g x (wipe σ vs) H' fun σ2 H2 => wipe σ2 vs = wipe σ vs ∧ tt σ2 H2 fun b H3 => if b = true then tk σ2 H3 fun y H4 => tv σ2 H4 fun z H5 => C y z H5 else N H3)
    (done : ∀ D kvs H', H1 D = none → Same H1 H' → H' D = some (.dK kvs) → R n H' kvs → Q (.ref D) H') :
    DcK J g tt tk tv vs σ Q H1 := by
  intro D hD
  have line : (1000000 : Nat) < sizeLine := by decide
  refine ⟨fun i m H => m = n - i ∧ i ≤ n ∧ Same H1 H ∧ ∃ kvs, H D = some (.dK kvs) ∧ kvs.length ≤ i ∧ R i H kvs, ⟨n, by simp, Nat.zero_le _, same_new hD, [], upd_same, Nat.le_refl _, r0 D hD⟩, ?_⟩
  rintro i m H ⟨rfl, hi, sa, kvs, hd, hl, r⟩
  have q := hG i H kvs sa r
  by_cases hlt : i < n
  · refine .inr ⟨w.goes i H hlt q, fun H' => i + 1 ≤ n ∧ Same H1 H' ∧ ∃ kvs, H' D = some (.dK kvs) ∧ kvs.length ≤ i + 1 ∧ R (i + 1) H' kvs, fun H' p => ⟨n - (i + 1), by omega, rfl, p.1, p.2.1, p.2.2⟩, fun x H' y => ?_⟩
    refine step i x H H' kvs D (fun y z H5 => ∃ kvs k, y = kV k ∧ H5 D = some (.dK kvs) ∧ kvs.length < sizeLine ∧ _) _ hlt sa hD hd r (w.yields i H x H' hlt q y) fun k z H5 s5 nv h6 => ?_
    have hd5 := s5 _ _ hd
    refine ⟨kvs, k, rfl, hd5, by omega, hlt, fun a o e => ?_, kvs ++ [(k, z)], by rw [putK_new _ nv]; exact upd_same, by simp; omega, by rw [putK_new _ nv]; exact h6 _ fun a o n e => by rw [upd_ne n]; exact e⟩
    rw [upd_ne (ne_of_none e hD)]
    exact s5 _ _ (sa _ _ e)
  · have e : i = n := by omega
    subst e
    exact .inl ⟨w.stops H q, done D kvs H hD sa hd r⟩
end
end Fd

namespace Fd
open PySem PySem.Spec PyProof.Rows L2
/-! ### dicts whose keys are texts, paired with rows -/
theorem prel_some {ρ : Type} (key : ρ → Str) {R : L2.Key × V → ρ → Prop} (hk : ∀ kv r, R kv r → kv.1 = (Sum.inr (key r) : L2.Key)) {r : ρ} : ∀ {kvs : List (L2.Key × V)} {gr : List ρ}, Paired R kvs gr → (gr.map key).Nodup → r ∈ gr →
    ∃ kv, valV kvs (Sum.inr (key r) : L2.Key) = some kv.2 ∧ R kv r
  | _, _, .nil, _, m => nomatch m
  | kv :: kvs, s :: gr, .cons h t, nd, m => by
    rw [List.map_cons, List.nodup_cons] at nd
    by_cases e : key s = key r
    · rcases List.mem_cons.mp m with q | q
      · subst q
        exact ⟨kv, valV_pos (hk _ _ h), h⟩
      · exact absurd (List.mem_map.mpr ⟨r, q, e.symm⟩) nd.1
    · have h1 : ¬ kv.1 = (Sum.inr (key r) : L2.Key) := fun q => e (by rw [hk _ _ h] at q; exact Sum.inr.inj q)
      rw [valV_neg h1]
      refine prel_some key hk t nd.2 ?_
      rcases List.mem_cons.mp m with q | q
      · subst q
        exact absurd rfl e
      · exact q
theorem prel_map {ρ : Type} (key : ρ → Str) {R R' : L2.Key × V → ρ → Prop} (hk : ∀ kv r, R kv r → kv.1 = (Sum.inr (key r) : L2.Key)) {z : Str} {v : V} {f : ρ → ρ} : ∀ {kvs : List (L2.Key × V)} {gr : List ρ}, Paired R kvs gr →
    (∀ kv r, r ∈ gr → R kv r → key r ≠ z → R' kv r) → (∀ kv r, r ∈ gr → R kv r → key r = z → R' (kv.1, v) (f r)) →
    Paired R' (kvs.map fun kv => if kv.1 = (Sum.inr z : L2.Key) then (kv.1, v) else kv) (gr.map fun r => if key r = z then f r else r)
  | _, _, .nil, _, _ => .nil
  | kv :: kvs, r :: gr, .cons h t, h1, h2 => by
    rw [List.map_cons, List.map_cons]
    refine .cons ?_ (prel_map key hk t (fun kv r m => h1 kv r (List.mem_cons_of_mem _ m)) (fun kv r m => h2 kv r (List.mem_cons_of_mem _ m)))
    by_cases e : key r = z
    · rw [if_pos e, if_pos (by rw [hk _ _ h, e])]
      exact h2 _ _ (List.mem_cons_self ..) h e
    · rw [if_neg e, if_neg (fun q => e (by rw [hk _ _ h] at q; exact Sum.inr.inj q))]
      exact h1 _ _ (List.mem_cons_self ..) h e
theorem merge_app : ∀ (more acc : List (L2.Key × V)), ((acc ++ more).map (·.1)).Nodup → mergeK acc more = acc ++ more
  | [], acc, _ => by simp [mergeK]
  | kv :: more, acc, nd => by
    have n : valV acc kv.1 = none := by
      cases e : valV acc kv.1 with
      | none => rfl
      | some v =>
        have q := valV_any kv.1 acc
        rw [e] at q
        obtain ⟨p, mp, ep⟩ := List.any_eq_true.mp q
        have ep' : p.1 = kv.1 := of_decide_eq_true ep
        rw [List.map_append, List.map_cons, List.nodup_append] at nd
        exact absurd ep' (nd.2.2 p.1 (List.mem_map.mpr ⟨p, mp, rfl⟩) kv.1 (List.mem_cons_self ..))
    have e : mergeK acc (kv :: more) = mergeK (putK acc kv.1 kv.2) more := rfl
    rw [e, putK_new _ n, merge_app more (acc ++ [(kv.1, kv.2)]) (by simpa using nd)]
    simp
theorem merge_nil {more : List (L2.Key × V)} (nd : (more.map (·.1)).Nodup) : mergeK [] more = more := by
  have := merge_app more [] (by simpa using nd)
  simpa using this
/-! ### the laws' own model of a place -/
def modelK (li : Addr) (wr : Int) (n : Nat) (rw : Addr) : List (L2.Key × V) := [(Sum.inr "inks", .ref li), (Sum.inr "wear", .int wr), (Sum.inr "next", .int (n : Int)), (Sum.inr "rows", .ref rw)]
theorem mk_inks (li : Addr) (wr : Int) (n : Nat) (rw : Addr) : valV (modelK li wr n rw) (Sum.inr "inks" : L2.Key) = some (.ref li) := by rfl
theorem mk_wear (li : Addr) (wr : Int) (n : Nat) (rw : Addr) : valV (modelK li wr n rw) (Sum.inr "wear" : L2.Key) = some (.int wr) := by rfl
theorem mk_next (li : Addr) (wr : Int) (n : Nat) (rw : Addr) : valV (modelK li wr n rw) (Sum.inr "next" : L2.Key) = some (.int (n : Int)) := by rfl
theorem mk_rows (li : Addr) (wr : Int) (n : Nat) (rw : Addr) : valV (modelK li wr n rw) (Sum.inr "rows" : L2.Key) = some (.ref rw) := by rfl
theorem mk_put (li : Addr) (wr : Int) (n : Nat) (rw : Addr) : putK (modelK li wr n rw) (Sum.inr "next" : L2.Key) (.int ((n : Int) + 1)) = modelK li wr (n + 1) rw := by rfl
theorem mk_new (li : Addr) (wr : Int) (n : Nat) (rw : Addr) : mergeK [] (modelK li wr n rw) = modelK li wr n rw := by rfl
def LRel (K : PySem.W.Frag) (H : Hp) (kv : L2.Key × V) (r : Str × List Lyr) : Prop := kv.1 = Sum.inr r.1 ∧ ∃ l us, kv.2 = .ref l ∧ H l = some (.lst us) ∧ DpAll K H us (r.2.map lD)
def InksL (K : PySem.W.Frag) (H : Hp) (li : Addr) (inks : List Lay) : Prop := ∃ us, H li = some (.lst us) ∧ DpAll K H us (inks.map layD)
structure ModAt (K : PySem.W.Frag) (H : Hp) (mo rw li : Addr) (inks : List Lay) (wr : Int) (gr : Grd) (n : Nat) : Prop where
  ob : H mo = some (.dK (modelK li wr n rw))
  inks : InksL K H li inks
  rows : ∃ kvs, H rw = some (.dK kvs) ∧ Paired (LRel K H) kvs gr
section
variable {K : PySem.W.Frag} {H H' : Hp} {mo rw li : Addr} {inks : List Lay} {wr : Int} {gr : Grd} {n : Nat} {S : List Addr}
theorem LRel.same {kv : L2.Key × V} {r : Str × List Lyr} (s : Same H H') (h : LRel K H kv r) : LRel K H' kv r := by
  obtain ⟨a, l, us, b, c, d⟩ := h
  exact ⟨a, l, us, b, s _ _ c, smDps s (flat_lDs _) d⟩
theorem LRel.chg {kv : L2.Key × V} {r : Str × List Lyr} (s : Chg S H H') (h : LRel K H kv r) : LRel K H' kv r := by
  obtain ⟨a, l, us, b, c, d⟩ := h
  exact ⟨a, l, us, b, s.lst c, s.dps (flat_lDs _) d⟩
theorem InksL.same (h : InksL K H li inks) (s : Same H H') : InksL K H' li inks := by
  obtain ⟨us, a, b⟩ := h
  exact ⟨us, s _ _ a, smDps s (flat_lays _) b⟩
theorem InksL.chg (h : InksL K H li inks) (s : Chg S H H') : InksL K H' li inks := by
  obtain ⟨us, a, b⟩ := h
  exact ⟨us, s.lst a, s.dps (flat_lays _) b⟩
theorem ModAt.same (h : ModAt K H mo rw li inks wr gr n) (s : Same H H') : ModAt K H' mo rw li inks wr gr n := by
  obtain ⟨a, b, kvs, c, d⟩ := h
  exact ⟨s _ _ a, b.same s, kvs, s _ _ c, pairedMem d fun _ _ _ q => q.same s⟩
theorem ModAt.chg (h : ModAt K H mo rw li inks wr gr n) (s : Chg S H H') (nm : mo ∉ S) (nr : rw ∉ S) : ModAt K H' mo rw li inks wr gr n := by
  obtain ⟨a, b, kvs, c, d⟩ := h
  exact ⟨s.same _ _ nm a, b.chg s, kvs, s.same _ _ nr c, pairedMem d fun _ _ _ q => q.chg s⟩
end
/-- what the comprehension that makes the rows leaves -/
theorem made_rows {K : PySem.W.Frag} {H : Hp} : ∀ {ps : List (Addr × Addr)} {inks : List Lay}, Paired (fun (q : Addr × Addr) (r : Lay) => H q.1 = some (.tup [.str r.1, .ref q.2]) ∧ H q.2 = some (.lst [])) ps inks →
    ∃ kvs : List (L2.Key × V), Paired (fun p (kv : L2.Key × V) => SqT K H p [kV kv.1, kv.2]) (ps.map (·.1)) kvs ∧ Paired (LRel K H) kvs (inks.map fun i => (i.1, [])) ∧ kvs.map (·.1) = inks.map fun i => (Sum.inr i.1 : L2.Key)
  | _, _, .nil => ⟨[], .nil, .nil, rfl⟩
  | q :: ps, r :: inks, .cons h t => by
    obtain ⟨kvs, a, b, c⟩ := made_rows (K := K) t
    refine ⟨(Sum.inr r.1, .ref q.2) :: kvs, .cons (SqT.of h.1) a, .cons ⟨rfl, q.2, [], rfl, h.2, .nil⟩ b, ?_⟩
    rw [List.map_cons, List.map_cons, c]
theorem ls_len {K : PySem.W.Frag} {H : Hp} {xs : List V} {ls : List Lyr} (al : DpAll K H xs (ls.map lD)) : xs.length = ls.length := by
  rw [DpAll.len al, List.length_map]
theorem ls_at {K : PySem.W.Frag} {H : Hp} {xs : List V} {ls : List Lyr} {i : Nat} (h : DpAll K H xs (ls.map lD)) (hi : i < ls.length) :
    ∃ (l : Lyr) (b : Addr), ls[i]? = some l ∧ xs[i]? = some (.ref b) ∧ SqT K H b [.int l.1, .str l.2.1, .int l.2.2] := by
  have len := ls_len h
  have e : xs[i]? = some xs[i] := List.getElem?_eq_getElem (by omega)
  obtain ⟨d, q, k⟩ := DpAll.get h e
  rw [List.getElem?_map] at q
  have el : ls[i]? = some ls[i] := List.getElem?_eq_getElem hi
  rw [el] at q
  obtain rfl : lD ls[i] = d := Option.some.inj q
  obtain ⟨b, ys, e2, s, al⟩ := Dp.tupInv k
  cases al with
  | cons h1 r => cases r with
    | cons h2 r => cases r with
      | cons h3 r =>
        cases r
        cases h1
        cases h2
        cases h3
        exact ⟨ls[i], b, el, by rw [e, e2], s⟩
theorem str_mG (ls : List Lyr) {i : Nat} {l : Lyr} (h : ls[i]? = some l) : str (gL (ls.map mG)) i = l.2.2 := str_gL (ls.map mG) (g := mG l) (by rw [List.getElem?_map, h]; rfl)
/-! ### what may be shown -/
theorem niceW_lD {l : Lyr} (h : LayOk (l.2.1, l.2.2)) (h2 : l.1 < 1000) : NiceW 753 (lD l) := by
  have q := niceWs (n := 250) (k := 0) (ds := [.int l.1, .str l.2.1, .int l.2.2]) fun d m => by
    rcases List.mem_cons.mp m with e | m
    · rw [e]
      exact ⟨niceW_int (by have : ((l.1 : Int)).natAbs = l.1 := Int.natAbs_natCast _; rw [this]; exact Nat.lt_trans h2 (by decide)), by simp [PyData.depth]⟩
    rcases List.mem_cons.mp m with e | m
    · rw [e]
      have : NiceW 8 (.str l.2.1) := niceW_tag h.1
      exact ⟨⟨this.sh, this.nd, this.lf, by have := this.wt; omega, this.lay, this.dp⟩, by simp [PyData.depth]⟩
    · rw [List.mem_singleton.mp m]
      exact ⟨niceW_int h.2, by simp [PyData.depth]⟩
  exact q.tup (by decide)
theorem nice_lds {ls : List Lyr} (n : ls.length ≤ 50) (h : ∀ l ∈ ls, LayOk (l.2.1, l.2.2) ∧ l.1 < 1000) : Nice (.list (ls.map lD)) := by
  have q := niceWs (n := 753) (k := 1) (ds := ls.map lD) fun d m => by
    obtain ⟨l, ml, rfl⟩ := List.mem_map.mp m
    exact ⟨niceW_lD (h l ml).1 (h l ml).2, by simp [lD, PyData.depth, PyData.depthAll]⟩
  refine (q.lst (by decide)).nice ?_
  rw [List.length_map]
  omega
theorem nice_nil : Nice (.list []) := nice_ints (ns := []) (by decide) (fun _ h => nomatch h)
theorem eqv_lnil (ds : List PyData) : PyData.eqv (.list ds) (.list []) = ds.isEmpty := by
  simp only [PyData.eqv]
  exact eqvAll_nil ds
theorem niceW_none : NiceW 250 .none := by
  refine ⟨?_, ?_, ?_, ?_, ?_, ?_⟩ <;> simp [PyData.showable, PyData.hasDict, PyData.leavesShort, PyData.weight, PyData.canLay0, PyData.depth]
end Fd

namespace Fd
open PySem PySem.Spec PyProof.Rows L2
/-! ### f(k = v, ..): every argument by its name -/
structure HasKW (P : Program) (w : World) (K : PySem.W.Frag) (mg : Str → Option Value) (base : Heap) (x : Str) (k : Nat) (ps ks : List Str) (g : List Value → List Value → List Value) (gV : List V → List V → List V) (sp : Sp) : Prop where
  ex : ∃ f fd, FnOk P w K mg base CX0 k f fd ps sp ∧ mg x = some (.ref f) ∧ PySem.W.keepIn K (.ref f) = true ∧ KBinds K fd ps ks g gV
theorem callKW0 {X : Cx} {k j : Nat} {ps ks : List Str} {g : List Value → List Value → List Value} {gV : List V → List V → List V} {sp : Sp} {x : Str} {p pos : Pos} {kws : List Keyword} {tk : TA}
    (M : HasKW X.prog X.w X.K X.mg X.base x k ps ks g gV sp) (hr : Room j X.A) (hg : Gl X x) (hkw : PK X kws tk) (hk : k ≤ j := by decide)
    (hall : (backToKw pos (keywordEach kws X.env)).all (·.1.isSome) = true := by rfl) (hks : (backToKw pos (keywordEach kws X.env)).filterMap (·.1) = ks := by rfl)
    (hdb : (x == ("__debug__" : Str)) = false := by decide)
    (hpl : ((backTo pos (starEach [] X.env)).any (·.1) || (backToKw pos (keywordEach kws X.env)).any (·.1.isNone)) = false := by rfl) :
    PE X (.Call (.Name x p) [] kws pos) (tCallK sp gV E0 tNil tk) := by
  obtain ⟨f, fd, F, hm, hkp, hb⟩ := M.ex
  refine ⟨fun pins s σ H Q I h => ?_⟩
  refine wpAny_Call_Name_kw (ld_glob I hg hm ?_ hdb)
  refine PySem.W.callWith_KW0 (h₀ := X.base) I.ok.mod.kin hkp hall (thn (hkw.run pos pins s σ H _ I h) fun ws s2 ⟨zs, H2, I2, rz, q2⟩ => ⟨I2.kIn, ?_⟩) hpl
  rw [hks]
  exact run_fnk F (hr.mono hk) hb pass0 I2 .nil rz q2
end Fd

namespace Fl
open PySem PySem.Spec PyProof.Rows L2 Fd
def topS (i : Nat) : Stmt := PySem.Challenge.pw_fadeleaf_k21_deeds_that_fit.main.body.getD i (.Pass ⟨0, 0, 0, 0⟩)
structure Blt (mg : Str → Option Value) : Prop where
  len : mg "len" = none
  max : mg "max" = none
  min : mg "min" = none
  abs : mg "abs" = none
  divmod : mg "divmod" = none
  range : mg "range" = none
  tuple : mg "tuple" = none
  list : mg "list" = none
  all : mg "all" = none
  repr : mg "repr" = none
  sorted : mg "sorted" = none
  enumerate : mg "enumerate" = none
  isinstance : mg "isinstance" = none
  int : mg "int" = none
  str : mg "str" = none
  bool : mg "bool" = none
  zip : mg "zip" = none
  dict : mg "dict" = none
structure Gs (mg : Str → Option Value) : Prop where
  letters : ∃ t, mg "_LETTERS" = some (.str "abcdefghijklmnopqrstuvwxyz" t)
  mostL : ∃ t, mg "_MOST_LETTERS" = some (.int 8 t)
  inks : ∃ t, mg "MOST_INKS" = some (.int 8 t)

/-! ### the program's palettes: is_whole, is_name, is_amount -/
section
variable {P : Program} {w : World} {K : PySem.W.Frag} {mg : Str → Option Value} {base : Heap}
def nameB : V → Bool
  | .str z => decide (1 ≤ z.length ∧ z.length ≤ 8) && z.cps.toList.all fun c => decide (c ∈ abc.cps.toList)
  | _ => false
def wholeB : V → Bool
  | .int _ => true
  | _ => false
def amtB : V → Bool
  | .int i => decide (1 ≤ i)
  | _ => false
theorem nameB_str (z : Str) : nameB (.str z) = (decide (1 ≤ z.length ∧ z.length ≤ 8) && z.cps.toList.all fun c => decide (c ∈ abc.cps.toList)) := rfl
theorem shaped_signs (cs : List Nat) (h : ∀ c ∈ cs, c < 128) : SeqAt.shaped (.list ((cs.map sgn).map PyData.str)) = true := by
  have q := niceWs (n := 20) (k := 0) (ds := (cs.map sgn).map PyData.str) fun d m => by
    obtain ⟨z, mz, rfl⟩ := List.mem_map.mp m
    obtain ⟨c, mc, rfl⟩ := List.mem_map.mp mz
    refine ⟨niceW_txt ⟨by show 1 ≤ 20; decide, fun x mx => ?_⟩, by simp [PyData.depth]⟩
    have : x = c := by simpa using mx
    rw [this]
    exact h c mc
  have n := q.lst (by decide)
  have d := n.dp
  unfold SeqAt.shaped
  rw [n.lay, decide_eq_true (Nat.le_trans d (by decide : 10 ≤ 64))]
  rfl
abbrev s_is_whole : Stmt := topS 8
theorem sc_is_whole : FnScope ["thing"] ["thing"] (defScope s_is_whole) := ⟨rfl, rfl, rfl, by decide +kernel, rfl, by decide +kernel, by decide +kernel⟩

def spWhole (K : PySem.W.Frag) : Sp := fun vs H Q _ => ∃ v, vs = [v] ∧ Cl K H v ∧ Q (.bl (wholeB v)) H
theorem ok_is_whole {f : Addr} {fd : FuncData} (F : Fun K "is_whole" "is_whole" s_is_whole f fd) (M : Blt mg) : FnOk P w K mg base CX0 1 f fd ["thing"] (spWhole K) := by
  refine F.ok sc_is_whole (fun vs H Q E h => ?_) (fun cdv A outer s H vs Q E hr h => ?_)
  · obtain ⟨v, rfl, _⟩ := h
    rfl
  · obtain ⟨v, rfl, hv, k⟩ := h
    refine ⟨_, (pss_one (ps_ret (pe_and (pe_callB (k_isi (K := K) rfl) (by rfl) M.isinstance (by decide +kernel) (pa_cons (pv 0) (pa_cons (pe_bltn (v := .ty "int") (by rfl) M.int (by decide +kernel) rfl) pa_nil))) (pe_one (pe_not (pe_callB (k_isi (K := K) rfl) (by rfl) M.isinstance (by decide +kernel) (pa_cons (pv 0) (pa_cons (pe_bltn (v := .ty "bool") (by rfl) M.bool (by decide +kernel) rfl) pa_nil)))))))), ?_⟩
    simp only [tSeq, tIfS, tTest, tOp, tUn, tVar, tC, rI, rI0, rU, rEq, rNe, rIxL, rIxT, rIxS, tCB, tCons, tNil, tRet, tRetN, tAsg, gTup, gCons, gNil, gName, gSub, rSetL, tNext, tDrop, tLst, tTup, tCall, tIf, tB, tAnd, tOr, tNot, tSl, tPart, tNoPart, tM1, tM0, tBM, tBM0, tLcE, tForE, iRng1, iRng2, iTup, iList, iStr, tYes, wipe, startDef, cxK, noxK, exists_and_left, exists_eq_left', exists_eq_left, exists_eq_right, Option.some.injEq, V.int.injEq, V.ref.injEq, V.str.injEq, V.bl.injEq, List.cons.injEq, and_true, true_and, List.append_nil, List.map_cons, List.map_nil, List.length_cons, List.length_nil, List.replicate, List.nil_append, List.cons_append, List.set_cons_zero, List.set_cons_succ, List.getElem?_cons_zero, List.getElem?_cons_succ, decide_eq_true_eq, exists_const, Nat.reduceAdd, Nat.reduceSub, List.replicate_succ, List.replicate_zero, exists_prop, and_assoc, List.set_nil, rLenK, rTupK, rLstK, rReprK, rEqD, rNeD, rIn, rAll, rAppend, rCat, ↓reduceIte, Bool.false_eq_true, iEnumT, rSortedPO, rIsi, rRep, rReverse, tLstRg, tTupRg, tRg1, tRg2, rSlL, rSlT, rSortedI, rSlF, rCatF, rMax, tLc2E, rSortedL, rSortedT, gUnl, tPar, rReprX, tChain, tDNewK, tDisp, tPairs, tAndV, tNotV, tFd, sFd, tMeth, tMake, tMakeK, gStar, iZipM, iItems, tLock, tSpread, tDcE, tDGet, sDPut, tPar3, tNever, rIxD, tChain, iEnum, tDIn, tDNotIn, gHd]
    rcases hv with ⟨z, rfl, _⟩ | ⟨i, rfl⟩ | ⟨b, rfl⟩ | ⟨t, ty, k1, k2, k3, n1, n2⟩
    · refine ⟨.type "str", .type "int", .ty "int", .base (.str z), false, kit_ty (by decide +kernel), ?_⟩
      rw [if_neg (by decide)]
      exact k
    · refine ⟨.type "int", .type "int", .ty "int", .base (.int i), true, kit_ty (by decide +kernel), ?_⟩
      rw [if_pos rfl]
      exact ⟨.type "int", .type "bool", .ty "bool", .base (.int i), false, kit_ty (by decide +kernel), k⟩
    · refine ⟨.type "bool", .type "int", .ty "int", .base (.bl b), true, kit_ty (by decide +kernel), ?_⟩
      rw [if_pos rfl]
      exact ⟨.type "bool", .type "bool", .ty "bool", .base (.bl b), true, kit_ty (by decide +kernel), k⟩
    · have e : wholeB v = false := by
        cases v <;> first | rfl | exact absurd rfl (n2 _)
      refine ⟨_, .type "int", .ty "int", ty, false, kit_ty k2, ?_⟩
      rw [if_neg (by decide), ← e]
      exact k
abbrev s_is_name : Stmt := topS 9
theorem sc_is_name : FnScope ["thing", "sign"] ["thing"] (defScope s_is_name) := ⟨rfl, rfl, rfl, by decide +kernel, rfl, by decide +kernel, by decide +kernel⟩

def spName (K : PySem.W.Frag) : Sp := fun vs H Q _ => ∃ v, vs = [v] ∧ Cl K H v ∧ ∀ H', Same H H' → Q (.bl (nameB v)) H'
theorem ok_is_name {f : Addr} {fd : FuncData} (F : Fun K "is_name" "is_name" s_is_name f fd) (M : Blt mg) (G : Gs mg) : FnOk P w K mg base CX0 1 f fd ["thing"] (spName K) := by
  refine F.ok sc_is_name (fun vs H Q E h => ?_) (fun cdv A outer s H vs Q E hr h => ?_)
  · obtain ⟨v, rfl, _⟩ := h
    rfl
  · obtain ⟨v, rfl, hv, k⟩ := h
    obtain ⟨tL, gL⟩ := G.letters
    obtain ⟨tM, gM⟩ := G.mostL
    refine ⟨_, (pss_cons (ps_if (PW.pt (pw_or (pt_not (pt_val (pe_callB (k_isi (K := K) rfl) (by rfl) M.isinstance (by decide +kernel) (pa_cons (pv 0) (pa_cons (pe_bltn (v := .ty "str") (by rfl) M.str (by decide +kernel) rfl) pa_nil))))) (pw_or1 (pt_not (pt_chain op_le op_le pe_int (pe_callB call_len_str (by rfl) M.len (by decide +kernel) (pa_cons (pv 0) pa_nil)) (pe_glob (v := .int 8) (by rfl) gM ⟨_, rfl⟩)))))) (pss_one (ps_ret pe_bl)) pss_nil)
      (pss_one (ps_ret (pe_callB (k_all (K := K) rfl rfl) (by rfl) M.all (by decide +kernel) (pa_cons (pe_lc (own := [("sign", 1)]) (g := gName 1) (tt := tYes) rfl sc_is_name.nd (pi_str (pv 0)) (blkOk_by (own := [("sign", 1)]) (N := ["thing", "sign"]) (sc := defScope s_is_name) (by decide +kernel)) (fun _ _ _ _ _ => (pg_name (i := 1) sc_is_name.nd rfl (by first | exact Or.inl rfl | exact Or.inr rfl))) (fun _ _ _ _ _ => pts_nil) (fun _ _ _ _ _ => (pe_cmpR op_in_sign (pv 1) (pe_glob (v := .str abc) (by rfl) gL ⟨_, rfl⟩) (by rfl)))) pa_nil))))), ?_⟩
    simp only [tSeq, tIfS, tTest, tOp, tUn, tVar, tC, rI, rI0, rU, rEq, rNe, rIxL, rIxT, rIxS, tCB, tCons, tNil, tRet, tRetN, tAsg, gTup, gCons, gNil, gName, gSub, rSetL, tNext, tDrop, tLst, tTup, tCall, tIf, tB, tAnd, tOr, tNot, tSl, tPart, tNoPart, tM1, tM0, tBM, tBM0, tLcE, tForE, iRng1, iRng2, iTup, iList, iStr, tYes, wipe, startDef, cxK, noxK, exists_and_left, exists_eq_left', exists_eq_left, exists_eq_right, Option.some.injEq, V.int.injEq, V.ref.injEq, V.str.injEq, V.bl.injEq, List.cons.injEq, and_true, true_and, List.append_nil, List.map_cons, List.map_nil, List.length_cons, List.length_nil, List.replicate, List.nil_append, List.cons_append, List.set_cons_zero, List.set_cons_succ, List.getElem?_cons_zero, List.getElem?_cons_succ, decide_eq_true_eq, exists_const, Nat.reduceAdd, Nat.reduceSub, List.replicate_succ, List.replicate_zero, exists_prop, and_assoc, List.set_nil, rLenK, rTupK, rLstK, rReprK, rEqD, rNeD, rIn, rAll, rAppend, rCat, ↓reduceIte, Bool.false_eq_true, iEnumT, rSortedPO, rIsi, rRep, rReverse, tLstRg, tTupRg, tRg1, tRg2, rSlL, rSlT, rSortedI, rSlF, rCatF, rMax, tLc2E, rSortedL, rSortedT, gUnl, tPar, rReprX, tChain, tDNewK, tDisp, tPairs, tAndV, tNotV, tFd, sFd, tMeth, tMake, tMakeK, gStar, iZipM, iItems, tLock, tSpread, tDcE, tDGet, sDPut, tPar3, tNever, rIxD, tChain, iEnum, tDIn, tDNotIn, gHd]
    rcases hv with ⟨z, rfl, lz, lc⟩ | ⟨i, rfl⟩ | ⟨b, rfl⟩ | ⟨t, ty, k1, k2, k3, n1, n2⟩
    · refine ⟨.type "str", .type "str", .ty "str", .base (.str z), true, kit_ty (by decide +kernel), ?_⟩
      rw [if_neg (by decide)]
      have line : (1000 : Nat) < sizeLine := by decide
      refine ⟨z, rfl, by omega, ?_⟩
      by_cases h1 : 1 ≤ z.length
      · rw [if_pos (by omega)]
        by_cases h2 : z.length ≤ 8
        · rw [if_neg (by simp; omega)]
          refine ⟨z, rfl, lcStr (K := K) none (fun i ds => ds = ((z.cps.toList.take i).map fun c => decide (c ∈ abc.cps.toList)).map PyData.bool) potN (by show z.length ≤ _; omega) rfl (fun _ => rfl) ?_ ?_⟩
          · rintro i c Ha ds C hi sa fl rfl go
            simp only [tSeq, tIfS, tTest, tOp, tUn, tVar, tC, rI, rI0, rU, rEq, rNe, rIxL, rIxT, rIxS, tCB, tCons, tNil, tRet, tRetN, tAsg, gTup, gCons, gNil, gName, gSub, rSetL, tNext, tDrop, tLst, tTup, tCall, tIf, tB, tAnd, tOr, tNot, tSl, tPart, tNoPart, tM1, tM0, tBM, tBM0, tLcE, tForE, iRng1, iRng2, iTup, iList, iStr, tYes, wipe, startDef, cxK, noxK, exists_and_left, exists_eq_left', exists_eq_left, exists_eq_right, Option.some.injEq, V.int.injEq, V.ref.injEq, V.str.injEq, V.bl.injEq, List.cons.injEq, and_true, true_and, List.append_nil, List.map_cons, List.map_nil, List.length_cons, List.length_nil, List.replicate, List.nil_append, List.cons_append, List.set_cons_zero, List.set_cons_succ, List.getElem?_cons_zero, List.getElem?_cons_succ, decide_eq_true_eq, exists_const, Nat.reduceAdd, Nat.reduceSub, List.replicate_succ, List.replicate_zero, exists_prop, and_assoc, List.set_nil, rLenK, rTupK, rLstK, rReprK, rEqD, rNeD, rIn, rAll, rAppend, rCat, ↓reduceIte, Bool.false_eq_true, iEnumT, rSortedPO, rIsi, rRep, rReverse, tLstRg, tTupRg, tRg1, tRg2, rSlL, rSlT, rSortedI, rSlF, rCatF, rMax, tLc2E, rSortedL, rSortedT, gUnl, tPar, rReprX, tChain, tDNewK, tDisp, tPairs, tAndV, tNotV, tFd, sFd, tMeth, tMake, tMakeK, gStar, iZipM, iItems, tLock, tSpread, tDcE, tDGet, sDPut, tPar3, tNever, rIxD, tChain, iEnum, tDIn, tDNotIn, gHd]
            refine ⟨c, rfl, ?_⟩
            refine go _ _ (.bool (decide (c ∈ abc.cps.toList))) (St.refl potN) (by simp [flatT]) (.bl _) ?_
            rw [take_succ_map _ _ (cps_get hi), List.map_append]
            rfl
          · rintro D acc ds H1 hD sD hl fl al rfl
            rw [List.take_of_length_le (by rw [cps_size]; exact Nat.le_refl _)] at al
            have ea := dps_bools_inv al
            subst ea
            refine ⟨D, rfl, _, SqL.of hl, ?_⟩
            have e : ((z.cps.toList.map fun c => decide (c ∈ abc.cps.toList)).all id) = nameB (.str z) := by
              rw [nameB_str]
              rw [decide_eq_true ⟨h1, h2⟩, Bool.true_and, List.all_map]
              rfl
            rw [e]
            exact k _ sD.toSame
        · rw [if_pos (by simp; omega)]
          have e : nameB (.str z) = false := by
            rw [nameB_str]
            rw [decide_eq_false (fun q => h2 q.2), Bool.false_and]
          rw [← e]
          exact k _ (Same.refl _)
      · rw [if_neg (by omega), if_pos (by decide)]
        have e : nameB (.str z) = false := by
          rw [nameB_str]
          rw [decide_eq_false (fun q => h1 q.1), Bool.false_and]
        rw [← e]
        exact k _ (Same.refl _)
    · refine ⟨.type "int", .type "str", .ty "str", .base (.int i), false, kit_ty (by decide +kernel), ?_⟩
      rw [if_pos (by decide)]
      exact k _ (Same.refl _)
    · refine ⟨.type "bool", .type "str", .ty "str", .base (.bl b), false, kit_ty (by decide +kernel), ?_⟩
      rw [if_pos (by decide)]
      exact k _ (Same.refl _)
    · have e : nameB v = false := by
        cases v <;> first | rfl | exact absurd rfl (n1 _)
      refine ⟨_, .type "str", .ty "str", ty, false, kit_ty k1, ?_⟩
      rw [if_pos (by decide), ← e]
      exact k _ (Same.refl _)
structure CWhole (P : Program) (w : World) (K : PySem.W.Frag) (mg : Str → Option Value) (base : Heap) : Prop where
  is_whole : Has P w K mg base "is_whole" 1 ["thing"] (spWhole K)
abbrev s_is_amount : Stmt := topS 10
theorem sc_is_amount : FnScope ["thing"] ["thing"] (defScope s_is_amount) := ⟨rfl, rfl, rfl, by decide +kernel, rfl, by decide +kernel, by decide +kernel⟩

def spAmt (K : PySem.W.Frag) : Sp := fun vs H Q _ => ∃ v, vs = [v] ∧ Cl K H v ∧ Q (.bl (amtB v)) H
theorem ok_is_amount {f : Addr} {fd : FuncData} (F : Fun K "is_amount" "is_amount" s_is_amount f fd) (M : Blt mg) (C : CWhole P w K mg base) : FnOk P w K mg base CX0 2 f fd ["thing"] (spAmt K) := by
  refine F.ok sc_is_amount (fun vs H Q E h => ?_) (fun cdv A outer s H vs Q E hr h => ?_)
  · obtain ⟨v, rfl, _⟩ := h
    rfl
  · obtain ⟨v, rfl, hv, k⟩ := h
    refine ⟨_, (pss_one (ps_ret (pe_and (callH C.is_whole hr (by rfl) (pa_cons (pv 0) pa_nil)) (pe_one (pe_cmpR op_ge (pv 0) pe_int (nomark _)))))), ?_⟩
    simp only [tSeq, tIfS, tTest, tOp, tUn, tVar, tC, rI, rI0, rU, rEq, rNe, rIxL, rIxT, rIxS, tCB, tCons, tNil, tRet, tRetN, tAsg, gTup, gCons, gNil, gName, gSub, rSetL, tNext, tDrop, tLst, tTup, tCall, tIf, tB, tAnd, tOr, tNot, tSl, tPart, tNoPart, tM1, tM0, tBM, tBM0, tLcE, tForE, iRng1, iRng2, iTup, iList, iStr, tYes, wipe, startDef, cxK, noxK, exists_and_left, exists_eq_left', exists_eq_left, exists_eq_right, Option.some.injEq, V.int.injEq, V.ref.injEq, V.str.injEq, V.bl.injEq, List.cons.injEq, and_true, true_and, List.append_nil, List.map_cons, List.map_nil, List.length_cons, List.length_nil, List.replicate, List.nil_append, List.cons_append, List.set_cons_zero, List.set_cons_succ, List.getElem?_cons_zero, List.getElem?_cons_succ, decide_eq_true_eq, exists_const, Nat.reduceAdd, Nat.reduceSub, List.replicate_succ, List.replicate_zero, exists_prop, and_assoc, List.set_nil, rLenK, rTupK, rLstK, rReprK, rEqD, rNeD, rIn, rAll, rAppend, rCat, ↓reduceIte, Bool.false_eq_true, iEnumT, rSortedPO, rIsi, rRep, rReverse, tLstRg, tTupRg, tRg1, tRg2, rSlL, rSlT, rSortedI, rSlF, rCatF, rMax, tLc2E, rSortedL, rSortedT, gUnl, tPar, rReprX, tChain, tDNewK, tDisp, tPairs, tAndV, tNotV, tFd, sFd, tMeth, tMake, tMakeK, gStar, iZipM, iItems, tLock, tSpread, tDcE, tDGet, sDPut, tPar3, tNever, rIxD, tChain, iEnum, tDIn, tDNotIn, gHd, spWhole]
    refine ⟨hv, ?_⟩
    rcases hv with ⟨z, rfl, _⟩ | ⟨i, rfl⟩ | ⟨b, rfl⟩ | ⟨t, ty, k1, k2, k3, n1, n2⟩
    · rw [if_neg (by simp [wholeB])]
      exact k
    · rw [if_pos (by rfl)]
      exact ⟨i, rfl, k⟩
    · rw [if_neg (by simp [wholeB])]
      exact k
    · have e : wholeB v = false := by
        cases v <;> first | rfl | exact absurd rfl (n2 _)
      have e2 : amtB v = false := by
        cases v <;> first | rfl | exact absurd rfl (n2 _)
      rw [e, if_neg (by decide), ← e2]
      exact k
end

/-! ### palettes -/
structure TPal (K : PySem.W.Frag) (mg : Str → Option Value) (cP : Addr) : Prop where
  cl : Cls K cP
  n_made : NoAttr K cP "_made"
  n_fades : NoAttr K cP "_fades"
  ins : C8.InsC K cP
theorem tyT {K : PySem.W.Frag} {H : Hp} {a : Addr} {xs : List V} (h : SqT K H a xs) : TyX K H (.ref a) (.type "tuple") := by
  rcases h with (h | ⟨ob, h⟩) | ⟨o, its, n, h, c, _⟩
  · exact .base (.tup h)
  · exact .fTuple h
  · exact .kTuple h c
theorem abc_mem {c : Nat} (h : 97 ≤ c ∧ c ≤ 122) : c ∈ abc.cps.toList := by
  rw [abc_cps]
  exact List.mem_map.mpr ⟨c - 97, List.mem_range.mpr (by omega), by omega⟩
theorem nameB_tag {z : Str} (h : NmOk z) : nameB (.str z) = true := by
  rw [nameB_str, decide_eq_true ⟨h.2, h.1.1⟩, Bool.true_and, List.all_eq_true]
  exact fun c m => decide_eq_true (abc_mem (h.1.2 c m))
theorem cl_nm {K : PySem.W.Frag} {H : Hp} {z : Str} (h : NmOk z) : Cl K H (.str z) := .inl ⟨z, rfl, by have := h.1.1; omega, fun c m => by have := h.1.2 c m; omega⟩
section
variable {P : Program} {w : World} {K : PySem.W.Frag} {mg : Str → Option Value} {base : Heap} {cP : Addr}
structure CNm (P : Program) (w : World) (K : PySem.W.Frag) (mg : Str → Option Value) (base : Heap) : Prop extends CWhole P w K mg base where
  is_name : Has P w K mg base "is_name" 1 ["thing"] (spName K)
abbrev s_is_ink : Stmt := topS 11
theorem sc_is_ink : FnScope ["thing", "name", "fade"] ["thing"] (defScope s_is_ink) := ⟨rfl, rfl, rfl, by decide +kernel, rfl, by decide +kernel, by decide +kernel⟩

def spIsInk (K : PySem.W.Frag) : Sp := fun vs H Q _ => ∃ (v : V) (l : Lay), vs = [v] ∧ Dp K H v (layD l) ∧ NmOk l.1 ∧ 0 ≤ l.2 ∧ ∀ H', Same H H' → Q (.bl true) H'
theorem ok_is_ink {f : Addr} {fd : FuncData} (F : Fun K "is_ink" "is_ink" s_is_ink f fd) (M : Blt mg) (C : CNm P w K mg base) : FnOk P w K mg base CX0 2 f fd ["thing"] (spIsInk K) := by
  refine F.ok sc_is_ink (fun vs H Q E h => ?_) (fun cdv A outer s H vs Q E hr h => ?_)
  · obtain ⟨v, l, rfl, _⟩ := h
    rfl
  · obtain ⟨v, l, rfl, hv, ht, h0, k⟩ := h
    obtain ⟨a, rfl, hs⟩ := lay_inv hv
    refine ⟨_, (pss_cons (ps_if (PW.pt (pw_or (pt_not (pt_val (pe_callB (k_isi (K := K) rfl) (by rfl) M.isinstance (by decide +kernel) (pa_cons (pv 0) (pa_cons (pe_bltn (v := .ty "tuple") (by rfl) M.tuple (by decide +kernel) rfl) pa_nil))))) (pw_or1 (pt_cmpR op_ne (pe_callB (k_len (K := K) rfl) (by rfl) M.len (by decide +kernel) (pa_cons (pv 0) pa_nil)) pe_int (nomark _))))) (pss_one (ps_ret pe_bl)) pss_nil)
      (pss_cons (ps_asg (pv 0) (pg_tup (n := 2) (by rfl) (pgs_cons (pg_name (i := 1) sc_is_ink.nd rfl (by first | exact Or.inl rfl | exact Or.inr rfl)) (pgs_cons (pg_name (i := 2) sc_is_ink.nd rfl (by first | exact Or.inl rfl | exact Or.inr rfl)) pgs_nil))))
      (pss_one (ps_ret (pe_and (callH C.is_name hr (by rfl) (pa_cons (pv 1) pa_nil)) (pe_and (callH C.is_whole hr (by rfl) (pa_cons (pv 2) pa_nil)) (pe_one (pe_cmpR op_ge (pv 2) pe_int (nomark _))))))))), ?_⟩
    simp only [tSeq, tIfS, tTest, tOp, tUn, tVar, tC, rI, rI0, rU, rEq, rNe, rIxL, rIxT, rIxS, tCB, tCons, tNil, tRet, tRetN, tAsg, gTup, gCons, gNil, gName, gSub, rSetL, tNext, tDrop, tLst, tTup, tCall, tIf, tB, tAnd, tOr, tNot, tSl, tPart, tNoPart, tM1, tM0, tBM, tBM0, tLcE, tForE, iRng1, iRng2, iTup, iList, iStr, tYes, wipe, startDef, cxK, noxK, exists_and_left, exists_eq_left', exists_eq_left, exists_eq_right, Option.some.injEq, V.int.injEq, V.ref.injEq, V.str.injEq, V.bl.injEq, List.cons.injEq, and_true, true_and, List.append_nil, List.map_cons, List.map_nil, List.length_cons, List.length_nil, List.replicate, List.nil_append, List.cons_append, List.set_cons_zero, List.set_cons_succ, List.getElem?_cons_zero, List.getElem?_cons_succ, decide_eq_true_eq, exists_const, Nat.reduceAdd, Nat.reduceSub, List.replicate_succ, List.replicate_zero, exists_prop, and_assoc, List.set_nil, rLenK, rTupK, rLstK, rReprK, rEqD, rNeD, rIn, rAll, rAppend, rCat, ↓reduceIte, Bool.false_eq_true, iEnumT, rSortedPO, rIsi, rRep, rReverse, tLstRg, tTupRg, tRg1, tRg2, rSlL, rSlT, rSortedI, rSlF, rCatF, rMax, tLc2E, rSortedL, rSortedT, gUnl, tPar, rReprX, tChain, tDNewK, tDisp, tPairs, tAndV, tNotV, tFd, sFd, tMeth, tMake, tMakeK, gStar, iZipM, iItems, tLock, tSpread, tDcE, tDGet, sDPut, tPar3, tNever, rIxD, tChain, iEnum, tDIn, tDNotIn, gHd, spWhole, spName]
    refine ⟨.type "tuple", .type "tuple", .ty "tuple", tyT hs, true, kit_ty (by decide +kernel), ?_⟩
    rw [if_neg (by decide)]
    refine ⟨_, .inr hs, rfl, ?_⟩
    rw [if_neg (by simp)]
    refine ⟨_, hs, rfl, _, _, rfl, _, _, rfl, rfl, cl_nm ht, fun H1 s1 => ?_⟩
    rw [if_pos (nameB_tag ht)]
    refine ⟨.inr (.inl ⟨_, rfl⟩), ?_⟩
    rw [if_pos (by rfl)]
    refine ⟨_, rfl, ?_⟩
    rw [decide_eq_true h0]
    exact k _ s1
structure CInk (P : Program) (w : World) (K : PySem.W.Frag) (mg : Str → Option Value) (base : Heap) : Prop where
  is_ink : Has P w K mg base "is_ink" 2 ["thing"] (spIsInk K)
abbrev s_Palette_init : Stmt := inClass (topS 12) 0
theorem sc_Palette_init : FnScope ["self", "inks", "at", "ink", "name", "fade"] ["self", "inks"] (defScope s_Palette_init) := ⟨rfl, rfl, rfl, by decide +kernel, rfl, by decide +kernel, by decide +kernel⟩

def spPalI (K : PySem.W.Frag) (cP : Addr) : Sp := fun vs H Q _ => ∃ (p dx l : Addr) (us : List V) (inks : List Lay), vs = [.ref p, .ref l] ∧ H p = some (.ins cP dx []) ∧ H l = some (.lst us) ∧ DpAll K H us (inks.map layD) ∧ InksOk inks ∧
  ∀ m f H', H m = none → H f = none → PalAt K cP H' p m f inks → (∀ a o, a ≠ p → H a = some o → H' a = some o) → Q .non H'
theorem ok_Palette_init {f : Addr} {fd : FuncData} (F : Fun K "__init__" "Palette.__init__" s_Palette_init f fd) (M : Blt mg) (G : Gs mg) (TPalette : TPal K mg cP) (C : CInk P w K mg base) : FnOk P w K mg base CX0 3 f fd ["self", "inks"] (spPalI K cP) := by
  refine F.ok sc_Palette_init (fun vs H Q E h => ?_) (fun cdv A outer s H vs Q E hr h => ?_)
  · obtain ⟨p, dx, l, us, inks, rfl, _⟩ := h
    rfl
  · obtain ⟨p, dx, l, us, inks, rfl, hp, hl, al, ok, k⟩ := h
    have hu := hu_of hr
    obtain ⟨tI, gI⟩ := G.inks
    refine ⟨_, (pss_cons (ps_if (PW.pt (pw_or (pt_not (pt_val (pe_callB (k_isi (K := K) rfl) (by rfl) M.isinstance (by decide +kernel) (pa_cons (pv 1) (pa_cons (pe_bltn (v := .ty "list") (by rfl) M.list (by decide +kernel) rfl) pa_nil))))) (pw_or1 (pt_not (pt_chain op_le op_le pe_int (pe_callB (k_len (K := K) rfl) (by rfl) M.len (by decide +kernel) (pa_cons (pv 1) pa_nil)) (pe_glob (v := .int 8) (by rfl) gI ⟨_, rfl⟩)))))) (pss_one ps_never) pss_nil)
      (pss_cons (stoC rfl TPalette.cl TPalette.n_made (pv 0) (pe_lst pa_nil))
      (pss_cons (stoC rfl TPalette.cl TPalette.n_fades (pv 0) pe_dnewK)
      (pss_one (ps_for PassesOwn.never rfl (pi_enum (by rfl) M.enumerate (pa_cons (pv 1) pa_nil)) (pg_tup (n := 2) (by rfl) (pgs_cons (pg_name (i := 2) sc_Palette_init.nd rfl (by first | exact Or.inl rfl | exact Or.inr rfl)) (pgs_cons (pg_name (i := 3) sc_Palette_init.nd rfl (by first | exact Or.inl rfl | exact Or.inr rfl)) pgs_nil))) (pss_cons (ps_if (PW.pt (pw_or (pt_not (pt_val (callH C.is_ink hr (by rfl) (pa_cons (pv 3) pa_nil)))) (pw_or1 (pt_cmp (pc_din hu (pe_ix (k_ixT (K := K) rfl) (pv 3) pe_int (fun _ _ => rfl)) (fldC rfl TPalette.cl TPalette.n_fades (pv 0))))))) (pss_one ps_never) pss_nil)
      (pss_cons (ps_asg (pv 3) (pg_tup (n := 2) (by rfl) (pgs_cons (pg_name (i := 4) sc_Palette_init.nd rfl (by first | exact Or.inl rfl | exact Or.inr rfl)) (pgs_cons (pg_name (i := 5) sc_Palette_init.nd rfl (by first | exact Or.inl rfl | exact Or.inr rfl)) pgs_nil))))
      (pss_cons (ps_expr (pe_bm PySem.F.plainAttrs_list PySem.F.slot_list_append PySem.F.type_list_append mt_append (fldC rfl TPalette.cl TPalette.n_made (pv 0)) (pa_cons (pe_tup (pa_cons (pv 4) (pa_cons (pv 5) pa_nil))) pa_nil)))
      (pss_one (ps_dput hu (fldC rfl TPalette.cl TPalette.n_fades (pv 0)) (pv 4) (pv 5) (by rfl))))))))))), ?_⟩
    simp only [tSeq, tIfS, tTest, tOp, tUn, tVar, tC, rI, rI0, rU, rEq, rNe, rIxL, rIxT, rIxS, tCB, tCons, tNil, tRet, tRetN, tAsg, gTup, gCons, gNil, gName, gSub, rSetL, tNext, tDrop, tLst, tTup, tCall, tIf, tB, tAnd, tOr, tNot, tSl, tPart, tNoPart, tM1, tM0, tBM, tBM0, tLcE, tForE, iRng1, iRng2, iTup, iList, iStr, tYes, wipe, startDef, cxK, noxK, exists_and_left, exists_eq_left', exists_eq_left, exists_eq_right, Option.some.injEq, V.int.injEq, V.ref.injEq, V.str.injEq, V.bl.injEq, List.cons.injEq, and_true, true_and, List.append_nil, List.map_cons, List.map_nil, List.length_cons, List.length_nil, List.replicate, List.nil_append, List.cons_append, List.set_cons_zero, List.set_cons_succ, List.getElem?_cons_zero, List.getElem?_cons_succ, decide_eq_true_eq, exists_const, Nat.reduceAdd, Nat.reduceSub, List.replicate_succ, List.replicate_zero, exists_prop, and_assoc, List.set_nil, rLenK, rTupK, rLstK, rReprK, rEqD, rNeD, rIn, rAll, rAppend, rCat, ↓reduceIte, Bool.false_eq_true, iEnumT, rSortedPO, rIsi, rRep, rReverse, tLstRg, tTupRg, tRg1, tRg2, rSlL, rSlT, rSortedI, rSlF, rCatF, rMax, tLc2E, rSortedL, rSortedT, gUnl, tPar, rReprX, tChain, tDNewK, tDisp, tPairs, tAndV, tNotV, tFd, sFd, tMeth, tMake, tMakeK, gStar, iZipM, iItems, tLock, tSpread, tDcE, tDGet, sDPut, tPar3, tNever, rIxD, tChain, iEnum, tDIn, tDNotIn, gHd, spIsInk]
    have len := lays_len al
    have l1 := ok.pos
    have l8 := ok.most
    refine ⟨.type "list", .type "list", .ty "list", .base (.lst hl), true, kit_ty (by decide +kernel), ?_⟩
    rw [if_neg (by decide)]
    refine ⟨us, .inl (SqL.of hl), ?_⟩
    rw [if_pos (by omega), if_neg (by simp; omega)]
    refine ⟨by decide, fun m hm => ?_⟩
    have npm : p ≠ m := ne_of_none hp hm
    refine ⟨dx, [], by rw [upd_ne npm]; exact hp, by decide, fun fd hfd => ?_⟩
    have npf : p ≠ fd := by
      rintro rfl
      rw [upd_same] at hfd
      cases hfd
    have nfm : fd ≠ m := by
      rintro rfl
      rw [upd_ne (Ne.symm npm), upd_same] at hfd
      cases hfd
    have hf0 : H fd = none := by
      rw [upd_ne (Ne.symm npf), upd_ne nfm] at hfd
      exact hfd
    refine ⟨dx, _, by rw [upd_ne npf]; exact upd_same, by show 1 < 1000; decide, ?_⟩
    generalize eH0 : upd _ p (HO.ins cP dx (putF "_fades" (V.ref fd) _)) = H0
    have g1 : H0 p = some (.ins cP dx (palF m fd)) := by rw [← eH0]; exact upd_same
    have g2 : H0 m = some (.lst []) := by rw [← eH0, upd_ne (Ne.symm npm), upd_ne (Ne.symm nfm), upd_ne (Ne.symm npm)]; exact upd_same
    have g3 : H0 fd = some (.dK []) := by rw [← eH0, upd_ne (Ne.symm npf)]; exact upd_same
    have g4 : ∀ a o, a ≠ p → H a = some o → H0 a = some o := fun a o n e => by
      rw [← eH0, upd_ne n, upd_ne (ne_of_none e hf0), upd_ne n, upd_ne (ne_of_none e hm)]
      exact e
    clear eH0
    have nlp : l ≠ p := ne_of hl hp (by intro z; cases z)
    have dpH : ∀ {H' : Hp}, (∀ a o, a ≠ p → H a = some o → H' a = some o) → ∀ a xs, SqT K H a xs → SqT K H' a xs := fun {H'} s a xs h => by
      rcases h with (h | ⟨ob, h⟩) | h
      · exact Or.inl (Or.inl (s _ _ (ne_of h hp (by intro z; cases z)) h))
      · exact Or.inl (Or.inr ⟨ob, s _ _ (ne_of h hp (by intro z; cases z)) h⟩)
      · exact Or.inr h
    refine ⟨us, SqL.of (g4 _ _ nlp hl), ?_⟩
    refine for_it walk_enum (fun i σ H' => ∃ a2 a3 a4 a5, σ = [some (.ref p), some (.ref l), a2, a3, a4, a5] ∧ H' p = some (.ins cP dx (palF m fd)) ∧ (∃ vs, H' m = some (.lst vs) ∧ DpAll K H' vs ((inks.take i).map layD)) ∧
      H' fd = some (.dK (fadesK (inks.take i))) ∧ ∀ a o, a ≠ p → H a = some o → H' a = some o) ⟨none, none, none, none, rfl, g1, ⟨[], g2, .nil⟩, g3, g4⟩ (fun i σ H' _ ⟨_, _, _, _, _, _, _, _, s⟩ => SqL.of (s _ _ nlp hl)) ?_ ?_
    · rintro i x σ Ha H' hi ⟨a2, a3, a4, a5, rfl, q1, ⟨vs, q2, q3⟩, q4, q5⟩ ⟨T, x1, x2, rfl, nT, rfl, e1, e2⟩
      obtain rfl : V.int (i : Nat) = x1 := Option.some.inj e1
      obtain ⟨lay, b, e3, rfl, sq, hd⟩ := lays_get al e2
      have sT : Same Ha (upd Ha T (.tup [.int (i : Nat), .ref b])) := same_new nT
      simp only [tSeq, tIfS, tTest, tOp, tUn, tVar, tC, rI, rI0, rU, rEq, rNe, rIxL, rIxT, rIxS, tCB, tCons, tNil, tRet, tRetN, tAsg, gTup, gCons, gNil, gName, gSub, rSetL, tNext, tDrop, tLst, tTup, tCall, tIf, tB, tAnd, tOr, tNot, tSl, tPart, tNoPart, tM1, tM0, tBM, tBM0, tLcE, tForE, iRng1, iRng2, iTup, iList, iStr, tYes, wipe, startDef, cxK, noxK, exists_and_left, exists_eq_left', exists_eq_left, exists_eq_right, Option.some.injEq, V.int.injEq, V.ref.injEq, V.str.injEq, V.bl.injEq, List.cons.injEq, and_true, true_and, List.append_nil, List.map_cons, List.map_nil, List.length_cons, List.length_nil, List.replicate, List.nil_append, List.cons_append, List.set_cons_zero, List.set_cons_succ, List.getElem?_cons_zero, List.getElem?_cons_succ, decide_eq_true_eq, exists_const, Nat.reduceAdd, Nat.reduceSub, List.replicate_succ, List.replicate_zero, exists_prop, and_assoc, List.set_nil, rLenK, rTupK, rLstK, rReprK, rEqD, rNeD, rIn, rAll, rAppend, rCat, ↓reduceIte, Bool.false_eq_true, iEnumT, rSortedPO, rIsi, rRep, rReverse, tLstRg, tTupRg, tRg1, tRg2, rSlL, rSlT, rSortedI, rSlF, rCatF, rMax, tLc2E, rSortedL, rSortedT, gUnl, tPar, rReprX, tChain, tDNewK, tDisp, tPairs, tAndV, tNotV, tFd, sFd, tMeth, tMake, tMakeK, gStar, iZipM, iItems, tLock, tSpread, tDcE, tDGet, sDPut, tPar3, tNever, rIxD, tChain, iEnum, tDIn, tDNotIn, gHd, spIsInk]
      have il : i < inks.length := by omega
      obtain ⟨okn, ok0, _⟩ := ok.ok lay (List.mem_of_getElem? e3)
      have q5T : ∀ a o, a ≠ p → H a = some o → (upd Ha T (.tup [.int (i : Nat), .ref b])) a = some o := fun a o n e => sT a o (q5 a o n e)
      refine ⟨_, SqT.of upd_same, rfl, _, _, rfl, _, _, rfl, rfl, lay, Dp.move (dpH q5T) (flat_lay lay) hd, okn, ok0, fun H1 s1 => ?_⟩
      rw [if_neg (by decide)]
      have s01 := smT sT s1
      have p1 := s01 _ _ q1
      have p4 := s01 _ _ q4
      have sq1 : SqT K H1 b [.str lay.1, .int lay.2] := dpH (fun a o n e => s1 a o (q5T a o n e)) _ _ sq
      have notin : valV (fadesK (inks.take i)) (Sum.inr lay.1 : L2.Key) = none := valV_txt (fun j : Lay => j.1) (fun j : Lay => V.int j.2) (not_take (fun j : Lay => j.1) ok.nd e3)
      simp only [tSeq, tIfS, tTest, tOp, tUn, tVar, tC, rI, rI0, rU, rEq, rNe, rIxL, rIxT, rIxS, tCB, tCons, tNil, tRet, tRetN, tAsg, gTup, gCons, gNil, gName, gSub, rSetL, tNext, tDrop, tLst, tTup, tCall, tIf, tB, tAnd, tOr, tNot, tSl, tPart, tNoPart, tM1, tM0, tBM, tBM0, tLcE, tForE, iRng1, iRng2, iTup, iList, iStr, tYes, wipe, startDef, cxK, noxK, exists_and_left, exists_eq_left', exists_eq_left, exists_eq_right, Option.some.injEq, V.int.injEq, V.ref.injEq, V.str.injEq, V.bl.injEq, List.cons.injEq, and_true, true_and, List.append_nil, List.map_cons, List.map_nil, List.length_cons, List.length_nil, List.replicate, List.nil_append, List.cons_append, List.set_cons_zero, List.set_cons_succ, List.getElem?_cons_zero, List.getElem?_cons_succ, decide_eq_true_eq, exists_const, Nat.reduceAdd, Nat.reduceSub, List.replicate_succ, List.replicate_zero, exists_prop, and_assoc, List.set_nil, rLenK, rTupK, rLstK, rReprK, rEqD, rNeD, rIn, rAll, rAppend, rCat, ↓reduceIte, Bool.false_eq_true, iEnumT, rSortedPO, rIsi, rRep, rReverse, tLstRg, tTupRg, tRg1, tRg2, rSlL, rSlT, rSortedI, rSlF, rCatF, rMax, tLc2E, rSortedL, rSortedT, gUnl, tPar, rReprX, tChain, tDNewK, tDisp, tPairs, tAndV, tNotV, tFd, sFd, tMeth, tMake, tMakeK, gStar, iZipM, iItems, tLock, tSpread, tDcE, tDGet, sDPut, tPar3, tNever, rIxD, tChain, iEnum, tDIn, tDNotIn, gHd]
      have pm := s01 _ _ q2
      refine ⟨_, sq1, _, rfl, dx, _, p1, _, rfl, fd, rfl, _, by have := DGet.k (k := (Sum.inr lay.1 : L2.Key)) p4; rw [notin] at this; exact this, ?_⟩
      rw [if_neg (by decide)]
      refine ⟨_, sq1, rfl, _, _, rfl, _, _, rfl, rfl, dx, _, p1, _, rfl, .inl ⟨rfl, _, SqL.of pm⟩, by decide, fun t ht => ?_⟩
      have nmt : m ≠ t := ne_of_none pm ht
      have npt : p ≠ t := ne_of_none p1 ht
      have nft : fd ≠ t := ne_of_none p4 ht
      have lv : vs.length = i := by
        rw [lays_len q3, List.length_take]
        omega
      have lf : (fadesK (inks.take i)).length = i := by
        unfold fadesK
        rw [List.length_map, List.length_take]
        omega
      have line : (1000 : Nat) < sizeLine := by decide
      refine ⟨m, rfl, vs, by rw [upd_ne nmt]; exact pm, by omega, dx, _, by rw [upd_ne npm, upd_ne npt]; exact p1, _, rfl, fd, rfl, _, DPut.k (k := (Sum.inr lay.1 : L2.Key)) (kvs := fadesK (inks.take i)) (by rw [upd_ne nfm, upd_ne nft]; exact p4) (by omega), ?_⟩
      rw [putK_new _ notin]
      generalize eH : upd (upd (upd H1 t _) m _) fd _ = H2
      have c1 : H2 p = some (.ins cP dx (palF m fd)) := by rw [← eH, upd_ne npf, upd_ne npm, upd_ne npt]; exact p1
      have c2 : H2 m = some (.lst (vs ++ [.ref t])) := by rw [← eH, upd_ne (Ne.symm nfm)]; exact upd_same
      have c3 : H2 fd = some (.dK (fadesK (inks.take i) ++ [(Sum.inr lay.1, .int lay.2)])) := by rw [← eH]; exact upd_same
      have c4 : ∀ a o, a ≠ m → a ≠ fd → H1 a = some o → H2 a = some o := fun a o n1 n2 e => by
        rw [← eH, upd_ne n2, upd_ne n1, upd_ne (ne_of_none e ht)]
        exact e
      have c5 : H2 t = some (.tup [.str lay.1, .int lay.2]) := by rw [← eH, upd_ne (Ne.symm nft), upd_ne (Ne.symm nmt)]; exact upd_same
      have cT : ∀ a xs, SqT K H1 a xs → SqT K H2 a xs := fun a xs h => by
        rcases h with (h | ⟨ob, h⟩) | h
        · exact Or.inl (Or.inl (c4 _ _ (ne_of h pm (by intro z; cases z)) (ne_of h p4 (by intro z; cases z)) h))
        · exact Or.inl (Or.inr ⟨ob, c4 _ _ (ne_of h pm (by intro z; cases z)) (ne_of h p4 (by intro z; cases z)) h⟩)
        · exact Or.inr h
      refine ⟨c1, ⟨_, c2, ?_⟩, ?_, fun a o n e => c4 a o (ne_of_none e hm) (ne_of_none e hf0) (s1 a o (q5T a o n e))⟩
      · rw [take_succ_map _ _ e3]
        exact DpAll.app (DpAll.move cT (flat_lays _) (smDps s01 (flat_lays _) q3)) (.cons (lay_mk (SqT.of c5)) .nil)
      · rw [c3]
        unfold fadesK
        rw [take_succ_map _ _ e3]
    · rintro σ H' ⟨a2, a3, a4, a5, rfl, q1, ⟨vs, q2, q3⟩, q4, q5⟩
      simp only [tSeq, tIfS, tTest, tOp, tUn, tVar, tC, rI, rI0, rU, rEq, rNe, rIxL, rIxT, rIxS, tCB, tCons, tNil, tRet, tRetN, tAsg, gTup, gCons, gNil, gName, gSub, rSetL, tNext, tDrop, tLst, tTup, tCall, tIf, tB, tAnd, tOr, tNot, tSl, tPart, tNoPart, tM1, tM0, tBM, tBM0, tLcE, tForE, iRng1, iRng2, iTup, iList, iStr, tYes, wipe, startDef, cxK, noxK, exists_and_left, exists_eq_left', exists_eq_left, exists_eq_right, Option.some.injEq, V.int.injEq, V.ref.injEq, V.str.injEq, V.bl.injEq, List.cons.injEq, and_true, true_and, List.append_nil, List.map_cons, List.map_nil, List.length_cons, List.length_nil, List.replicate, List.nil_append, List.cons_append, List.set_cons_zero, List.set_cons_succ, List.getElem?_cons_zero, List.getElem?_cons_succ, decide_eq_true_eq, exists_const, Nat.reduceAdd, Nat.reduceSub, List.replicate_succ, List.replicate_zero, exists_prop, and_assoc, List.set_nil, rLenK, rTupK, rLstK, rReprK, rEqD, rNeD, rIn, rAll, rAppend, rCat, ↓reduceIte, Bool.false_eq_true, iEnumT, rSortedPO, rIsi, rRep, rReverse, tLstRg, tTupRg, tRg1, tRg2, rSlL, rSlT, rSortedI, rSlF, rCatF, rMax, tLc2E, rSortedL, rSortedT, gUnl, tPar, rReprX, tChain, tDNewK, tDisp, tPairs, tAndV, tNotV, tFd, sFd, tMeth, tMake, tMakeK, gStar, iZipM, iItems, tLock, tSpread, tDcE, tDGet, sDPut, tPar3, tNever, rIxD, tChain, iEnum, tDIn, tDNotIn, gHd]
      have e : inks.take us.length = inks := List.take_of_length_le (by omega)
      rw [e] at q3 q4
      exact k m fd H' hm hf0 ⟨⟨dx, q1⟩, ⟨vs, q2, q3⟩, q4⟩ q5
abbrev s_Palette_names : Stmt := inClass (topS 12) 2
theorem sc_Palette_names : FnScope ["self", "ink"] ["self"] (defScope s_Palette_names) := ⟨rfl, rfl, rfl, by decide +kernel, rfl, by decide +kernel, by decide +kernel⟩

def spNamesP (K : PySem.W.Frag) (cP : Addr) : Sp := fun vs H Q _ => ∃ (p m f : Addr) (inks : List Lay), vs = [.ref p] ∧ PalAt K cP H p m f inks ∧ inks.length ≤ 8 ∧
  ∀ q H', H q = none → Same H H' → H' q = some (.lst ((inks.map (·.1)).map V.str)) → Q (.ref q) H'
theorem ok_Palette_names {f : Addr} {fd : FuncData} (F : Fun K "names" "Palette.names" s_Palette_names f fd) (M : Blt mg) (TPalette : TPal K mg cP) : FnOk P w K mg base CX0 1 f fd ["self"] (spNamesP K cP) := by
  refine F.ok sc_Palette_names (fun vs H Q E h => ?_) (fun cdv A outer s H vs Q E hr h => ?_)
  · obtain ⟨p, m, f, inks, rfl, _⟩ := h
    rfl
  · obtain ⟨p, m, f, inks, rfl, ⟨⟨dx, hp⟩, ⟨us, hm, al⟩, hf⟩, l8, k⟩ := h
    refine ⟨_, (pss_one (ps_ret (pe_lc (own := [("ink", 1)]) (g := gName 1) (tt := tYes) rfl sc_Palette_names.nd (pi_list (fldC rfl TPalette.cl TPalette.n_made (pv 0))) (blkOk_by (own := [("ink", 1)]) (N := ["self", "ink"]) (sc := defScope s_Palette_names) (by decide +kernel)) (fun _ _ _ _ _ => (pg_name (i := 1) sc_Palette_names.nd rfl (by first | exact Or.inl rfl | exact Or.inr rfl))) (fun _ _ _ _ _ => pts_nil) (fun _ _ _ _ _ => (pe_ix (k_ixT (K := K) rfl) (pv 1) pe_int (fun _ _ => rfl)))))), ?_⟩
    simp only [tSeq, tIfS, tTest, tOp, tUn, tVar, tC, rI, rI0, rU, rEq, rNe, rIxL, rIxT, rIxS, tCB, tCons, tNil, tRet, tRetN, tAsg, gTup, gCons, gNil, gName, gSub, rSetL, tNext, tDrop, tLst, tTup, tCall, tIf, tB, tAnd, tOr, tNot, tSl, tPart, tNoPart, tM1, tM0, tBM, tBM0, tLcE, tForE, iRng1, iRng2, iTup, iList, iStr, tYes, wipe, startDef, cxK, noxK, exists_and_left, exists_eq_left', exists_eq_left, exists_eq_right, Option.some.injEq, V.int.injEq, V.ref.injEq, V.str.injEq, V.bl.injEq, List.cons.injEq, and_true, true_and, List.append_nil, List.map_cons, List.map_nil, List.length_cons, List.length_nil, List.replicate, List.nil_append, List.cons_append, List.set_cons_zero, List.set_cons_succ, List.getElem?_cons_zero, List.getElem?_cons_succ, decide_eq_true_eq, exists_const, Nat.reduceAdd, Nat.reduceSub, List.replicate_succ, List.replicate_zero, exists_prop, and_assoc, List.set_nil, rLenK, rTupK, rLstK, rReprK, rEqD, rNeD, rIn, rAll, rAppend, rCat, ↓reduceIte, Bool.false_eq_true, iEnumT, rSortedPO, rIsi, rRep, rReverse, tLstRg, tTupRg, tRg1, tRg2, rSlL, rSlT, rSortedI, rSlF, rCatF, rMax, tLc2E, rSortedL, rSortedT, gUnl, tPar, rReprX, tChain, tDNewK, tDisp, tPairs, tAndV, tNotV, tFd, sFd, tMeth, tMake, tMakeK, gStar, iZipM, iItems, tLock, tSpread, tDcE, tDGet, sDPut, tPar3, tNever, rIxD, tChain, iEnum, tDIn, tDNotIn, gHd]
    have len := lays_len al
    refine ⟨dx, _, hp, _, rfl, m, rfl, ⟨us, SqL.of hm⟩, ?_⟩
    refine lcLst (K := K) (xs := us) none (fun i ds => ds = ((inks.take i).map (·.1)).map PyData.str) potN (SqL.of hm) (fun z => nomatch z) (by omega) rfl (fun _ => rfl) ?_ ?_
    · rintro i x Ha ds C N hi sa fl rfl go _
      obtain ⟨lay, b, e3, rfl, sq, _⟩ := lays_get al hi
      simp only [tSeq, tIfS, tTest, tOp, tUn, tVar, tC, rI, rI0, rU, rEq, rNe, rIxL, rIxT, rIxS, tCB, tCons, tNil, tRet, tRetN, tAsg, gTup, gCons, gNil, gName, gSub, rSetL, tNext, tDrop, tLst, tTup, tCall, tIf, tB, tAnd, tOr, tNot, tSl, tPart, tNoPart, tM1, tM0, tBM, tBM0, tLcE, tForE, iRng1, iRng2, iTup, iList, iStr, tYes, wipe, startDef, cxK, noxK, exists_and_left, exists_eq_left', exists_eq_left, exists_eq_right, Option.some.injEq, V.int.injEq, V.ref.injEq, V.str.injEq, V.bl.injEq, List.cons.injEq, and_true, true_and, List.append_nil, List.map_cons, List.map_nil, List.length_cons, List.length_nil, List.replicate, List.nil_append, List.cons_append, List.set_cons_zero, List.set_cons_succ, List.getElem?_cons_zero, List.getElem?_cons_succ, decide_eq_true_eq, exists_const, Nat.reduceAdd, Nat.reduceSub, List.replicate_succ, List.replicate_zero, exists_prop, and_assoc, List.set_nil, rLenK, rTupK, rLstK, rReprK, rEqD, rNeD, rIn, rAll, rAppend, rCat, ↓reduceIte, Bool.false_eq_true, iEnumT, rSortedPO, rIsi, rRep, rReverse, tLstRg, tTupRg, tRg1, tRg2, rSlL, rSlT, rSortedI, rSlF, rCatF, rMax, tLc2E, rSortedL, rSortedT, gUnl, tPar, rReprX, tChain, tDNewK, tDisp, tPairs, tAndV, tNotV, tFd, sFd, tMeth, tMake, tMakeK, gStar, iZipM, iItems, tLock, tSpread, tDcE, tDGet, sDPut, tPar3, tNever, rIxD, tChain, iEnum, tDIn, tDNotIn, gHd]
      refine ⟨_, St.tup potN sa sq, _, rfl, ?_⟩
      refine go _ _ (.str lay.1) (St.refl potN) (by simp [flatT]) (.str _) ?_
      rw [take_succ_map _ _ e3, List.map_append]
      rfl
    · rintro D acc ds H1 hD sD hl fl al1 rfl
      rw [len, List.take_length] at al1
      obtain rfl := dps_strs_inv al1
      exact k D H1 hD sD.toSame hl
abbrev s_Palette_inks : Stmt := inClass (topS 12) 1
theorem sc_Palette_inks : FnScope ["self"] ["self"] (defScope s_Palette_inks) := ⟨rfl, rfl, rfl, by decide +kernel, rfl, by decide +kernel, by decide +kernel⟩

def spInksP (K : PySem.W.Frag) (cP : Addr) : Sp := fun vs H Q _ => ∃ (p m f : Addr) (inks : List Lay), vs = [.ref p] ∧ PalAt K cP H p m f inks ∧
  ∀ q us H', H q = none → Same H H' → H' q = some (.lst us) → DpAll K H' us (inks.map layD) → Q (.ref q) H'
theorem ok_Palette_inks {f : Addr} {fd : FuncData} (F : Fun K "inks" "Palette.inks" s_Palette_inks f fd) (M : Blt mg) (TPalette : TPal K mg cP) : FnOk P w K mg base CX0 1 f fd ["self"] (spInksP K cP) := by
  refine F.ok sc_Palette_inks (fun vs H Q E h => ?_) (fun cdv A outer s H vs Q E hr h => ?_)
  · obtain ⟨p, m, f, inks, rfl, _⟩ := h
    rfl
  · obtain ⟨p, m, f, inks, rfl, ⟨⟨dx, hp⟩, ⟨us, hm, al⟩, hf⟩, k⟩ := h
    refine ⟨_, (pss_one (ps_ret (pe_callTy (k_lst (K := K) rfl) (by rfl) M.list (by decide +kernel) (pa_cons (fldC rfl TPalette.cl TPalette.n_made (pv 0)) pa_nil)))), ?_⟩
    simp only [tSeq, tIfS, tTest, tOp, tUn, tVar, tC, rI, rI0, rU, rEq, rNe, rIxL, rIxT, rIxS, tCB, tCons, tNil, tRet, tRetN, tAsg, gTup, gCons, gNil, gName, gSub, rSetL, tNext, tDrop, tLst, tTup, tCall, tIf, tB, tAnd, tOr, tNot, tSl, tPart, tNoPart, tM1, tM0, tBM, tBM0, tLcE, tForE, iRng1, iRng2, iTup, iList, iStr, tYes, wipe, startDef, cxK, noxK, exists_and_left, exists_eq_left', exists_eq_left, exists_eq_right, Option.some.injEq, V.int.injEq, V.ref.injEq, V.str.injEq, V.bl.injEq, List.cons.injEq, and_true, true_and, List.append_nil, List.map_cons, List.map_nil, List.length_cons, List.length_nil, List.replicate, List.nil_append, List.cons_append, List.set_cons_zero, List.set_cons_succ, List.getElem?_cons_zero, List.getElem?_cons_succ, decide_eq_true_eq, exists_const, Nat.reduceAdd, Nat.reduceSub, List.replicate_succ, List.replicate_zero, exists_prop, and_assoc, List.set_nil, rLenK, rTupK, rLstK, rReprK, rEqD, rNeD, rIn, rAll, rAppend, rCat, ↓reduceIte, Bool.false_eq_true, iEnumT, rSortedPO, rIsi, rRep, rReverse, tLstRg, tTupRg, tRg1, tRg2, rSlL, rSlT, rSortedI, rSlF, rCatF, rMax, tLc2E, rSortedL, rSortedT, gUnl, tPar, rReprX, tChain, tDNewK, tDisp, tPairs, tAndV, tNotV, tFd, sFd, tMeth, tMake, tMakeK, gStar, iZipM, iItems, tLock, tSpread, tDcE, tDGet, sDPut, tPar3, tNever, rIxD, tChain, iEnum, tDIn, tDNotIn, gHd]
    refine ⟨dx, _, hp, _, rfl, m, rfl, us, .inl (SqL.of hm), fun q hq => ?_⟩
    have s1 : Same H (upd H q (.lst us)) := same_new hq
    exact k q us _ hq s1 upd_same (smDps s1 (flat_lays _) al)
abbrev s_Palette_has : Stmt := inClass (topS 12) 3
theorem sc_Palette_has : FnScope ["self", "name"] ["self", "name"] (defScope s_Palette_has) := ⟨rfl, rfl, rfl, by decide +kernel, rfl, by decide +kernel, by decide +kernel⟩

def spHas (K : PySem.W.Frag) (cP : Addr) : Sp := fun vs H Q _ => ∃ (p m f : Addr) (inks : List Lay) (v : V), vs = [.ref p, v] ∧ PalAt K cP H p m f inks ∧ Cl K H v ∧
  ∀ H', Same H H' → Q (.bl (nameB v && decide (v ∈ (inks.map (·.1)).map V.str))) H'
theorem ok_Palette_has {f : Addr} {fd : FuncData} (F : Fun K "has" "Palette.has" s_Palette_has f fd) (M : Blt mg) (TPalette : TPal K mg cP) (C : CNm P w K mg base) : FnOk P w K mg base CX0 2 f fd ["self", "name"] (spHas K cP) := by
  refine F.ok sc_Palette_has (fun vs H Q E h => ?_) (fun cdv A outer s H vs Q E hr h => ?_)
  · obtain ⟨p, m, f, inks, v, rfl, _⟩ := h
    rfl
  · obtain ⟨p, m, f, inks, v, rfl, hP, hv, k⟩ := h
    have hu := hu_of hr
    refine ⟨_, (pss_one (ps_ret (pe_and (callH C.is_name hr (by rfl) (pa_cons (pv 1) pa_nil)) (pe_one (pe_cmp (pc_din hu (pv 1) (fldC rfl TPalette.cl TPalette.n_fades (pv 0))) (by rfl)))))), ?_⟩
    simp only [tSeq, tIfS, tTest, tOp, tUn, tVar, tC, rI, rI0, rU, rEq, rNe, rIxL, rIxT, rIxS, tCB, tCons, tNil, tRet, tRetN, tAsg, gTup, gCons, gNil, gName, gSub, rSetL, tNext, tDrop, tLst, tTup, tCall, tIf, tB, tAnd, tOr, tNot, tSl, tPart, tNoPart, tM1, tM0, tBM, tBM0, tLcE, tForE, iRng1, iRng2, iTup, iList, iStr, tYes, wipe, startDef, cxK, noxK, exists_and_left, exists_eq_left', exists_eq_left, exists_eq_right, Option.some.injEq, V.int.injEq, V.ref.injEq, V.str.injEq, V.bl.injEq, List.cons.injEq, and_true, true_and, List.append_nil, List.map_cons, List.map_nil, List.length_cons, List.length_nil, List.replicate, List.nil_append, List.cons_append, List.set_cons_zero, List.set_cons_succ, List.getElem?_cons_zero, List.getElem?_cons_succ, decide_eq_true_eq, exists_const, Nat.reduceAdd, Nat.reduceSub, List.replicate_succ, List.replicate_zero, exists_prop, and_assoc, List.set_nil, rLenK, rTupK, rLstK, rReprK, rEqD, rNeD, rIn, rAll, rAppend, rCat, ↓reduceIte, Bool.false_eq_true, iEnumT, rSortedPO, rIsi, rRep, rReverse, tLstRg, tTupRg, tRg1, tRg2, rSlL, rSlT, rSortedI, rSlF, rCatF, rMax, tLc2E, rSortedL, rSortedT, gUnl, tPar, rReprX, tChain, tDNewK, tDisp, tPairs, tAndV, tNotV, tFd, sFd, tMeth, tMake, tMakeK, gStar, iZipM, iItems, tLock, tSpread, tDcE, tDGet, sDPut, tPar3, tNever, rIxD, tChain, iEnum, tDIn, tDNotIn, gHd, spName]
    refine ⟨hv, fun H1 s1 => ?_⟩
    obtain ⟨⟨dx, hp⟩, _, hf⟩ := hP.same s1
    cases e : nameB v with
    | false =>
      rw [if_neg (by decide)]
      have q := k H1 s1
      rw [e] at q
      exact q
    | true =>
      rw [if_pos rfl]
      obtain ⟨z, rfl⟩ : ∃ z, v = .str z := by
        cases v <;> first | exact ⟨_, rfl⟩ | cases e
      refine ⟨dx, _, hp, _, rfl, f, rfl, _, DGet.k (k := (Sum.inr z : L2.Key)) hf, ?_⟩
      have q := k H1 s1
      rw [e, Bool.true_and] at q
      have e2 : (valV (fadesK inks) (Sum.inr z : L2.Key)).isSome = decide (V.str z ∈ (inks.map (·.1)).map V.str) := by
        by_cases mz : z ∈ inks.map (·.1)
        · rw [decide_eq_true (List.mem_map.mpr ⟨z, mz, rfl⟩)]
          rw [← valV_any]
          obtain ⟨lay, ml, rfl⟩ := List.mem_map.mp mz
          exact List.any_eq_true.mpr ⟨_, List.mem_map.mpr ⟨lay, ml, rfl⟩, decide_eq_true rfl⟩
        · rw [decide_eq_false (fun m => mz (by obtain ⟨y, my, e⟩ := List.mem_map.mp m; cases e; exact my))]
          have := valV_txt (fun j : Lay => j.1) (fun j : Lay => V.int j.2) mz
          show (valV (fadesK inks) (Sum.inr z : L2.Key)).isSome = false
          unfold fadesK
          rw [this]
          rfl
      rw [e2]
      exact q
abbrev s_Palette_fade : Stmt := inClass (topS 12) 4
theorem sc_Palette_fade : FnScope ["self", "name"] ["self", "name"] (defScope s_Palette_fade) := ⟨rfl, rfl, rfl, by decide +kernel, rfl, by decide +kernel, by decide +kernel⟩

def spFade (K : PySem.W.Frag) (cP : Addr) : Sp := fun vs H Q _ => ∃ (p m f : Addr) (inks : List Lay) (l : Lay), vs = [.ref p, .str l.1] ∧ PalAt K cP H p m f inks ∧ l ∈ inks ∧ InksOk inks ∧
  ∀ H', Same H H' → Q (.int l.2) H'
structure CHas (P : Program) (w : World) (K : PySem.W.Frag) (mg : Str → Option Value) (base : Heap) (cP : Addr) : Prop where
  Palette_has : HasM P w K mg base cP "has" 2 ["self", "name"] (spHas K cP)
theorem ok_Palette_fade {f : Addr} {fd : FuncData} (F : Fun K "fade" "Palette.fade" s_Palette_fade f fd) (M : Blt mg) (TPalette : TPal K mg cP) (C : CHas P w K mg base cP) : FnOk P w K mg base CX0 3 f fd ["self", "name"] (spFade K cP) := by
  refine F.ok sc_Palette_fade (fun vs H Q E h => ?_) (fun cdv A outer s H vs Q E hr h => ?_)
  · obtain ⟨p, m, f, inks, v, rfl, _⟩ := h
    rfl
  · obtain ⟨p, m, f, inks, l, rfl, hP, ml, ok, k⟩ := h
    have hu := hu_of hr
    refine ⟨_, (pss_cons (ps_if (pt_not (pt_val (methC C.Palette_has TPalette.cl hr (pv 0) (pa_cons (pv 1) pa_nil)))) (pss_one ps_never) pss_nil)
      (pss_one (ps_ret (pe_dget hu (fldC rfl TPalette.cl TPalette.n_fades (pv 0)) (pv 1) (fun _ _ => rfl))))), ?_⟩
    simp only [tSeq, tIfS, tTest, tOp, tUn, tVar, tC, rI, rI0, rU, rEq, rNe, rIxL, rIxT, rIxS, tCB, tCons, tNil, tRet, tRetN, tAsg, gTup, gCons, gNil, gName, gSub, rSetL, tNext, tDrop, tLst, tTup, tCall, tIf, tB, tAnd, tOr, tNot, tSl, tPart, tNoPart, tM1, tM0, tBM, tBM0, tLcE, tForE, iRng1, iRng2, iTup, iList, iStr, tYes, wipe, startDef, cxK, noxK, exists_and_left, exists_eq_left', exists_eq_left, exists_eq_right, Option.some.injEq, V.int.injEq, V.ref.injEq, V.str.injEq, V.bl.injEq, List.cons.injEq, and_true, true_and, List.append_nil, List.map_cons, List.map_nil, List.length_cons, List.length_nil, List.replicate, List.nil_append, List.cons_append, List.set_cons_zero, List.set_cons_succ, List.getElem?_cons_zero, List.getElem?_cons_succ, decide_eq_true_eq, exists_const, Nat.reduceAdd, Nat.reduceSub, List.replicate_succ, List.replicate_zero, exists_prop, and_assoc, List.set_nil, rLenK, rTupK, rLstK, rReprK, rEqD, rNeD, rIn, rAll, rAppend, rCat, ↓reduceIte, Bool.false_eq_true, iEnumT, rSortedPO, rIsi, rRep, rReverse, tLstRg, tTupRg, tRg1, tRg2, rSlL, rSlT, rSortedI, rSlF, rCatF, rMax, tLc2E, rSortedL, rSortedT, gUnl, tPar, rReprX, tChain, tDNewK, tDisp, tPairs, tAndV, tNotV, tFd, sFd, tMeth, tMake, tMakeK, gStar, iZipM, iItems, tLock, tSpread, tDcE, tDGet, sDPut, tPar3, tNever, rIxD, tChain, iEnum, tDIn, tDNotIn, gHd, spHas]
    obtain ⟨⟨dx, hp⟩, _, hf⟩ := id hP
    refine ⟨dx, _, hp, rfl, m, f, inks, hP, cl_nm (ok.ok l ml).1, fun H1 s1 => ?_⟩
    obtain ⟨⟨dx1, hp1⟩, _, hf1⟩ := hP.same s1
    have e : (nameB (.str l.1) && decide (V.str l.1 ∈ (inks.map (·.1)).map V.str)) = true := by
      rw [nameB_tag (ok.ok l ml).1, Bool.true_and]
      exact decide_eq_true (List.mem_map.mpr ⟨l.1, List.mem_map.mpr ⟨l, ml, rfl⟩, rfl⟩)
    rw [e]
    rw [if_neg (by decide)]
    refine ⟨dx1, _, hp1, _, rfl, f, rfl, _, ?_, k H1 s1⟩
    have q := DGet.k (k := (Sum.inr l.1 : L2.Key)) hf1
    have q2 : valV (fadesK inks) (Sum.inr l.1 : L2.Key) = some (.int l.2) := valV_txtS (fun j : Lay => j.1) (fun j : Lay => V.int j.2) ml ok.nd
    rw [q2] at q
    exact q

end

/-! ### deeds -/
section
variable {P : Program} {w : World} {K : PySem.W.Frag} {mg : Str → Option Value} {base : Heap} {cP : Addr}
def kindB (inks : List Lay) (kd : Str) (v : V) : Bool :=
  if kd = "ink" then nameB v && decide (v ∈ (inks.map (·.1)).map V.str) else if kd = "tag" then nameB v else amtB v
def kindsOf (z : Str) : Option (List Str) :=
  if z = "lay" then some ["ink", "tag", "amount"] else if z = "wait" then some ["amount"] else if z = "wash" then some ["ink", "amount"] else if z = "warm" then some ["ink", "amount"]
  else if z = "scrape" then some [] else if z = "rub" then some ["amount"] else none
structure TKd (K : PySem.W.Frag) (w : World) (mg : Str → Option Value) (kd : Addr) : Prop where
  at_ : mg "_KINDS" = some (.ref kd)
  get : ∀ z ks, kindsOf z = some ks → ∃ t, KDct K w kd z (.ref t) ∧ ∀ H, SqT K H t (ks.map V.str)
theorem k_ixKd {X : Cx} (h : X.K = K) (hw : X.w = w) : IxR X (rIxD K w) := h ▸ hw ▸ ix_kdict
abbrev s_wears : Stmt := topS 16
theorem sc_wears : FnScope ["deed"] ["deed"] (defScope s_wears) := ⟨rfl, rfl, rfl, by decide +kernel, rfl, by decide +kernel, by decide +kernel⟩

def spWears (K : PySem.W.Frag) : Sp := fun vs H Q _ => ∃ (a : Addr) (z : Str) (r : List V), vs = [.ref a] ∧ SqT K H a (.str z :: r) ∧ ∀ H', Same H H' → Q (.bl (decide (z = "scrape" ∨ z = "rub"))) H'
theorem ok_wears {f : Addr} {fd : FuncData} (F : Fun K "wears" "wears" s_wears f fd) (M : Blt mg) : FnOk P w K mg base CX0 1 f fd ["deed"] (spWears K) := by
  refine F.ok sc_wears (fun vs H Q E h => ?_) (fun cdv A outer s H vs Q E hr h => ?_)
  · obtain ⟨a, z, r, rfl, _⟩ := h
    rfl
  · obtain ⟨a, z, r, rfl, hs, k⟩ := h
    refine ⟨_, (pss_one (ps_ret (pe_cmpR (k_in (K := K) rfl) (pe_ix (k_ixT (K := K) rfl) (pv 0) pe_int (fun _ _ => rfl)) (pe_tup (pa_cons pe_str (pa_cons pe_str pa_nil))) (by rfl)))), ?_⟩
    simp only [tSeq, tIfS, tTest, tOp, tUn, tVar, tC, rI, rI0, rU, rEq, rNe, rIxL, rIxT, rIxS, tCB, tCons, tNil, tRet, tRetN, tAsg, gTup, gCons, gNil, gName, gSub, rSetL, tNext, tDrop, tLst, tTup, tCall, tIf, tB, tAnd, tOr, tNot, tSl, tPart, tNoPart, tM1, tM0, tBM, tBM0, tLcE, tForE, iRng1, iRng2, iTup, iList, iStr, tYes, wipe, startDef, cxK, noxK, exists_and_left, exists_eq_left', exists_eq_left, exists_eq_right, Option.some.injEq, V.int.injEq, V.ref.injEq, V.str.injEq, V.bl.injEq, List.cons.injEq, and_true, true_and, List.append_nil, List.map_cons, List.map_nil, List.length_cons, List.length_nil, List.replicate, List.nil_append, List.cons_append, List.set_cons_zero, List.set_cons_succ, List.getElem?_cons_zero, List.getElem?_cons_succ, decide_eq_true_eq, exists_const, Nat.reduceAdd, Nat.reduceSub, List.replicate_succ, List.replicate_zero, exists_prop, and_assoc, List.set_nil, rLenK, rTupK, rLstK, rReprK, rEqD, rNeD, rIn, rAll, rAppend, rCat, ↓reduceIte, Bool.false_eq_true, iEnumT, rSortedPO, rIsi, rRep, rReverse, tLstRg, tTupRg, tRg1, tRg2, rSlL, rSlT, rSortedI, rSlF, rCatF, rMax, tLc2E, rSortedL, rSortedT, gUnl, tPar, rReprX, tChain, tDNewK, tDisp, tPairs, tAndV, tNotV, tFd, sFd, tMeth, tMake, tMakeK, gStar, iZipM, iItems, tLock, tSpread, tDcE, tDGet, sDPut, tPar3, tNever, rIxD, tChain, iEnum, tDIn, tDNotIn, gHd]
    refine ⟨_, hs, V.str z, atI_nat (j := 0) rfl, by decide, fun p hp => ⟨_, .inr (SqT.of upd_same), by rfl, by rfl, ?_⟩⟩
    have e : inV (V.str z) [V.str "scrape", V.str "rub"] = decide (z = "scrape" ∨ z = "rub") := by
      have := inV_strs ["scrape", "rub"] z
      rw [show [V.str "scrape", V.str "rub"] = (["scrape", "rub"] : List Str).map V.str from rfl, this]
      simp
    rw [e]
    exact k _ (same_new hp)
structure CKind (P : Program) (w : World) (K : PySem.W.Frag) (mg : Str → Option Value) (base : Heap) (cP : Addr) : Prop extends CHas P w K mg base cP, CNm P w K mg base where
  is_amount : Has P w K mg base "is_amount" 2 ["thing"] (spAmt K)
abbrev s_is_kind : Stmt := topS 17
theorem sc_is_kind : FnScope ["item", "kind", "palette"] ["item", "kind", "palette"] (defScope s_is_kind) := ⟨rfl, rfl, rfl, by decide +kernel, rfl, by decide +kernel, by decide +kernel⟩

def spIsKind (K : PySem.W.Frag) (cP : Addr) : Sp := fun vs H Q _ => ∃ (v : V) (kd : Str) (p m f : Addr) (inks : List Lay), vs = [v, .str kd, .ref p] ∧ PalAt K cP H p m f inks ∧ Cl K H v ∧ ∀ H', Same H H' → Q (.bl (kindB inks kd v)) H'
theorem ok_is_kind {f : Addr} {fd : FuncData} (F : Fun K "_is_kind" "_is_kind" s_is_kind f fd) (M : Blt mg) (TPalette : TPal K mg cP) (C : CKind P w K mg base cP) : FnOk P w K mg base CX0 3 f fd ["item", "kind", "palette"] (spIsKind K cP) := by
  refine F.ok sc_is_kind (fun vs H Q E h => ?_) (fun cdv A outer s H vs Q E hr h => ?_)
  · obtain ⟨v, kd, p, m, f, inks, rfl, _⟩ := h
    rfl
  · obtain ⟨v, kd, p, m, f, inks, rfl, hP, hv, k⟩ := h
    refine ⟨_, (pss_cons (ps_if (pt_cmpR op_eq (pv 1) pe_str (nomark _)) (pss_one (ps_ret (methC C.Palette_has TPalette.cl hr (pv 2) (pa_cons (pv 0) pa_nil)))) pss_nil)
      (pss_cons (ps_if (pt_cmpR op_eq (pv 1) pe_str (nomark _)) (pss_one (ps_ret (callH C.is_name hr (by rfl) (pa_cons (pv 0) pa_nil)))) pss_nil)
      (pss_one (ps_ret (callH C.is_amount hr (by rfl) (pa_cons (pv 0) pa_nil)))))), ?_⟩
    simp only [tSeq, tIfS, tTest, tOp, tUn, tVar, tC, rI, rI0, rU, rEq, rNe, rIxL, rIxT, rIxS, tCB, tCons, tNil, tRet, tRetN, tAsg, gTup, gCons, gNil, gName, gSub, rSetL, tNext, tDrop, tLst, tTup, tCall, tIf, tB, tAnd, tOr, tNot, tSl, tPart, tNoPart, tM1, tM0, tBM, tBM0, tLcE, tForE, iRng1, iRng2, iTup, iList, iStr, tYes, wipe, startDef, cxK, noxK, exists_and_left, exists_eq_left', exists_eq_left, exists_eq_right, Option.some.injEq, V.int.injEq, V.ref.injEq, V.str.injEq, V.bl.injEq, List.cons.injEq, and_true, true_and, List.append_nil, List.map_cons, List.map_nil, List.length_cons, List.length_nil, List.replicate, List.nil_append, List.cons_append, List.set_cons_zero, List.set_cons_succ, List.getElem?_cons_zero, List.getElem?_cons_succ, decide_eq_true_eq, exists_const, Nat.reduceAdd, Nat.reduceSub, List.replicate_succ, List.replicate_zero, exists_prop, and_assoc, List.set_nil, rLenK, rTupK, rLstK, rReprK, rEqD, rNeD, rIn, rAll, rAppend, rCat, ↓reduceIte, Bool.false_eq_true, iEnumT, rSortedPO, rIsi, rRep, rReverse, tLstRg, tTupRg, tRg1, tRg2, rSlL, rSlT, rSortedI, rSlF, rCatF, rMax, tLc2E, rSortedL, rSortedT, gUnl, tPar, rReprX, tChain, tDNewK, tDisp, tPairs, tAndV, tNotV, tFd, sFd, tMeth, tMake, tMakeK, gStar, iZipM, iItems, tLock, tSpread, tDcE, tDGet, sDPut, tPar3, tNever, rIxD, tChain, iEnum, tDIn, tDNotIn, gHd, spHas, spName, spAmt]
    obtain ⟨⟨dx, hp⟩, _⟩ := id hP
    unfold kindB at k
    refine ⟨rfl, ?_⟩
    by_cases h1 : kd = "ink"
    · rw [if_pos h1]
      rw [if_pos h1] at k
      exact ⟨dx, _, hp, rfl, m, f, inks, hP, hv, k⟩
    · rw [if_neg h1]
      rw [if_neg h1] at k
      refine ⟨rfl, ?_⟩
      by_cases h2 : kd = "tag"
      · rw [if_pos h2]
        rw [if_pos h2] at k
        exact ⟨hv, k⟩
      · rw [if_neg h2]
        rw [if_neg h2] at k
        exact ⟨hv, k H (Same.refl _)⟩
structure CChk (P : Program) (w : World) (K : PySem.W.Frag) (mg : Str → Option Value) (base : Heap) (cP : Addr) : Prop where
  is_kind : Has P w K mg base "_is_kind" 3 ["item", "kind", "palette"] (spIsKind K cP)
end

/-! ### is_deed of anything -/
def pairB (inks : List Lay) : List Str → List V → Bool
  | k :: ks, v :: vs => kindB inks k v && pairB inks ks vs
  | _, _ => true
/-- is a tuple of these things a deed of the palette? -/
def dB (inks : List Lay) : List V → Bool
  | .str z :: r => match kindsOf z with
    | some ks => decide (r.length = ks.length) && pairB inks ks r
    | none => false
  | _ => false
theorem dB_str (inks : List Lay) (z : Str) (r : List V) : dB inks (.str z :: r) = (match kindsOf z with
    | some ks => decide (r.length = ks.length) && pairB inks ks r
    | none => false) := rfl
def dO (inks : List Lay) : Option (List V) → Bool
  | some xs => dB inks xs
  | none => false
/-- a thing: a tuple with these items, each of a kind known, or no tuple -/
def Tg (K : PySem.W.Frag) (H : Hp) (v : V) : Option (List V) → Prop
  | some xs => ∃ a, v = .ref a ∧ SqT K H a xs ∧ (∀ y ∈ xs, Cl K H y) ∧ xs.length ≤ 12
  | none => ∃ t : String, TyX K H v (.type t) ∧ kitB t "tuple" = some false
def strB : V → Bool
  | .str _ => true
  | _ => false
theorem cl_ty {K : PySem.W.Frag} {H : Hp} {v : V} (h : Cl K H v) : ∃ t : String, TyX K H v (.type t) ∧ kitB t "str" = some (strB v) := by
  rcases h with ⟨z, rfl, _⟩ | ⟨i, rfl⟩ | ⟨b, rfl⟩ | ⟨t, ty, k1, _, _, n1, _⟩
  · exact ⟨"str", .base (.str z), by show kitB "str" "str" = some true; decide +kernel⟩
  · exact ⟨"int", .base (.int i), by show kitB "int" "str" = some false; decide +kernel⟩
  · exact ⟨"bool", .base (.bl b), by show kitB "bool" "str" = some false; decide +kernel⟩
  · refine ⟨t, ty, ?_⟩
    cases v <;> first | exact k1 | exact absurd rfl (n1 _)
theorem strB_of {v : V} (h : strB v = true) : ∃ z, v = .str z := by
  cases v <;> first | exact ⟨_, rfl⟩ | cases h
section
variable {P : Program} {w : World} {K : PySem.W.Frag} {mg : Str → Option Value} {base : Heap} {cP : Addr}
structure TKd3 (K : PySem.W.Frag) (w : World) (mg : Str → Option Value) (kd : Addr) : Prop extends TKd K w mg kd where
  kdict : ∃ es n, KDict K w kd es n
  none_ : ∀ z, kindsOf z = none → PySem.W.nsIn K kd z = some none
theorem TKd3.nsIn {kd : Addr} (D : TKd3 K w mg kd) {z : Str} {ks : List Str} (h : kindsOf z = some ks) : ∃ u, PySem.W.nsIn K kd z = some (some u) := by
  obtain ⟨t, ⟨_, _, u, _, _, e, _⟩, _⟩ := D.get z ks h
  exact ⟨u, e⟩
theorem kinds_len {z : Str} {ks : List Str} (h : kindsOf z = some ks) : ks.length ≤ 3 := by
  unfold kindsOf at h
  repeat' split at h
  all_goals first | (cases h; decide) | (cases h)
theorem pairB_all {inks : List Lay} : ∀ {ks : List Str} {vs : List V}, vs.length = ks.length → pairB inks ks vs = ((List.range ks.length).map fun i => match ks[i]?, vs[i]? with | some k, some v => kindB inks k v | _, _ => true).all id
  | [], [], _ => rfl
  | k :: ks, v :: vs, h => by
    have ih := pairB_all (inks := inks) (ks := ks) (vs := vs) (by simpa using h)
    rw [List.length_cons, List.range_succ_eq_map, List.map_cons, List.map_map, List.all_cons]
    show (kindB inks k v && pairB inks ks vs) = _
    rw [ih]
    rfl
abbrev s_is_deed : Stmt := topS 15
theorem sc_is_deed : FnScope ["thing", "palette", "word", "rest", "item", "kind"] ["thing", "palette"] (defScope s_is_deed) := ⟨rfl, rfl, rfl, by decide +kernel, rfl, by decide +kernel, by decide +kernel⟩

def spIsDeedX (K : PySem.W.Frag) (cP : Addr) : Sp := fun vs H Q _ => ∃ (v : V) (o : Option (List V)) (p m f : Addr) (inks : List Lay), vs = [v, .ref p] ∧ Tg K H v o ∧ PalAt K cP H p m f inks ∧
  ∀ H', Same H H' → Q (.bl (dO inks o)) H'
theorem ok_is_deed {f : Addr} {fd : FuncData} {kd : Addr} (F : Fun K "is_deed" "is_deed" s_is_deed f fd) (M : Blt mg) (D : TKd3 K w mg kd) (C : CChk P w K mg base cP) : FnOk P w K mg base CX0 4 f fd ["thing", "palette"] (spIsDeedX K cP) := by
  refine F.ok sc_is_deed (fun vs H Q E h => ?_) (fun cdv A outer s H vs Q E hr h => ?_)
  · obtain ⟨v, o, p, m, f, inks, rfl, _⟩ := h
    rfl
  · obtain ⟨v, o, p, m, f, inks, rfl, hT, hP, k⟩ := h
    have gK := D.at_
    obtain ⟨esK, nK, hKD⟩ := D.kdict
    refine ⟨_, (pss_cons (ps_if (PW.pt (pw_or (pt_not (pt_val (pe_callB (k_isi (K := K) rfl) (by rfl) M.isinstance (by decide +kernel) (pa_cons (pv 0) (pa_cons (pe_bltn (v := .ty "tuple") (by rfl) M.tuple (by decide +kernel) rfl) pa_nil))))) (pw_or (pt_cmpR op_eq (pe_callB (k_len (K := K) rfl) (by rfl) M.len (by decide +kernel) (pa_cons (pv 0) pa_nil)) pe_int (nomark _)) (pw_or1 (pt_not (pt_val (pe_callB (k_isi (K := K) rfl) (by rfl) M.isinstance (by decide +kernel) (pa_cons (pe_ix (k_ixT (K := K) rfl) (pv 0) pe_int (fun _ _ => rfl)) (pa_cons (pe_bltn (v := .ty "str") (by rfl) M.str (by decide +kernel) rfl) pa_nil))))))))) (pss_one (ps_ret pe_bl)) pss_nil)
      (pss_cons (ps_asg (pv 0) (pg_hd (by rfl) (pgs_cons (pg_name (i := 2) sc_is_deed.nd rfl (by first | exact Or.inl rfl | exact Or.inr rfl)) (pgs_star (pg_name (i := 3) sc_is_deed.nd rfl (by first | exact Or.inl rfl | exact Or.inr rfl)) pgs_nil))))
      (pss_cons (ps_if (PW.pt (pw_or (pt_cmpR (op_notIn_kd hKD) (pv 2) (pe_glob (v := .ref kd) (by rfl) gK rfl) (by rfl)) (pw_or1 (pt_cmpR op_ne (pe_callB (k_len (K := K) rfl) (by rfl) M.len (by decide +kernel) (pa_cons (pv 3) pa_nil)) (pe_callB (k_len (K := K) rfl) (by rfl) M.len (by decide +kernel) (pa_cons (pe_ix (k_ixKd (K := K) rfl rfl) (pe_glob (v := .ref kd) (by rfl) gK rfl) (pv 2) (fun _ _ => rfl)) pa_nil)) (nomark _))))) (pss_one (ps_ret pe_bl)) pss_nil)
      (pss_one (ps_ret (pe_callB (k_all (K := K) rfl rfl) (by rfl) M.all (by decide +kernel) (pa_cons (pe_lc (own := [("item", 4), ("kind", 5)]) (g := gTup K 2 (gCons (gName 4) (gCons (gName 5) gNil))) (tt := tYes) rfl sc_is_deed.nd (pi_zipM (by rfl) M.zip (pa_cons (pv 3) (pa_cons (pe_ix (k_ixKd (K := K) rfl rfl) (pe_glob (v := .ref kd) (by rfl) gK rfl) (pv 2) (fun _ _ => rfl)) pa_nil))) (blkOk_by (own := [("item", 4), ("kind", 5)]) (N := ["thing", "palette", "word", "rest", "item", "kind"]) (sc := defScope s_is_deed) (by decide +kernel)) (fun _ _ _ _ _ => (pg_tup (n := 2) (by rfl) (pgs_cons (pg_name (i := 4) sc_is_deed.nd rfl (by first | exact Or.inl rfl | exact Or.inr rfl)) (pgs_cons (pg_name (i := 5) sc_is_deed.nd rfl (by first | exact Or.inl rfl | exact Or.inr rfl)) pgs_nil)))) (fun _ _ _ _ _ => pts_nil) (fun _ _ _ _ _ => (callH C.is_kind hr (by rfl) (pa_cons (pv 4) (pa_cons (pv 5) (pa_cons (pv 1) pa_nil)))))) pa_nil))))))), ?_⟩
    simp only [tSeq, tIfS, tTest, tOp, tUn, tVar, tC, rI, rI0, rU, rEq, rNe, rIxL, rIxT, rIxS, tCB, tCons, tNil, tRet, tRetN, tAsg, gTup, gCons, gNil, gName, gSub, rSetL, tNext, tDrop, tLst, tTup, tCall, tIf, tB, tAnd, tOr, tNot, tSl, tPart, tNoPart, tM1, tM0, tBM, tBM0, tLcE, tForE, iRng1, iRng2, iTup, iList, iStr, tYes, wipe, startDef, cxK, noxK, exists_and_left, exists_eq_left', exists_eq_left, exists_eq_right, Option.some.injEq, V.int.injEq, V.ref.injEq, V.str.injEq, V.bl.injEq, List.cons.injEq, and_true, true_and, List.append_nil, List.map_cons, List.map_nil, List.length_cons, List.length_nil, List.replicate, List.nil_append, List.cons_append, List.set_cons_zero, List.set_cons_succ, List.getElem?_cons_zero, List.getElem?_cons_succ, decide_eq_true_eq, exists_const, Nat.reduceAdd, Nat.reduceSub, List.replicate_succ, List.replicate_zero, exists_prop, and_assoc, List.set_nil, rLenK, rTupK, rLstK, rReprK, rEqD, rNeD, rIn, rAll, rAppend, rCat, ↓reduceIte, Bool.false_eq_true, iEnumT, rSortedPO, rIsi, rRep, rReverse, tLstRg, tTupRg, tRg1, tRg2, rSlL, rSlT, rSortedI, rSlF, rCatF, rMax, tLc2E, rSortedL, rSortedT, gUnl, tPar, rReprX, tChain, tDNewK, tDisp, tPairs, tAndV, tNotV, tFd, sFd, tMeth, tMake, tMakeK, gStar, iZipM, iItems, tLock, tSpread, tDcE, tDGet, sDPut, tPar3, tNever, rIxD, tChain, iEnum, tDIn, tDNotIn, gHd, spIsKind]
    cases o with
    | none =>
      obtain ⟨t, ty, kt⟩ := hT
      refine ⟨.type t, .type "tuple", .ty "tuple", ty, false, kit_ty kt, ?_⟩
      rw [if_pos (by decide)]
      exact k H (Same.refl _)
    | some xs =>
      obtain ⟨a, rfl, hs, hc, h12⟩ := hT
      refine ⟨.type "tuple", .type "tuple", .ty "tuple", tyT hs, true, kit_ty (by decide +kernel), ?_⟩
      rw [if_neg (by decide)]
      refine ⟨a, rfl, xs, .inr hs, rfl, ?_⟩
      cases xs with
      | nil =>
        rw [if_pos (by simp)]
        exact k H (Same.refl _)
      | cons y r =>
        rw [if_neg (by simp; omega)]
        obtain ⟨t, ty, kt⟩ := cl_ty (hc y (List.mem_cons_self ..))
        refine ⟨a, rfl, y :: r, hs, y, atI_nat (j := 0) rfl, .type t, .type "str", .ty "str", ty, _, kit_ty kt, ?_⟩
        by_cases ys : ∃ z, y = V.str z
        · obtain ⟨z, rfl⟩ := ys
          rw [if_neg (by simp [strB])]
          refine ⟨a, rfl, V.str z, r, .inl hs, by simp at h12; omega, fun D1 hD1 => ?_⟩
          have s1 : Same H (upd H D1 (.lst r)) := same_new hD1
          have l1 : (upd H D1 (.lst r)) D1 = some (.lst r) := upd_same
          generalize upd H D1 (.lst r) = H1 at s1 l1
          cases ek : kindsOf z with
          | none =>
            refine ⟨z, rfl, _, D.none_ z ek, ?_⟩
            rw [if_pos (by simp)]
            have q := k H1 s1
            show Q (.bl false) H1
            have e : dB inks (V.str z :: r) = false := by rw [dB_str, ek]
            rw [show (dO inks (some (V.str z :: r))) = false from e] at q
            exact q
          | some ks =>
            obtain ⟨u, hu⟩ := D.nsIn ek
            refine ⟨z, rfl, _, hu, ?_⟩
            rw [if_neg (by simp)]
            obtain ⟨t, hD, ht⟩ := D.get z ks ek
            refine ⟨r, .inl (SqL.of l1), z, rfl, .ref t, hD, t, rfl, ks.map V.str, .inr (ht H1), rfl, ?_⟩
            have h3 := kinds_len ek
            by_cases hl : r.length = ks.length
            · rw [if_neg (by simp [hl])]
              refine ⟨z, rfl, .ref t, hD, t, rfl, _, SqL.of l1, _, ht H1, ?_⟩
              refine lcK (K := K) (walk_zipM (n := ks.length) (by rw [List.length_map, hl]; simp)) none (fun i ds => ds = ((List.range i).map fun i => match ks[i]?, r[i]? with | some k, some v => kindB inks k v | _, _ => true).map PyData.bool) potN (fun H s => ⟨SqL.of (s.toSame _ _ l1), ht _⟩) (by omega) rfl ?_ ?_
              · rintro i x Ha H' ds C N hi sa fl rfl ⟨T, x1, x2, rfl, nT, rfl, e1, e2⟩ go _
                obtain ⟨kd1, ek1, rfl⟩ : ∃ q, ks[i]? = some q ∧ x2 = V.str q := by
                  have e2' : (ks.map V.str)[i]? = some x2 := e2
                  rw [List.getElem?_map, List.getElem?_eq_getElem hi] at e2'
                  exact ⟨_, List.getElem?_eq_getElem hi, (Option.some.inj e2').symm⟩
                have sT : Same Ha (upd Ha T (.tup [x1, .str kd1])) := same_new nT
                have cl := hc x1 (List.mem_cons_of_mem _ (List.mem_of_getElem? e1))
                have s0T := smT s1 (smT sa.toSame sT)
                simp only [tSeq, tIfS, tTest, tOp, tUn, tVar, tC, rI, rI0, rU, rEq, rNe, rIxL, rIxT, rIxS, tCB, tCons, tNil, tRet, tRetN, tAsg, gTup, gCons, gNil, gName, gSub, rSetL, tNext, tDrop, tLst, tTup, tCall, tIf, tB, tAnd, tOr, tNot, tSl, tPart, tNoPart, tM1, tM0, tBM, tBM0, tLcE, tForE, iRng1, iRng2, iTup, iList, iStr, tYes, wipe, startDef, cxK, noxK, exists_and_left, exists_eq_left', exists_eq_left, exists_eq_right, Option.some.injEq, V.int.injEq, V.ref.injEq, V.str.injEq, V.bl.injEq, List.cons.injEq, and_true, true_and, List.append_nil, List.map_cons, List.map_nil, List.length_cons, List.length_nil, List.replicate, List.nil_append, List.cons_append, List.set_cons_zero, List.set_cons_succ, List.getElem?_cons_zero, List.getElem?_cons_succ, decide_eq_true_eq, exists_const, Nat.reduceAdd, Nat.reduceSub, List.replicate_succ, List.replicate_zero, exists_prop, and_assoc, List.set_nil, rLenK, rTupK, rLstK, rReprK, rEqD, rNeD, rIn, rAll, rAppend, rCat, ↓reduceIte, Bool.false_eq_true, iEnumT, rSortedPO, rIsi, rRep, rReverse, tLstRg, tTupRg, tRg1, tRg2, rSlL, rSlT, rSortedI, rSlF, rCatF, rMax, tLc2E, rSortedL, rSortedT, gUnl, tPar, rReprX, tChain, tDNewK, tDisp, tPairs, tAndV, tNotV, tFd, sFd, tMeth, tMake, tMakeK, gStar, iZipM, iItems, tLock, tSpread, tDcE, tDGet, sDPut, tPar3, tNever, rIxD, tChain, iEnum, tDIn, tDNotIn, gHd, spIsKind]
                refine ⟨_, SqT.of upd_same, rfl, _, _, rfl, _, _, rfl, rfl, _, rfl, m, f, inks, hP.same s0T, Cl.keep s0T cl, fun H2 s2 => ?_⟩
                refine go _ _ (.bool (kindB inks kd1 x1)) (St.ofSame potN (smT sT s2)) (by simp [flatT]) (.bl _) ?_
                rw [List.range_succ, List.map_append, List.map_append]
                have e1' : r[i]? = some x1 := e1
                simp only [List.map_cons, List.map_nil, ek1, e1']
              · rintro D2 acc ds H' hD2 sD hl2 fl al rfl
                obtain rfl := dps_bools_inv al
                refine ⟨D2, rfl, _, SqL.of hl2, ?_⟩
                have e : dB inks (V.str z :: r) = ((List.range ks.length).map fun i => match ks[i]?, r[i]? with | some k, some v => kindB inks k v | _, _ => true).all id := by
                  rw [dB_str, ek]
                  show (decide (r.length = ks.length) && pairB inks ks r) = _
                  rw [decide_eq_true hl, Bool.true_and, pairB_all hl]
                rw [← e]
                exact k H' (smT s1 sD.toSame)
            · rw [if_pos (by simp; omega)]
              have q := k H1 s1
              have e : dB inks (V.str z :: r) = false := by
                rw [dB_str, ek]
                show (decide (r.length = ks.length) && pairB inks ks r) = _
                rw [decide_eq_false hl, Bool.false_and]
              rw [show (dO inks (some (V.str z :: r))) = false from e] at q
              exact q
        · rw [if_pos (by cases y <;> first | rfl | exact absurd ⟨_, rfl⟩ ys)]
          have q := k H (Same.refl _)
          have e : dB inks (y :: r) = false := by
            cases y <;> first | rfl | exact absurd ⟨_, rfl⟩ ys
          rw [show (dO inks (some (y :: r))) = false from e] at q
          exact q
end

/-! ### the law's own look at a deed -/
section
variable {P : Program} {w : World} {K : PySem.W.Frag} {mg : Str → Option Value} {base : Heap} {cP : Addr}
abbrev s_lis_name : Stmt := topS 30
theorem sc_lis_name : FnScope ["_law_one", "_law_sign"] ["_law_one"] (defScope s_lis_name) := ⟨rfl, rfl, rfl, by decide +kernel, rfl, by decide +kernel, by decide +kernel⟩

theorem ok_lis_name {f : Addr} {fd : FuncData} (F : Fun K "_law_is_name" "_law_is_name" s_lis_name f fd) (M : Blt mg) : FnOk P w K mg base CX0 1 f fd ["_law_one"] (spName K) := by
  refine F.ok sc_lis_name (fun vs H Q E h => ?_) (fun cdv A outer s H vs Q E hr h => ?_)
  · obtain ⟨v, rfl, _⟩ := h
    rfl
  · obtain ⟨v, rfl, hv, k⟩ := h
    refine ⟨_, (pss_cons (ps_if (PW.pt (pw_or (pt_not (pt_val (pe_callB (k_isi (K := K) rfl) (by rfl) M.isinstance (by decide +kernel) (pa_cons (pv 0) (pa_cons (pe_bltn (v := .ty "str") (by rfl) M.str (by decide +kernel) rfl) pa_nil))))) (pw_or (pt_cmpR op_lt (pe_callB call_len_str (by rfl) M.len (by decide +kernel) (pa_cons (pv 0) pa_nil)) pe_int (nomark _)) (pw_or1 (pt_cmpR op_gt (pe_callB call_len_str (by rfl) M.len (by decide +kernel) (pa_cons (pv 0) pa_nil)) pe_int (nomark _)))))) (pss_one (ps_ret pe_bl)) pss_nil)
      (pss_one (ps_ret (pe_callB (k_all (K := K) rfl rfl) (by rfl) M.all (by decide +kernel) (pa_cons (pe_lc (own := [("_law_sign", 1)]) (g := gName 1) (tt := tYes) rfl sc_lis_name.nd (pi_str (pv 0)) (blkOk_by (own := [("_law_sign", 1)]) (N := ["_law_one", "_law_sign"]) (sc := defScope s_lis_name) (by decide +kernel)) (fun _ _ _ _ _ => (pg_name (i := 1) sc_lis_name.nd rfl (by first | exact Or.inl rfl | exact Or.inr rfl))) (fun _ _ _ _ _ => pts_nil) (fun _ _ _ _ _ => (pe_cmpR op_in_sign (pv 1) pe_str (by rfl)))) pa_nil))))), ?_⟩
    simp only [tSeq, tIfS, tTest, tOp, tUn, tVar, tC, rI, rI0, rU, rEq, rNe, rIxL, rIxT, rIxS, tCB, tCons, tNil, tRet, tRetN, tAsg, gTup, gCons, gNil, gName, gSub, rSetL, tNext, tDrop, tLst, tTup, tCall, tIf, tB, tAnd, tOr, tNot, tSl, tPart, tNoPart, tM1, tM0, tBM, tBM0, tLcE, tForE, iRng1, iRng2, iTup, iList, iStr, tYes, wipe, startDef, cxK, noxK, exists_and_left, exists_eq_left', exists_eq_left, exists_eq_right, Option.some.injEq, V.int.injEq, V.ref.injEq, V.str.injEq, V.bl.injEq, List.cons.injEq, and_true, true_and, List.append_nil, List.map_cons, List.map_nil, List.length_cons, List.length_nil, List.replicate, List.nil_append, List.cons_append, List.set_cons_zero, List.set_cons_succ, List.getElem?_cons_zero, List.getElem?_cons_succ, decide_eq_true_eq, exists_const, Nat.reduceAdd, Nat.reduceSub, List.replicate_succ, List.replicate_zero, exists_prop, and_assoc, List.set_nil, rLenK, rTupK, rLstK, rReprK, rEqD, rNeD, rIn, rAll, rAppend, rCat, ↓reduceIte, Bool.false_eq_true, iEnumT, rSortedPO, rIsi, rRep, rReverse, tLstRg, tTupRg, tRg1, tRg2, rSlL, rSlT, rSortedI, rSlF, rCatF, rMax, tLc2E, rSortedL, rSortedT, gUnl, tPar, rReprX, tChain, tDNewK, tDisp, tPairs, tAndV, tNotV, tFd, sFd, tMeth, tMake, tMakeK, gStar, iZipM, iItems, tLock, tSpread, tDcE, tDGet, sDPut, tPar3, tNever, rIxD, tChain, iEnum, tDIn, tDNotIn, gHd]
    rcases hv with ⟨z, rfl, lz, lc⟩ | ⟨i, rfl⟩ | ⟨b, rfl⟩ | ⟨t, ty, k1, k2, k3, n1, n2⟩
    · refine ⟨.type "str", .type "str", .ty "str", .base (.str z), true, kit_ty (by decide +kernel), ?_⟩
      rw [if_neg (by decide)]
      have line : (1000 : Nat) < sizeLine := by decide
      refine ⟨z, rfl, by omega, ?_⟩
      by_cases h1 : 1 ≤ z.length
      · rw [if_neg (by omega)]
        refine ⟨z, rfl, by omega, ?_⟩
        by_cases h2 : z.length ≤ 8
        · rw [if_neg (by omega)]
          refine ⟨z, rfl, lcStr (K := K) none (fun i ds => ds = ((z.cps.toList.take i).map fun c => decide (c ∈ abc.cps.toList)).map PyData.bool) potN (by show z.length ≤ _; omega) rfl (fun _ => rfl) ?_ ?_⟩
          · rintro i c Ha ds C hi sa fl rfl go
            simp only [tSeq, tIfS, tTest, tOp, tUn, tVar, tC, rI, rI0, rU, rEq, rNe, rIxL, rIxT, rIxS, tCB, tCons, tNil, tRet, tRetN, tAsg, gTup, gCons, gNil, gName, gSub, rSetL, tNext, tDrop, tLst, tTup, tCall, tIf, tB, tAnd, tOr, tNot, tSl, tPart, tNoPart, tM1, tM0, tBM, tBM0, tLcE, tForE, iRng1, iRng2, iTup, iList, iStr, tYes, wipe, startDef, cxK, noxK, exists_and_left, exists_eq_left', exists_eq_left, exists_eq_right, Option.some.injEq, V.int.injEq, V.ref.injEq, V.str.injEq, V.bl.injEq, List.cons.injEq, and_true, true_and, List.append_nil, List.map_cons, List.map_nil, List.length_cons, List.length_nil, List.replicate, List.nil_append, List.cons_append, List.set_cons_zero, List.set_cons_succ, List.getElem?_cons_zero, List.getElem?_cons_succ, decide_eq_true_eq, exists_const, Nat.reduceAdd, Nat.reduceSub, List.replicate_succ, List.replicate_zero, exists_prop, and_assoc, List.set_nil, rLenK, rTupK, rLstK, rReprK, rEqD, rNeD, rIn, rAll, rAppend, rCat, ↓reduceIte, Bool.false_eq_true, iEnumT, rSortedPO, rIsi, rRep, rReverse, tLstRg, tTupRg, tRg1, tRg2, rSlL, rSlT, rSortedI, rSlF, rCatF, rMax, tLc2E, rSortedL, rSortedT, gUnl, tPar, rReprX, tChain, tDNewK, tDisp, tPairs, tAndV, tNotV, tFd, sFd, tMeth, tMake, tMakeK, gStar, iZipM, iItems, tLock, tSpread, tDcE, tDGet, sDPut, tPar3, tNever, rIxD, tChain, iEnum, tDIn, tDNotIn, gHd]
            rw [show (Str.ofString "abcdefghijklmnopqrstuvwxyz") = abc from rfl]
            refine ⟨c, rfl, ?_⟩
            refine go _ _ (.bool (decide (c ∈ abc.cps.toList))) (St.refl potN) (by simp [flatT]) (.bl _) ?_
            rw [take_succ_map _ _ (cps_get hi), List.map_append]
            rfl
          · rintro D acc ds H1 hD sD hl fl al rfl
            rw [List.take_of_length_le (by rw [cps_size]; exact Nat.le_refl _)] at al
            have ea := dps_bools_inv al
            subst ea
            refine ⟨D, rfl, _, SqL.of hl, ?_⟩
            have e : ((z.cps.toList.map fun c => decide (c ∈ abc.cps.toList)).all id) = nameB (.str z) := by
              rw [nameB_str]
              rw [decide_eq_true ⟨h1, h2⟩, Bool.true_and, List.all_map]
              rfl
            rw [e]
            exact k _ sD.toSame
        · rw [if_pos (by omega)]
          have e : nameB (.str z) = false := by
            rw [nameB_str]
            rw [decide_eq_false (fun q => h2 q.2), Bool.false_and]
          rw [← e]
          exact k _ (Same.refl _)
      · rw [if_pos (by omega)]
        have e : nameB (.str z) = false := by
          rw [nameB_str]
          rw [decide_eq_false (fun q => h1 q.1), Bool.false_and]
        rw [← e]
        exact k _ (Same.refl _)
    · refine ⟨.type "int", .type "str", .ty "str", .base (.int i), false, kit_ty (by decide +kernel), ?_⟩
      rw [if_pos (by decide)]
      exact k _ (Same.refl _)
    · refine ⟨.type "bool", .type "str", .ty "str", .base (.bl b), false, kit_ty (by decide +kernel), ?_⟩
      rw [if_pos (by decide)]
      exact k _ (Same.refl _)
    · have e : nameB v = false := by
        cases v <;> first | rfl | exact absurd rfl (n1 _)
      refine ⟨_, .type "str", .ty "str", ty, false, kit_ty k1, ?_⟩
      rw [if_pos (by decide), ← e]
      exact k _ (Same.refl _)
abbrev s_lis_amount : Stmt := topS 31
theorem sc_lis_amount : FnScope ["_law_one"] ["_law_one"] (defScope s_lis_amount) := ⟨rfl, rfl, rfl, by decide +kernel, rfl, by decide +kernel, by decide +kernel⟩

theorem ok_lis_amount {f : Addr} {fd : FuncData} (F : Fun K "_law_is_amount" "_law_is_amount" s_lis_amount f fd) (M : Blt mg) : FnOk P w K mg base CX0 1 f fd ["_law_one"] (spAmt K) := by
  refine F.ok sc_lis_amount (fun vs H Q E h => ?_) (fun cdv A outer s H vs Q E hr h => ?_)
  · obtain ⟨v, rfl, _⟩ := h
    rfl
  · obtain ⟨v, rfl, hv, k⟩ := h
    refine ⟨_, (pss_one (ps_ret (pe_and (pe_callB (k_isi (K := K) rfl) (by rfl) M.isinstance (by decide +kernel) (pa_cons (pv 0) (pa_cons (pe_bltn (v := .ty "int") (by rfl) M.int (by decide +kernel) rfl) pa_nil))) (pe_and (pe_not (pe_callB (k_isi (K := K) rfl) (by rfl) M.isinstance (by decide +kernel) (pa_cons (pv 0) (pa_cons (pe_bltn (v := .ty "bool") (by rfl) M.bool (by decide +kernel) rfl) pa_nil)))) (pe_one (pe_cmpR op_ge (pv 0) pe_int (nomark _))))))), ?_⟩
    simp only [tSeq, tIfS, tTest, tOp, tUn, tVar, tC, rI, rI0, rU, rEq, rNe, rIxL, rIxT, rIxS, tCB, tCons, tNil, tRet, tRetN, tAsg, gTup, gCons, gNil, gName, gSub, rSetL, tNext, tDrop, tLst, tTup, tCall, tIf, tB, tAnd, tOr, tNot, tSl, tPart, tNoPart, tM1, tM0, tBM, tBM0, tLcE, tForE, iRng1, iRng2, iTup, iList, iStr, tYes, wipe, startDef, cxK, noxK, exists_and_left, exists_eq_left', exists_eq_left, exists_eq_right, Option.some.injEq, V.int.injEq, V.ref.injEq, V.str.injEq, V.bl.injEq, List.cons.injEq, and_true, true_and, List.append_nil, List.map_cons, List.map_nil, List.length_cons, List.length_nil, List.replicate, List.nil_append, List.cons_append, List.set_cons_zero, List.set_cons_succ, List.getElem?_cons_zero, List.getElem?_cons_succ, decide_eq_true_eq, exists_const, Nat.reduceAdd, Nat.reduceSub, List.replicate_succ, List.replicate_zero, exists_prop, and_assoc, List.set_nil, rLenK, rTupK, rLstK, rReprK, rEqD, rNeD, rIn, rAll, rAppend, rCat, ↓reduceIte, Bool.false_eq_true, iEnumT, rSortedPO, rIsi, rRep, rReverse, tLstRg, tTupRg, tRg1, tRg2, rSlL, rSlT, rSortedI, rSlF, rCatF, rMax, tLc2E, rSortedL, rSortedT, gUnl, tPar, rReprX, tChain, tDNewK, tDisp, tPairs, tAndV, tNotV, tFd, sFd, tMeth, tMake, tMakeK, gStar, iZipM, iItems, tLock, tSpread, tDcE, tDGet, sDPut, tPar3, tNever, rIxD, tChain, iEnum, tDIn, tDNotIn, gHd]
    rcases hv with ⟨z, rfl, _⟩ | ⟨i, rfl⟩ | ⟨b, rfl⟩ | ⟨t, ty, k1, k2, k3, n1, n2⟩
    · refine ⟨.type "str", .type "int", .ty "int", .base (.str z), false, kit_ty (by decide +kernel), ?_⟩
      rw [if_neg (by decide)]
      exact k
    · refine ⟨.type "int", .type "int", .ty "int", .base (.int i), true, kit_ty (by decide +kernel), ?_⟩
      rw [if_pos rfl]
      refine ⟨.type "int", .type "bool", .ty "bool", .base (.int i), false, kit_ty (by decide +kernel), ?_⟩
      rw [if_pos (by decide)]
      refine ⟨i, rfl, ?_⟩
      exact k
    · refine ⟨.type "bool", .type "int", .ty "int", .base (.bl b), true, kit_ty (by decide +kernel), ?_⟩
      rw [if_pos rfl]
      refine ⟨.type "bool", .type "bool", .ty "bool", .base (.bl b), true, kit_ty (by decide +kernel), ?_⟩
      rw [if_neg (by decide)]
      exact k
    · have e : amtB v = false := by
        cases v <;> first | rfl | exact absurd rfl (n2 _)
      refine ⟨_, .type "int", .ty "int", ty, false, kit_ty k2, ?_⟩
      rw [if_neg (by decide), ← e]
      exact k
def menu : Nat → List Str
  | 1 => ["scrape"]
  | 2 => ["wait", "rub"]
  | 3 => ["wash", "warm"]
  | 4 => ["lay"]
  | _ => []
def kOf : Nat → List Str
  | 2 => ["amount"]
  | 3 => ["ink", "amount"]
  | 4 => ["ink", "tag", "amount"]
  | _ => []
theorem kinds_menu {z : Str} {ks : List Str} (h : kindsOf z = some ks) : z ∈ menu (ks.length + 1) ∧ ks = kOf (ks.length + 1) := by
  unfold kindsOf at h
  repeat' split at h
  all_goals first | (cases h; subst_vars; exact ⟨by decide +kernel, rfl⟩) | cases h
theorem menu_kinds {z : Str} {n : Nat} (h : z ∈ menu n) : kindsOf z = some (kOf n) ∧ (kOf n).length + 1 = n := by
  match n, h with
  | 1, h => rw [List.mem_singleton.mp h]; exact ⟨by decide +kernel, rfl⟩
  | 2, h =>
    rcases List.mem_cons.mp h with e | h
    · rw [e]; exact ⟨by decide +kernel, rfl⟩
    · rw [List.mem_singleton.mp h]; exact ⟨by decide +kernel, rfl⟩
  | 3, h =>
    rcases List.mem_cons.mp h with e | h
    · rw [e]; exact ⟨by decide +kernel, rfl⟩
    · rw [List.mem_singleton.mp h]; exact ⟨by decide +kernel, rfl⟩
  | 4, h => rw [List.mem_singleton.mp h]; exact ⟨by decide +kernel, rfl⟩
  | 0, h => cases h
  | n + 5, h => cases h
/-- dB by the menu -/
theorem dB_menu (inks : List Lay) (z : Str) (r : List V) : dB inks (.str z :: r) = (decide (z ∈ menu (r.length + 1)) && pairB inks (kOf (r.length + 1)) r) := by
  rw [dB_str]
  by_cases m : z ∈ menu (r.length + 1)
  · obtain ⟨e, l⟩ := menu_kinds m
    rw [e, decide_eq_true m, Bool.true_and]
    show (decide (r.length = (kOf (r.length + 1)).length) && _) = _
    rw [decide_eq_true (by omega), Bool.true_and]
  · rw [decide_eq_false m, Bool.false_and]
    cases e : kindsOf z with
    | none => rfl
    | some ks =>
      show (decide (r.length = ks.length) && _) = false
      rw [decide_eq_false (fun q => m (by rw [q]; exact (kinds_menu e).1)), Bool.false_and]
theorem kindB_amt (inks : List Lay) (v : V) : kindB inks "amount" v = amtB v := by
  unfold kindB
  rw [if_neg (by decide +kernel), if_neg (by decide +kernel)]
theorem kindB_tag (inks : List Lay) (v : V) : kindB inks "tag" v = nameB v := by
  unfold kindB
  rw [if_neg (by decide +kernel), if_pos rfl]
theorem kindB_ink {inks : List Lay} (iok : InksOk inks) (v : V) : kindB inks "ink" v = (strB v && decide (v ∈ (inks.map (·.1)).map V.str)) := by
  unfold kindB
  rw [if_pos rfl]
  by_cases m : v ∈ (inks.map (·.1)).map V.str
  · obtain ⟨z, mz, rfl⟩ := List.mem_map.mp m
    obtain ⟨lay, ml, rfl⟩ := List.mem_map.mp mz
    rw [nameB_tag (iok.ok lay ml).1]
    rfl
  · rw [decide_eq_false m, Bool.and_false, Bool.and_false]
theorem pair1 (inks : List Lay) (v : V) : pairB inks (kOf 2) [v] = amtB v := by
  show (kindB inks "amount" v && true) = _
  rw [kindB_amt, Bool.and_true]
theorem pair2 {inks : List Lay} (iok : InksOk inks) (i v : V) : pairB inks (kOf 3) [i, v] = ((strB i && decide (i ∈ (inks.map (·.1)).map V.str)) && amtB v) := by
  show (kindB inks "ink" i && (kindB inks "amount" v && true)) = _
  rw [kindB_amt, Bool.and_true, kindB_ink iok]
theorem pair3 {inks : List Lay} (iok : InksOk inks) (i t v : V) : pairB inks (kOf 4) [i, t, v] = ((strB i && decide (i ∈ (inks.map (·.1)).map V.str)) && (nameB t && amtB v)) := by
  show (kindB inks "ink" i && (kindB inks "tag" t && (kindB inks "amount" v && true))) = _
  rw [kindB_amt, Bool.and_true, kindB_ink iok, kindB_tag]
structure CFits (P : Program) (w : World) (K : PySem.W.Frag) (mg : Str → Option Value) (base : Heap) : Prop where
  lis_name : Has P w K mg base "_law_is_name" 1 ["_law_one"] (spName K)
  lis_amount : Has P w K mg base "_law_is_amount" 1 ["_law_one"] (spAmt K)
abbrev s_fits : Stmt := topS 32
theorem sc_fits : FnScope ["_law_one", "_law_names"] ["_law_one", "_law_names"] (defScope s_fits) := ⟨rfl, rfl, rfl, by decide +kernel, rfl, by decide +kernel, by decide +kernel⟩

def spFits (K : PySem.W.Frag) : Sp := fun vs H Q _ => ∃ (v : V) (o : Option (List V)) (l : Addr) (inks : List Lay), vs = [v, .ref l] ∧ Tg K H v o ∧ H l = some (.lst ((inks.map (·.1)).map V.str)) ∧ InksOk inks ∧
  ∀ H', Same H H' → Q (.bl (dO inks o)) H'
theorem ok_fits {f : Addr} {fd : FuncData} (F : Fun K "_law_fits" "_law_fits" s_fits f fd) (M : Blt mg) (C : CFits P w K mg base) : FnOk P w K mg base CX0 2 f fd ["_law_one", "_law_names"] (spFits K) := by
  refine F.ok sc_fits (fun vs H Q E h => ?_) (fun cdv A outer s H vs Q E hr h => ?_)
  · obtain ⟨v, o, l, inks, rfl, _⟩ := h
    rfl
  · obtain ⟨v, o, l, inks, rfl, hT, hl, iok, k⟩ := h
    refine ⟨_, (pss_cons (ps_if (PW.pt (pw_or (pt_not (pt_val (pe_callB (k_isi (K := K) rfl) (by rfl) M.isinstance (by decide +kernel) (pa_cons (pv 0) (pa_cons (pe_bltn (v := .ty "tuple") (by rfl) M.tuple (by decide +kernel) rfl) pa_nil))))) (pw_or (pt_cmpR op_lt (pe_callB (k_len (K := K) rfl) (by rfl) M.len (by decide +kernel) (pa_cons (pv 0) pa_nil)) pe_int (nomark _)) (pw_or (pt_cmpR op_gt (pe_callB (k_len (K := K) rfl) (by rfl) M.len (by decide +kernel) (pa_cons (pv 0) pa_nil)) pe_int (nomark _)) (pw_or1 (pt_not (pt_val (pe_callB (k_isi (K := K) rfl) (by rfl) M.isinstance (by decide +kernel) (pa_cons (pe_ix (k_ixT (K := K) rfl) (pv 0) pe_int (fun _ _ => rfl)) (pa_cons (pe_bltn (v := .ty "str") (by rfl) M.str (by decide +kernel) rfl) pa_nil)))))))))) (pss_one (ps_ret pe_bl)) pss_nil)
      (pss_cons (ps_if (pt_cmpR (k_notIn (K := K) rfl) (pe_ix (k_ixT (K := K) rfl) (pv 0) pe_int (fun _ _ => rfl)) (pe_ix (k_ixL (K := K) rfl) (pe_lst (pa_cons (pe_lst pa_nil) (pa_cons (pe_lst (pa_cons pe_str pa_nil)) (pa_cons (pe_lst (pa_cons pe_str (pa_cons pe_str pa_nil))) (pa_cons (pe_lst (pa_cons pe_str (pa_cons pe_str pa_nil))) (pa_cons (pe_lst (pa_cons pe_str pa_nil)) pa_nil)))))) (pe_callB (k_len (K := K) rfl) (by rfl) M.len (by decide +kernel) (pa_cons (pv 0) pa_nil)) (fun _ _ => rfl)) (by rfl)) (pss_one (ps_ret pe_bl)) pss_nil)
      (pss_cons (ps_if (PW.pt (pw_and (pt_cmpR op_gt (pe_callB (k_len (K := K) rfl) (by rfl) M.len (by decide +kernel) (pa_cons (pv 0) pa_nil)) pe_int (nomark _)) (pw_and1 (pt_not (pt_val (callH C.lis_amount hr (by rfl) (pa_cons (pe_ix (k_ixT (K := K) rfl) (pv 0) (pe_un un_neg pe_int) (fun _ _ => rfl)) pa_nil))))))) (pss_one (ps_ret pe_bl)) pss_nil)
      (pss_cons (ps_if (PW.pt (pw_and (pt_cmpR op_gt (pe_callB (k_len (K := K) rfl) (by rfl) M.len (by decide +kernel) (pa_cons (pv 0) pa_nil)) pe_int (nomark _)) (pw_and1 (PW.pt (pw_or (pt_not (pt_val (pe_callB (k_isi (K := K) rfl) (by rfl) M.isinstance (by decide +kernel) (pa_cons (pe_ix (k_ixT (K := K) rfl) (pv 0) pe_int (fun _ _ => rfl)) (pa_cons (pe_bltn (v := .ty "str") (by rfl) M.str (by decide +kernel) rfl) pa_nil))))) (pw_or1 (pt_cmpR (k_notIn (K := K) rfl) (pe_ix (k_ixT (K := K) rfl) (pv 0) pe_int (fun _ _ => rfl)) (pv 1) (by rfl)))))))) (pss_one (ps_ret pe_bl)) pss_nil)
      (pss_one (ps_ret (pe_or (pe_cmpR op_lt (pe_callB (k_len (K := K) rfl) (by rfl) M.len (by decide +kernel) (pa_cons (pv 0) pa_nil)) pe_int (nomark _)) (pe_one (callH C.lis_name hr (by rfl) (pa_cons (pe_ix (k_ixT (K := K) rfl) (pv 0) pe_int (fun _ _ => rfl)) pa_nil)))))))))), ?_⟩
    cases o with
    | none =>
      simp only [tSeq, tIfS, tTest, tOp, tUn, tVar, tC, rI, rI0, rU, rEq, rNe, rIxL, rIxT, rIxS, tCB, tCons, tNil, tRet, tRetN, tAsg, gTup, gCons, gNil, gName, gSub, rSetL, tNext, tDrop, tLst, tTup, tCall, tIf, tB, tAnd, tOr, tNot, tSl, tPart, tNoPart, tM1, tM0, tBM, tBM0, tLcE, tForE, iRng1, iRng2, iTup, iList, iStr, tYes, wipe, startDef, cxK, noxK, exists_and_left, exists_eq_left', exists_eq_left, exists_eq_right, Option.some.injEq, V.int.injEq, V.ref.injEq, V.str.injEq, V.bl.injEq, List.cons.injEq, and_true, true_and, List.append_nil, List.map_cons, List.map_nil, List.length_cons, List.length_nil, List.replicate, List.nil_append, List.cons_append, List.set_cons_zero, List.set_cons_succ, List.getElem?_cons_zero, List.getElem?_cons_succ, decide_eq_true_eq, exists_const, Nat.reduceAdd, Nat.reduceSub, List.replicate_succ, List.replicate_zero, exists_prop, and_assoc, List.set_nil, rLenK, rTupK, rLstK, rReprK, rEqD, rNeD, rIn, rAll, rAppend, rCat, ↓reduceIte, Bool.false_eq_true, iEnumT, rSortedPO, rIsi, rRep, rReverse, tLstRg, tTupRg, tRg1, tRg2, rSlL, rSlT, rSortedI, rSlF, rCatF, rMax, tLc2E, rSortedL, rSortedT, gUnl, tPar, rReprX, tChain, tDNewK, tDisp, tPairs, tAndV, tNotV, tFd, sFd, tMeth, tMake, tMakeK, gStar, iZipM, iItems, tLock, tSpread, tDcE, tDGet, sDPut, tPar3, tNever, rIxD, tChain, iEnum, tDIn, tDNotIn, gHd]
      obtain ⟨t, ty, kt⟩ := hT
      refine ⟨.type t, .type "tuple", .ty "tuple", ty, false, kit_ty kt, ?_⟩
      rw [if_pos (by decide)]
      exact k H (Same.refl _)
    | some xs =>
      obtain ⟨a, rfl, hs, hc, h12⟩ := hT
      simp only [tSeq, tIfS, tTest, tOp, tUn, tVar, tC, rI, rI0, rU, rEq, rNe, rIxL, rIxT, rIxS, tCB, tCons, tNil, tRet, tRetN, tAsg, gTup, gCons, gNil, gName, gSub, rSetL, tNext, tDrop, tLst, tTup, tCall, tIf, tB, tAnd, tOr, tNot, tSl, tPart, tNoPart, tM1, tM0, tBM, tBM0, tLcE, tForE, iRng1, iRng2, iTup, iList, iStr, tYes, wipe, startDef, cxK, noxK, exists_and_left, exists_eq_left', exists_eq_left, exists_eq_right, Option.some.injEq, V.int.injEq, V.ref.injEq, V.str.injEq, V.bl.injEq, List.cons.injEq, and_true, true_and, List.append_nil, List.map_cons, List.map_nil, List.length_cons, List.length_nil, List.replicate, List.nil_append, List.cons_append, List.set_cons_zero, List.set_cons_succ, List.getElem?_cons_zero, List.getElem?_cons_succ, decide_eq_true_eq, exists_const, Nat.reduceAdd, Nat.reduceSub, List.replicate_succ, List.replicate_zero, exists_prop, and_assoc, List.set_nil, rLenK, rTupK, rLstK, rReprK, rEqD, rNeD, rIn, rAll, rAppend, rCat, ↓reduceIte, Bool.false_eq_true, iEnumT, rSortedPO, rIsi, rRep, rReverse, tLstRg, tTupRg, tRg1, tRg2, rSlL, rSlT, rSortedI, rSlF, rCatF, rMax, tLc2E, rSortedL, rSortedT, gUnl, tPar, rReprX, tChain, tDNewK, tDisp, tPairs, tAndV, tNotV, tFd, sFd, tMeth, tMake, tMakeK, gStar, iZipM, iItems, tLock, tSpread, tDcE, tDGet, sDPut, tPar3, tNever, rIxD, tChain, iEnum, tDIn, tDNotIn, gHd, spName, spAmt, tOrV]
      refine ⟨.type "tuple", .type "tuple", .ty "tuple", tyT hs, true, kit_ty (by decide +kernel), ?_⟩
      rw [if_neg (by decide)]
      cases xs with
      | nil =>
        refine ⟨[], .inr hs, ?_⟩
        rw [if_pos (by simp)]
        exact k H (Same.refl _)
      | cons y r =>
        refine ⟨y :: r, .inr hs, ?_⟩
        rw [if_neg (by simp; omega)]
        refine ⟨y :: r, .inr hs, ?_⟩
        have far : 3 < r.length → dB inks (y :: r) = false := fun h => by
          by_cases ys : ∃ z, y = V.str z
          · obtain ⟨z, rfl⟩ := ys
            rw [dB_menu]
            have e : menu (r.length + 1) = [] := by
              obtain ⟨n, e⟩ : ∃ n, r.length + 1 = n + 5 := ⟨r.length - 4, by omega⟩
              rw [e]
              rfl
            rw [e, decide_eq_false (fun m => nomatch m), Bool.false_and]
          · cases y <;> first | rfl | exact absurd ⟨_, rfl⟩ ys
        have k' : ∀ H', Same H H' → Q (.bl (dB inks (y :: r))) H' := k
        clear k
        by_cases h4 : 3 < r.length
        · rw [if_pos (by simp; omega)]
          rw [far h4] at k'
          exact k' H (Same.refl _)
        · rw [if_neg (by simp; omega)]
          obtain ⟨t, ty, kt⟩ := cl_ty (hc y (List.mem_cons_self ..))
          refine ⟨y :: r, hs, y, atI_nat (j := 0) rfl, .type t, .type "str", .ty "str", ty, _, kit_ty kt, ?_⟩
          by_cases ys : ∃ z, y = V.str z
          · obtain ⟨z, rfl⟩ := ys
            rw [if_neg (by simp [strB])]
            refine ⟨_, hs, V.str z, atI_nat (j := 0) rfl, by decide, fun p0 hp0 => ⟨by decide, fun p1 hp1 => ⟨by decide, fun p2 hp2 => ⟨by decide, fun p3 hp3 => ⟨by decide, fun p4 hp4 => ⟨by decide, fun p5 hp5 => ?_⟩⟩⟩⟩⟩⟩
            have s0 : Same H _ := same_new (o := .lst []) hp0
            have l0 := upd_same (H := H) (a := p0) (o := .lst [])
            generalize upd H p0 (.lst []) = H0 at s0 l0 hp1 hp2 hp3 hp4 hp5 ⊢
            have s1 := same_new (o := HO.lst [V.str "scrape"]) hp1
            have l1 := upd_same (H := H0) (a := p1) (o := .lst [V.str "scrape"])
            generalize upd H0 p1 (.lst [V.str "scrape"]) = H1 at s1 l1 hp2 hp3 hp4 hp5 ⊢
            have s2 := same_new (o := HO.lst [V.str "wait", V.str "rub"]) hp2
            have l2 := upd_same (H := H1) (a := p2) (o := .lst [V.str "wait", V.str "rub"])
            generalize upd H1 p2 (.lst [V.str "wait", V.str "rub"]) = H2 at s2 l2 hp3 hp4 hp5 ⊢
            have s3 := same_new (o := HO.lst [V.str "wash", V.str "warm"]) hp3
            have l3 := upd_same (H := H2) (a := p3) (o := .lst [V.str "wash", V.str "warm"])
            generalize upd H2 p3 (.lst [V.str "wash", V.str "warm"]) = H3 at s3 l3 hp4 hp5 ⊢
            have s4 := same_new (o := HO.lst [V.str "lay"]) hp4
            have l4 := upd_same (H := H3) (a := p4) (o := .lst [V.str "lay"])
            generalize upd H3 p4 (.lst [V.str "lay"]) = H4 at s4 l4 hp5 ⊢
            have s5 := same_new (o := HO.lst [V.ref p0, V.ref p1, V.ref p2, V.ref p3, V.ref p4]) hp5
            have l5 := upd_same (H := H4) (a := p5) (o := .lst [V.ref p0, V.ref p1, V.ref p2, V.ref p3, V.ref p4])
            generalize upd H4 p5 (.lst [V.ref p0, V.ref p1, V.ref p2, V.ref p3, V.ref p4]) = H5 at s5 l5 ⊢
            have s05 := smT s0 (smT s1 (smT s2 (smT s3 (smT s4 s5))))
            have sq5 := St.tup potN (St.ofSame potN s05) hs
            have len5 : ((V.str z :: r).length : Int) = ((r.length + 1 : Nat) : Int) := by rw [List.length_cons]
            have m5 : ∃ q, [V.ref p0, V.ref p1, V.ref p2, V.ref p3, V.ref p4][r.length + 1]? = some (V.ref q) ∧ H5 q = some (.lst ((menu (r.length + 1)).map V.str)) := by
              have b1 := s5 _ _ (s4 _ _ (s3 _ _ (s2 _ _ l1)))
              have b2 := s5 _ _ (s4 _ _ (s3 _ _ l2))
              have b3 := s5 _ _ (s4 _ _ l3)
              have b4 := s5 _ _ l4
              match r.length, h4 with
              | 0, _ => exact ⟨p1, rfl, b1⟩
              | 1, _ => exact ⟨p2, rfl, b2⟩
              | 2, _ => exact ⟨p3, rfl, b3⟩
              | 3, _ => exact ⟨p4, rfl, b4⟩
              | n + 4, h => exact absurd (show 3 < n + 4 by omega) h
            obtain ⟨q, eq, lq⟩ := m5
            refine ⟨_, .inr sq5, _, SqL.of l5, _, by rw [len5]; exact atI_nat eq, q, rfl, _, .inl (SqL.of lq), rfl, by rw [List.all_map]; exact List.all_eq_true.mpr (fun _ _ => rfl), ?_⟩
            rw [inV_strs]
            rw [dB_menu] at k'
            have hl5 := s05 _ _ hl
            have cl5 : ∀ v ∈ r, Cl K H5 v := fun v m => Cl.keep s05 (hc v (List.mem_cons_of_mem _ m))
            clear l0 l1 l2 l3 l4 l5 s0 s1 s2 s3 s4 s5 eq lq far
            by_cases m : z ∈ menu (r.length + 1)
            · rw [decide_eq_true m, if_neg (by decide)]
              rw [decide_eq_true m, Bool.true_and] at k'
              match r, h4 with
              | [], _ =>
                refine ⟨_, .inr sq5, ?_⟩
                rw [if_neg (by simp)]
                refine ⟨_, .inr sq5, ?_⟩
                rw [if_neg (by simp)]
                refine ⟨_, .inr sq5, ?_⟩
                rw [if_pos (by simp)]
                exact k' _ s05
              | [v], _ =>
                refine ⟨_, .inr sq5, ?_⟩
                rw [if_pos (by simp)]
                refine ⟨_, sq5, v, by rfl, cl5 v (by simp), ?_⟩
                rw [show pairB inks (kOf ([v].length + 1)) [v] = amtB v from pair1 inks v] at k'
                by_cases ea0 : amtB v = false
                · rw [ea0, if_pos (by decide)]
                  simp only [ea0, Bool.and_false] at k'
                  exact k' _ s05
                have ea : amtB v = true := by
                  cases e : amtB v
                  · exact absurd e ea0
                  · rfl
                rw [ea, if_neg (by decide)]
                simp only [ea, Bool.and_true] at k'
                refine ⟨_, .inr sq5, ?_⟩
                rw [if_neg (by simp)]
                refine ⟨_, .inr sq5, ?_⟩
                rw [if_pos (by simp)]
                exact k' _ s05
              | [i, v], _ =>
                refine ⟨_, .inr sq5, ?_⟩
                rw [if_pos (by simp)]
                refine ⟨_, sq5, v, by rfl, cl5 v (by simp), ?_⟩
                rw [show pairB inks (kOf ([i, v].length + 1)) [i, v] = _ from pair2 iok i v] at k'
                by_cases ea0 : amtB v = false
                · rw [ea0, if_pos (by decide)]
                  simp only [ea0, Bool.and_false] at k'
                  exact k' _ s05
                have ea : amtB v = true := by
                  cases e : amtB v
                  · exact absurd e ea0
                  · rfl
                rw [ea, if_neg (by decide)]
                simp only [ea, Bool.and_true] at k'
                refine ⟨_, .inr sq5, ?_⟩
                rw [if_pos (by simp)]
                obtain ⟨t1, ty1, kt1⟩ := cl_ty (cl5 i (by simp))
                refine ⟨_, sq5, i, atI_nat (j := 1) rfl, .type t1, .type "str", .ty "str", ty1, _, kit_ty kt1, ?_⟩
                by_cases es0 : strB i = false
                · rw [es0, if_pos (by decide)]
                  simp only [es0, Bool.false_and] at k'
                  exact k' _ s05
                have es : strB i = true := by
                  cases e : strB i
                  · exact absurd e es0
                  · rfl
                rw [es, if_neg (by decide)]
                rw [es, Bool.true_and] at k'
                obtain ⟨y, rfl⟩ := strB_of es
                refine ⟨_, sq5, _, atI_nat (j := 1) rfl, _, .inl (SqL.of hl5), rfl, by rw [List.all_map]; exact List.all_eq_true.mpr (fun _ _ => rfl), ?_⟩
                rw [show inV (V.str y) ((inks.map (·.1)).map V.str) = decide (V.str y ∈ (inks.map (·.1)).map V.str) by rw [inV_strs]; simp]
                by_cases mi0 : ¬ V.str y ∈ (inks.map (·.1)).map V.str
                · rw [decide_eq_false mi0, if_pos (by decide)]
                  simp only [decide_eq_false mi0, Bool.false_and] at k'
                  exact k' _ s05
                have mi := Classical.not_not.mp mi0
                rw [decide_eq_true mi, if_neg (by decide)]
                simp only [decide_eq_true mi, Bool.true_and] at k'
                refine ⟨_, .inr sq5, ?_⟩
                rw [if_pos (by simp)]
                exact k' _ s05
              | [i, t, v], _ =>
                refine ⟨_, .inr sq5, ?_⟩
                rw [if_pos (by simp)]
                refine ⟨_, sq5, v, by rfl, cl5 v (by simp), ?_⟩
                rw [show pairB inks (kOf ([i, t, v].length + 1)) [i, t, v] = _ from pair3 iok i t v] at k'
                by_cases ea0 : amtB v = false
                · rw [ea0, if_pos (by decide)]
                  simp only [ea0, Bool.and_false] at k'
                  exact k' _ s05
                have ea : amtB v = true := by
                  cases e : amtB v
                  · exact absurd e ea0
                  · rfl
                rw [ea, if_neg (by decide)]
                simp only [ea, Bool.and_true] at k'
                refine ⟨_, .inr sq5, ?_⟩
                rw [if_pos (by simp)]
                obtain ⟨t1, ty1, kt1⟩ := cl_ty (cl5 i (by simp))
                refine ⟨_, sq5, i, atI_nat (j := 1) rfl, .type t1, .type "str", .ty "str", ty1, _, kit_ty kt1, ?_⟩
                by_cases es0 : strB i = false
                · rw [es0, if_pos (by decide)]
                  simp only [es0, Bool.false_and] at k'
                  exact k' _ s05
                have es : strB i = true := by
                  cases e : strB i
                  · exact absurd e es0
                  · rfl
                rw [es, if_neg (by decide)]
                rw [es, Bool.true_and] at k'
                obtain ⟨y, rfl⟩ := strB_of es
                refine ⟨_, sq5, _, atI_nat (j := 1) rfl, _, .inl (SqL.of hl5), rfl, by rw [List.all_map]; exact List.all_eq_true.mpr (fun _ _ => rfl), ?_⟩
                rw [show inV (V.str y) ((inks.map (·.1)).map V.str) = decide (V.str y ∈ (inks.map (·.1)).map V.str) by rw [inV_strs]; simp]
                by_cases mi0 : ¬ V.str y ∈ (inks.map (·.1)).map V.str
                · rw [decide_eq_false mi0, if_pos (by decide)]
                  simp only [decide_eq_false mi0, Bool.false_and] at k'
                  exact k' _ s05
                have mi := Classical.not_not.mp mi0
                rw [decide_eq_true mi, if_neg (by decide)]
                simp only [decide_eq_true mi, Bool.true_and] at k'
                refine ⟨_, .inr sq5, ?_⟩
                rw [if_neg (by simp)]
                refine ⟨_, sq5, t, atI_nat (j := 2) rfl, cl5 t (by simp), fun H6 s6 => ?_⟩
                exact k' _ (smT s05 s6)
              | _ :: _ :: _ :: _ :: _, h => exact absurd (show 3 < _ + 1 + 1 + 1 + 1 by omega) h
            · rw [decide_eq_false m, if_pos (by decide)]
              rw [decide_eq_false m, Bool.false_and] at k'
              exact k' _ s05
          · rw [if_pos (by cases y <;> first | rfl | exact absurd ⟨_, rfl⟩ ys)]
            have e : dB inks (y :: r) = false := by
              cases y <;> first | rfl | exact absurd ⟨_, rfl⟩ ys
            rw [e] at k'
            exact k' H (Same.refl _)
end

/-! ### the draws of the laws on places -/
theorem join_len (cs : List Nat) : (Txt.join "" (cs.map sgn)).length = cs.length := by
  have e : Txt.join "" (cs.map sgn) = Str.join "" (cs.map sgn) := StrLaws.glued_eq_join _ _
  rw [e]
  have q := cps_join cs
  show (Str.join "" (cs.map sgn)).cps.size = _
  rw [← Array.length_toList, q]
theorem single_left {zs : List Str} (n : zs.length ≤ 20) : ∃ c r, abc.cps.toList.filter (fun c => notIn zs (sgn c)) = c :: r ∧ Letter c ∧ sgn c ∉ zs := by
  cases e : abc.cps.toList.filter (fun c => notIn zs (sgn c)) with
  | cons c r =>
    have m : c ∈ abc.cps.toList.filter (fun c => notIn zs (sgn c)) := by rw [e]; exact List.mem_cons_self ..
    obtain ⟨m1, m2⟩ := List.mem_filter.mp m
    rw [abc_cps] at m1
    obtain ⟨j, mj, rfl⟩ := List.mem_map.mp m1
    have := List.mem_range.mp mj
    refine ⟨_, r, rfl, ⟨by omega, by omega⟩, ?_⟩
    unfold notIn at m2
    rw [inV_strs] at m2
    simpa using m2
  | nil =>
    have all : ∀ x ∈ (List.range 26).map (fun c => sgn (c + 97)), x ∈ zs := fun x m => by
      obtain ⟨c, mc, rfl⟩ := List.mem_map.mp m
      have q := (List.filter_eq_nil_iff.mp e) (c + 97) (by rw [abc_cps]; exact List.mem_map.mpr ⟨c, mc, rfl⟩)
      unfold notIn at q
      rw [inV_strs] at q
      simpa using q
    have nd : ((List.range 26).map (fun c => sgn (c + 97))).Nodup := by
      refine List.Pairwise.map _ (fun a b h q => h ?_) List.nodup_range
      have : (#[a + 97] : Array Nat) = #[b + 97] := congrArg Str.cps q
      simp at this
      exact this
    have := pigeon zs _ nd all
    simp at this
    omega
section
variable {P : Program} {w : World} {K : PySem.W.Frag} {mg : Str → Option Value} {base : Heap}
abbrev s_at : Stmt := topS 19
theorem sc_at : FnScope ["_law_script", "_law_k"] ["_law_script", "_law_k"] (defScope s_at) := ⟨rfl, rfl, rfl, by decide +kernel, rfl, by decide +kernel, by decide +kernel⟩

def spAt (K : PySem.W.Frag) : Sp := fun vs H Q _ => ∃ (a : Addr) (ns : List Int) (j : Nat), vs = [.ref a, .int j] ∧ SqL K H a (ns.map V.int) ∧ ∀ c, Q (.int c) H
theorem ok_at {f : Addr} {fd : FuncData} (F : Fun K "_law_at" "_law_at" s_at f fd) (M : Blt mg) : FnOk P w K mg base CX0 1 f fd ["_law_script", "_law_k"] (spAt K) := by
  refine F.ok sc_at (fun vs H Q E h => ?_) (fun cdv A outer s H vs Q E hr h => ?_)
  · obtain ⟨a, ns, j, rfl, _⟩ := h
    rfl
  · obtain ⟨a, ns, j, rfl, hs, k⟩ := h
    refine ⟨_, (pss_cons (ps_if (pt_cmpR op_lt (pv 1) (pe_callB (k_len (K := K) rfl) (by rfl) M.len (by decide +kernel) (pa_cons (pv 0) pa_nil)) (nomark _)) (pss_one (ps_ret (pe_ix (k_ixL (K := K) rfl) (pv 0) (pv 1) (fun _ _ => rfl)))) pss_nil)
      (pss_one (ps_ret pe_int))), ?_⟩
    simp only [tSeq, tIfS, tTest, tOp, tUn, tVar, tC, rI, rI0, rU, rEq, rNe, rIxL, rIxT, rIxS, tCB, tCons, tNil, tRet, tRetN, tAsg, gTup, gCons, gNil, gName, gSub, rSetL, tNext, tDrop, tLst, tTup, tCall, tIf, tB, tAnd, tOr, tNot, tSl, tPart, tNoPart, tM1, tM0, tBM, tBM0, tLcE, tForE, iRng1, iRng2, iTup, iList, iStr, tYes, wipe, startDef, cxK, noxK, exists_and_left, exists_eq_left', exists_eq_left, exists_eq_right, Option.some.injEq, V.int.injEq, V.ref.injEq, V.str.injEq, V.bl.injEq, List.cons.injEq, and_true, true_and, List.append_nil, List.map_cons, List.map_nil, List.length_cons, List.length_nil, List.replicate, List.nil_append, List.cons_append, List.set_cons_zero, List.set_cons_succ, List.getElem?_cons_zero, List.getElem?_cons_succ, decide_eq_true_eq, exists_const, Nat.reduceAdd, Nat.reduceSub, List.replicate_succ, List.replicate_zero, exists_prop, and_assoc, List.set_nil, rLenK, rTupK, rLstK, rReprK, rEqD, rNeD, rIn, rAll, rAppend, rCat, ↓reduceIte, Bool.false_eq_true, iEnumT, rSortedPO, rIsi, rRep, rReverse, tLstRg, tTupRg, tRg1, tRg2, rSlL, rSlT, rSortedI, rSlF, rCatF, rMax, tLc2E, rSortedL, rSortedT, gUnl, tPar, rReprX, tChain, tDNewK, tDisp, tPairs, tAndV, tNotV, tFd, sFd, tMeth, tMake, tMakeK, gStar, iZipM, iItems, tLock, tSpread, tDcE, tDGet, sDPut, tPar3, tNever, rIxD, tChain, iEnum, tDIn, tDNotIn, gHd]
    refine ⟨_, .inl hs, ?_⟩
    by_cases hj : (j : Int) < ((ns.map V.int).length : Int)
    · rw [if_pos hj]
      have hj' : j < ns.length := by
        rw [List.length_map] at hj
        omega
      refine ⟨_, hs, .int ns[j], atI_nat (by rw [List.getElem?_map, List.getElem?_eq_getElem hj']; rfl), ?_⟩
      exact k _
    · rw [if_neg hj]
      exact k _
abbrev s_pot : Stmt := topS 20
theorem sc_pot : FnScope ["_law_cell"] ["_law_cell"] (defScope s_pot) := ⟨rfl, rfl, rfl, by decide +kernel, rfl, by decide +kernel, by decide +kernel⟩

def spPot : Sp := fun vs H Q _ => ∃ (c : Int), vs = [.int c] ∧ ∀ p H', H p = none → Same H H' → Pot H' p → Q (.ref p) H'
theorem ok_pot {f : Addr} {fd : FuncData} (F : Fun K "_law_pot" "_law_pot" s_pot f fd) (M : Blt mg) : FnOk P w K mg base CX0 1 f fd ["_law_cell"] spPot := by
  refine F.ok sc_pot (fun vs H Q E h => ?_) (fun cdv A outer s H vs Q E hr h => ?_)
  · obtain ⟨c, rfl, _⟩ := h
    rfl
  · obtain ⟨c, rfl, k⟩ := h
    refine ⟨_, (pss_one (ps_ret (pe_lst (pa_cons (pe_callB (call_max2 rfl) (by rfl) M.max (by decide +kernel) (pa_cons pe_int (pa_cons (pe_op op_sub (pv 0) (pe_op op_pow pe_int pe_int)) pa_nil))) (pa_cons (pe_op op_add (pe_op op_mod (pe_op op_pow (pe_op op_add (pe_op op_mod (pe_callB call_abs (by rfl) M.abs (by decide +kernel) (pa_cons (pv 0) pa_nil)) pe_int) pe_int) pe_int) pe_int) pe_int) pa_nil))))), ?_⟩
    simp only [tSeq, tIfS, tTest, tOp, tUn, tVar, tC, rI, rI0, rU, rEq, rNe, rIxL, rIxT, rIxS, tCB, tCons, tNil, tRet, tRetN, tAsg, gTup, gCons, gNil, gName, gSub, rSetL, tNext, tDrop, tLst, tTup, tCall, tIf, tB, tAnd, tOr, tNot, tSl, tPart, tNoPart, tM1, tM0, tBM, tBM0, tLcE, tForE, iRng1, iRng2, iTup, iList, iStr, tYes, wipe, startDef, cxK, noxK, exists_and_left, exists_eq_left', exists_eq_left, exists_eq_right, Option.some.injEq, V.int.injEq, V.ref.injEq, V.str.injEq, V.bl.injEq, List.cons.injEq, and_true, true_and, List.append_nil, List.map_cons, List.map_nil, List.length_cons, List.length_nil, List.replicate, List.nil_append, List.cons_append, List.set_cons_zero, List.set_cons_succ, List.getElem?_cons_zero, List.getElem?_cons_succ, decide_eq_true_eq, exists_const, Nat.reduceAdd, Nat.reduceSub, List.replicate_succ, List.replicate_zero, exists_prop, and_assoc, List.set_nil, rLenK, rTupK, rLstK, rReprK, rEqD, rNeD, rIn, rAll, rAppend, rCat, ↓reduceIte, Bool.false_eq_true, iEnumT, rSortedPO, rIsi, rRep, rReverse, tLstRg, tTupRg, tRg1, tRg2, rSlL, rSlT, rSortedI, rSlF, rCatF, rMax, tLc2E, rSortedL, rSortedT, gUnl, tPar, rReprX, tChain, tDNewK, tDisp, tPairs, tAndV, tNotV, tFd, sFd, tMeth, tMake, tMakeK, gStar, iZipM, iItems, tLock, tSpread, tDcE, tDGet, sDPut, tPar3, tNever, rIxD, tChain, iEnum, tDIn, tDNotIn, gHd]
    have m0 : 0 ≤ (if c < 0 then -c else c) % 2147483563 := Int.emod_nonneg _ (by decide)
    have m1 : (if c < 0 then -c else c) % 2147483563 < 2147483563 := Int.emod_lt_of_pos _ (by decide)
    refine ⟨⟨by decide, by decide, by decide⟩, by decide, ⟨by decide, by decide, by omega⟩, by decide, by decide, fun p hp => ?_⟩
    exact k _ _ hp (same_new hp) ⟨_, _, upd_same⟩
abbrev s_take : Stmt := topS 21
theorem sc_take : FnScope ["_law_pot_here", "_law_many", "_law_digit"] ["_law_pot_here", "_law_many"] (defScope s_take) := ⟨rfl, rfl, rfl, by decide +kernel, rfl, by decide +kernel, by decide +kernel⟩

def spTake : Sp := fun vs H Q _ => ∃ (p : Addr) (m : Int), vs = [.ref p, .int m] ∧ Pot H p ∧ 0 < m ∧ m.natAbs.log2 < 9000 ∧
  ∀ d H', 0 ≤ d → d < m → Fd.St (some p) H H' → Q (.int d) H'
theorem ok_take {f : Addr} {fd : FuncData} (F : Fun K "_law_take" "_law_take" s_take f fd) (M : Blt mg) : FnOk P w K mg base CX0 1 f fd ["_law_pot_here", "_law_many"] spTake := by
  refine F.ok sc_take (fun vs H Q E h => ?_) (fun cdv A outer s H vs Q E hr h => ?_)
  · obtain ⟨p, m, rfl, _⟩ := h
    rfl
  · obtain ⟨p, m, rfl, ⟨a, b, hp⟩, hm, hl, k⟩ := h
    have pp : Pot H p := ⟨a, b, hp⟩
    refine ⟨_, (pss_cons (ps_if (pt_cmpR op_gt (pe_ix (k_ixL (K := K) rfl) (pv 0) pe_int (fun _ _ => rfl)) pe_int (nomark _)) (pss_cons (ps_asg (pe_callB call_divmodW (by rfl) M.divmod (by decide +kernel) (pa_cons (pe_ix (k_ixL (K := K) rfl) (pv 0) pe_int (fun _ _ => rfl)) (pa_cons (pv 1) pa_nil))) (pg_tup (n := 2) (by rfl) (pgs_cons (pg_sub (pv 0) pe_int set_list) (pgs_cons (pg_name (i := 2) sc_take.nd rfl (by first | exact Or.inl rfl | exact Or.inr rfl)) pgs_nil))))
      (pss_one (ps_ret (pv 2)))) pss_nil)
      (pss_cons (ps_asg (pe_op op_mod (pe_op op_add (pe_op op_mul (pe_ix (k_ixL (K := K) rfl) (pv 0) pe_int (fun _ _ => rfl)) pe_int) pe_int) pe_int) (pg_sub (pv 0) pe_int set_list))
      (pss_one (ps_ret (pe_op op_mod (pe_op op_fdiv (pe_op op_mod (pe_op op_mul (pe_ix (k_ixL (K := K) rfl) (pv 0) pe_int (fun _ _ => rfl)) (pe_ix (k_ixL (K := K) rfl) (pv 0) pe_int (fun _ _ => rfl))) pe_int) pe_int) (pv 1)))))), ?_⟩
    simp only [tSeq, tIfS, tTest, tOp, tUn, tVar, tC, rI, rI0, rU, rEq, rNe, rIxL, rIxT, rIxS, tCB, tCons, tNil, tRet, tRetN, tAsg, gTup, gCons, gNil, gName, gSub, rSetL, tNext, tDrop, tLst, tTup, tCall, tIf, tB, tAnd, tOr, tNot, tSl, tPart, tNoPart, tM1, tM0, tBM, tBM0, tLcE, tForE, iRng1, iRng2, iTup, iList, iStr, tYes, wipe, startDef, cxK, noxK, exists_and_left, exists_eq_left', exists_eq_left, exists_eq_right, Option.some.injEq, V.int.injEq, V.ref.injEq, V.str.injEq, V.bl.injEq, List.cons.injEq, and_true, true_and, List.append_nil, List.map_cons, List.map_nil, List.length_cons, List.length_nil, List.replicate, List.nil_append, List.cons_append, List.set_cons_zero, List.set_cons_succ, List.getElem?_cons_zero, List.getElem?_cons_succ, decide_eq_true_eq, exists_const, Nat.reduceAdd, Nat.reduceSub, List.replicate_succ, List.replicate_zero, exists_prop, and_assoc, List.set_nil, rLenK, rTupK, rLstK, rReprK, rEqD, rNeD, rIn, rAll, rAppend, rCat, ↓reduceIte, Bool.false_eq_true, iEnumT, rSortedPO, rIsi, rRep, rReverse, tLstRg, tTupRg, tRg1, tRg2, rSlL, rSlT, rSortedI, rSlF, rCatF, rMax, tLc2E, rSortedL, rSortedT, gUnl, tPar, rReprX, tChain, tDNewK, tDisp, tPairs, tAndV, tNotV, tFd, sFd, tMeth, tMake, tMakeK, gStar, iZipM, iItems, tLock, tSpread, tDcE, tDGet, sDPut, tPar3, tNever, rIxD, tChain, iEnum, tDIn, tDNotIn, gHd]
    refine ⟨_, SqL.of hp, _, rfl, a, rfl, ?_⟩
    by_cases ha : 0 < a
    · rw [if_pos ha]
      refine ⟨_, SqL.of hp, _, rfl, a, rfl, ⟨hm, PyProof.noPylong_of_log2 hl⟩, fun t ht => ?_⟩
      have ne := pp.ne ht
      refine ⟨_, SqT.of upd_same, rfl, _, _, rfl, _, (upd_ne ne.symm).trans hp, 0, rfl, _, _, rfl, rfl, ?_⟩
      exact k _ _ (Int.emod_nonneg _ (by omega)) (Int.emod_lt_of_pos _ hm) (St.potSet (St.new pp.potO ht))
    · rw [if_neg ha]
      refine ⟨_, SqL.of hp, _, rfl, b, rfl, .inr (by decide), by decide, _, hp, 1, rfl, _, SqL.of upd_same, _, rfl, _, SqL.of upd_same, _, rfl, _, rfl, _, rfl, ?_⟩
      have c0 : 0 ≤ (b * 48271 + 9973) % 2147483647 := Int.emod_nonneg _ (by decide)
      have c1 : (b * 48271 + 9973) % 2147483647 < 2147483647 := Int.emod_lt_of_pos _ (by decide)
      refine ⟨.inl ⟨by omega, by omega⟩, by decide, ⟨by decide, by decide⟩, hm, ?_⟩
      exact k _ _ (Int.emod_nonneg _ (by omega)) (Int.emod_lt_of_pos _ hm) (St.potSet pp.rfl)
structure CTake (P : Program) (w : World) (K : PySem.W.Frag) (mg : Str → Option Value) (base : Heap) : Prop where
  take : Has P w K mg base "_law_take" 1 ["_law_pot_here", "_law_many"] spTake
abbrev s_word : Stmt := topS 22
theorem sc_word : FnScope ["_law_pot_here", "_law_found", "_law_letters", "_law_word_here", "_law_k", "_law_letter"] ["_law_pot_here", "_law_found"] (defScope s_word) := ⟨rfl, rfl, rfl, by decide +kernel, rfl, by decide +kernel, by decide +kernel⟩

def spWord : Sp := fun vs H Q _ => ∃ (p l : Addr) (zs : List Str), vs = [.ref p, .ref l] ∧ Pot H p ∧ H l = some (.lst (zs.map V.str)) ∧ l ≠ p ∧ zs.length ≤ 20 ∧ ∀ z H', NmOk z → z ∉ zs → Fd.St (some p) H H' → Q (.str z) H'
theorem ok_word {f : Addr} {fd : FuncData} (F : Fun K "_law_word" "_law_word" s_word f fd) (M : Blt mg) (C : CTake P w K mg base) : FnOk P w K mg base CX0 2 f fd ["_law_pot_here", "_law_found"] spWord := by
  refine F.ok sc_word (fun vs H Q E h => ?_) (fun cdv A outer s H vs Q E hr h => ?_)
  · obtain ⟨p, l, zs, rfl, _⟩ := h
    rfl
  · obtain ⟨p, l, zs, rfl, pp, hl, nlp, z20, k⟩ := h
    refine ⟨_, (pss_cons (ps_set (i := 2) sc_word.nd rfl (by first | exact Or.inl rfl | exact Or.inr rfl) pe_str)
      (pss_cons (ps_set (i := 3) sc_word.nd rfl (by first | exact Or.inl rfl | exact Or.inr rfl) (pe_join pe_str (pe_lc (own := [("_law_k", 4)]) (g := gName 4) (tt := tYes) rfl sc_word.nd (pi_range1 (by rfl) M.range (pa_cons (pe_op op_add pe_int (callH C.take hr (by rfl) (pa_cons (pv 0) (pa_cons pe_int pa_nil)))) pa_nil)) (blkOk_by (own := [("_law_k", 4)]) (N := ["_law_pot_here", "_law_found", "_law_letters", "_law_word_here", "_law_k", "_law_letter"]) (sc := defScope s_word) (by decide +kernel)) (fun _ _ _ _ _ => (pg_name (i := 4) sc_word.nd rfl (by first | exact Or.inl rfl | exact Or.inr rfl))) (fun _ _ _ _ _ => pts_nil) (fun _ _ _ _ _ => (pe_ix ix_str (pv 2) (callH C.take hr (by rfl) (pa_cons (pv 0) (pa_cons pe_int pa_nil))) (fun _ _ => rfl))))))
      (pss_cons (ps_if (pt_cmpR (k_in (K := K) rfl) (pv 3) (pv 1) (by rfl)) (pss_one (ps_set (i := 3) sc_word.nd rfl (by first | exact Or.inl rfl | exact Or.inr rfl) (pe_ix (k_ixL (K := K) rfl) (pe_lc (own := [("_law_letter", 5)]) (g := gName 5)  rfl sc_word.nd (pi_str (pv 2)) (blkOk_by (own := [("_law_letter", 5)]) (N := ["_law_pot_here", "_law_found", "_law_letters", "_law_word_here", "_law_k", "_law_letter"]) (sc := defScope s_word) (by decide +kernel)) (fun _ _ _ _ _ => (pg_name (i := 5) sc_word.nd rfl (by first | exact Or.inl rfl | exact Or.inr rfl))) (fun _ _ _ _ _ => (pts_one (pt_cmpR (k_notIn (K := K) rfl) (pv 5) (pv 1) (by rfl)))) (fun _ _ _ _ _ => (pv 5))) pe_int (fun _ _ => rfl)))) pss_nil)
      (pss_one (ps_ret (pv 3)))))), ?_⟩
    simp only [tSeq, tIfS, tTest, tOp, tUn, tVar, tC, rI, rI0, rU, rEq, rNe, rIxL, rIxT, rIxS, tCB, tCons, tNil, tRet, tRetN, tAsg, gTup, gCons, gNil, gName, gSub, rSetL, tNext, tDrop, tLst, tTup, tCall, tIf, tB, tAnd, tOr, tNot, tSl, tPart, tNoPart, tM1, tM0, tBM, tBM0, tLcE, tForE, iRng1, iRng2, iTup, iList, iStr, tYes, wipe, startDef, cxK, noxK, exists_and_left, exists_eq_left', exists_eq_left, exists_eq_right, Option.some.injEq, V.int.injEq, V.ref.injEq, V.str.injEq, V.bl.injEq, List.cons.injEq, and_true, true_and, List.append_nil, List.map_cons, List.map_nil, List.length_cons, List.length_nil, List.replicate, List.nil_append, List.cons_append, List.set_cons_zero, List.set_cons_succ, List.getElem?_cons_zero, List.getElem?_cons_succ, decide_eq_true_eq, exists_const, Nat.reduceAdd, Nat.reduceSub, List.replicate_succ, List.replicate_zero, exists_prop, and_assoc, List.set_nil, rLenK, rTupK, rLstK, rReprK, rEqD, rNeD, rIn, rAll, rAppend, rCat, ↓reduceIte, Bool.false_eq_true, iEnumT, rSortedPO, rIsi, rRep, rReverse, tLstRg, tTupRg, tRg1, tRg2, rSlL, rSlT, rSortedI, rSlF, rCatF, rMax, tLc2E, rSortedL, rSortedT, gUnl, tPar, rReprX, tChain, tDNewK, tDisp, tPairs, tAndV, tNotV, tFd, sFd, tMeth, tMake, tMakeK, gStar, iZipM, iItems, tLock, tSpread, tDcE, tDGet, sDPut, tPar3, tNever, rIxD, tChain, iEnum, tDIn, tDNotIn, gHd, spTake]
    refine ⟨⟨_, rfl⟩, ?_⟩
    refine ⟨pp, by decide, by decide, fun d H1 d0 d1 s1 => ⟨by omega, by omega, ?_⟩⟩
    have hl1 := s1.same l _ (fun z => nlp (Option.some.inj z)) hl
    refine lcRng (K := K) (some p) (fun i ds => ∃ cs : List Nat, ds = cs.map (fun c => PyData.str (sgn c)) ∧ cs.length = i ∧ ∀ c ∈ cs, Letter c) s1.pot (by omega) ⟨[], rfl, rfl, fun _ h => nomatch h⟩ (fun _ => rfl) ?_ ?_
    · rintro i Ha ds C hi sa fl ⟨cs, rfl, hl, hc⟩ go
      simp only [tSeq, tIfS, tTest, tOp, tUn, tVar, tC, rI, rI0, rU, rEq, rNe, rIxL, rIxT, rIxS, tCB, tCons, tNil, tRet, tRetN, tAsg, gTup, gCons, gNil, gName, gSub, rSetL, tNext, tDrop, tLst, tTup, tCall, tIf, tB, tAnd, tOr, tNot, tSl, tPart, tNoPart, tM1, tM0, tBM, tBM0, tLcE, tForE, iRng1, iRng2, iTup, iList, iStr, tYes, wipe, startDef, cxK, noxK, exists_and_left, exists_eq_left', exists_eq_left, exists_eq_right, Option.some.injEq, V.int.injEq, V.ref.injEq, V.str.injEq, V.bl.injEq, List.cons.injEq, and_true, true_and, List.append_nil, List.map_cons, List.map_nil, List.length_cons, List.length_nil, List.replicate, List.nil_append, List.cons_append, List.set_cons_zero, List.set_cons_succ, List.getElem?_cons_zero, List.getElem?_cons_succ, decide_eq_true_eq, exists_const, Nat.reduceAdd, Nat.reduceSub, List.replicate_succ, List.replicate_zero, exists_prop, and_assoc, List.set_nil, rLenK, rTupK, rLstK, rReprK, rEqD, rNeD, rIn, rAll, rAppend, rCat, ↓reduceIte, Bool.false_eq_true, iEnumT, rSortedPO, rIsi, rRep, rReverse, tLstRg, tTupRg, tRg1, tRg2, rSlL, rSlT, rSortedI, rSlF, rCatF, rMax, tLc2E, rSortedL, rSortedT, gUnl, tPar, rReprX, tChain, tDNewK, tDisp, tPairs, tAndV, tNotV, tFd, sFd, tMeth, tMake, tMakeK, gStar, iZipM, iItems, tLock, tSpread, tDcE, tDGet, sDPut, tPar3, tNever, rIxD, tChain, iEnum, tDIn, tDNotIn, gHd, spTake]
      refine ⟨sa.pt, by decide, by decide, fun e H2 e0 e1 s2 => ?_⟩
      obtain ⟨n, rfl⟩ : ∃ n : Nat, e = (n : Int) := ⟨e.toNat, by omega⟩
      have hn : n < 26 := by omega
      refine ⟨by decide +kernel, n + 97, atI_nat (abc_at hn), ?_⟩
      exact go _ _ (.str (sgn (n + 97))) s2 (by simp [flatT]) (.str _) ⟨cs ++ [n + 97], by simp, by simp [hl], fun c m => by
        rcases List.mem_append.mp m with m | m
        · exact hc c m
        · rw [List.mem_singleton.mp m]
          exact ⟨by omega, by omega⟩⟩
    · rintro D acc ds H' hD sD hD2 fl al ⟨cs, rfl, hn, hc⟩
      have e : acc = (cs.map sgn).map V.str := dps_strs_inv (by rw [List.map_map]; exact al)
      subst e
      simp only [tSeq, tIfS, tTest, tOp, tUn, tVar, tC, rI, rI0, rU, rEq, rNe, rIxL, rIxT, rIxS, tCB, tCons, tNil, tRet, tRetN, tAsg, gTup, gCons, gNil, gName, gSub, rSetL, tNext, tDrop, tLst, tTup, tCall, tIf, tB, tAnd, tOr, tNot, tSl, tPart, tNoPart, tM1, tM0, tBM, tBM0, tLcE, tForE, iRng1, iRng2, iTup, iList, iStr, tYes, wipe, startDef, cxK, noxK, exists_and_left, exists_eq_left', exists_eq_left, exists_eq_right, Option.some.injEq, V.int.injEq, V.ref.injEq, V.str.injEq, V.bl.injEq, List.cons.injEq, and_true, true_and, List.append_nil, List.map_cons, List.map_nil, List.length_cons, List.length_nil, List.replicate, List.nil_append, List.cons_append, List.set_cons_zero, List.set_cons_succ, List.getElem?_cons_zero, List.getElem?_cons_succ, decide_eq_true_eq, exists_const, Nat.reduceAdd, Nat.reduceSub, List.replicate_succ, List.replicate_zero, exists_prop, and_assoc, List.set_nil, rLenK, rTupK, rLstK, rReprK, rEqD, rNeD, rIn, rAll, rAppend, rCat, ↓reduceIte, Bool.false_eq_true, iEnumT, rSortedPO, rIsi, rRep, rReverse, tLstRg, tTupRg, tRg1, tRg2, rSlL, rSlT, rSortedI, rSlF, rCatF, rMax, tLc2E, rSortedL, rSortedT, gUnl, tPar, rReprX, tChain, tDNewK, tDisp, tPairs, tAndV, tNotV, tFd, sFd, tMeth, tMake, tMakeK, gStar, iZipM, iItems, tLock, tSpread, tDcE, tDGet, sDPut, tPar3, tNever, rIxD, tChain, iEnum, tDIn, tDNotIn, gHd]
      have nn : cs.length ≤ 8 ∧ 1 ≤ cs.length := by omega
      have hlH := sD.same l _ (fun z => nlp (Option.some.inj z)) hl1
      have sH := s1.trans sD
      have nm : NmOk (Txt.join "" (cs.map sgn)) := ⟨tag_join nn.1 hc, by rw [join_len]; exact nn.2⟩
      have fz : (zs.map V.str).all flatV = true := by simp [flatV]
      refine ⟨cs.map sgn, .inl (SqL.of hD2), ?_, zs.map V.str, .inl (SqL.of hlH), by rfl, fz, ?_⟩
      · show ((cs.map sgn).map (·.length)).sum + _ ≤ _
        rw [sgns_sum]
        have : (Str.ofString "").length = 0 := by decide
        rw [this]
        omega
      rw [inV_strs]
      by_cases mz : Txt.join "" (cs.map sgn) ∈ zs
      · rw [if_pos (decide_eq_true mz)]
        refine lcStrT (K := K) (some p) (fun i ds => ds = (((abc.cps.toList.take i).filter fun c => notIn zs (sgn c)).map sgn).map PyData.str) sD.pot (by show abc.length ≤ _; rw [abc_len]; decide) rfl (fun _ => rfl) ?_ ?_
        · rintro i c Ha ds C N hi sa fl rfl go skip
          have la := sa.same l _ (fun z => nlp (Option.some.inj z)) hlH
          have hi' : abc.cps.toList[i]? = some c := cps_get hi
          simp only [tSeq, tIfS, tTest, tOp, tUn, tVar, tC, rI, rI0, rU, rEq, rNe, rIxL, rIxT, rIxS, tCB, tCons, tNil, tRet, tRetN, tAsg, gTup, gCons, gNil, gName, gSub, rSetL, tNext, tDrop, tLst, tTup, tCall, tIf, tB, tAnd, tOr, tNot, tSl, tPart, tNoPart, tM1, tM0, tBM, tBM0, tLcE, tForE, iRng1, iRng2, iTup, iList, iStr, tYes, wipe, startDef, cxK, noxK, exists_and_left, exists_eq_left', exists_eq_left, exists_eq_right, Option.some.injEq, V.int.injEq, V.ref.injEq, V.str.injEq, V.bl.injEq, List.cons.injEq, and_true, true_and, List.append_nil, List.map_cons, List.map_nil, List.length_cons, List.length_nil, List.replicate, List.nil_append, List.cons_append, List.set_cons_zero, List.set_cons_succ, List.getElem?_cons_zero, List.getElem?_cons_succ, decide_eq_true_eq, exists_const, Nat.reduceAdd, Nat.reduceSub, List.replicate_succ, List.replicate_zero, exists_prop, and_assoc, List.set_nil, rLenK, rTupK, rLstK, rReprK, rEqD, rNeD, rIn, rAll, rAppend, rCat, ↓reduceIte, Bool.false_eq_true, iEnumT, rSortedPO, rIsi, rRep, rReverse, tLstRg, tTupRg, tRg1, tRg2, rSlL, rSlT, rSortedI, rSlF, rCatF, rMax, tLc2E, rSortedL, rSortedT, gUnl, tPar, rReprX, tChain, tDNewK, tDisp, tPairs, tAndV, tNotV, tFd, sFd, tMeth, tMake, tMakeK, gStar, iZipM, iItems, tLock, tSpread, tDcE, tDGet, sDPut, tPar3, tNever, rIxD, tChain, iEnum, tDIn, tDNotIn, gHd]
          refine ⟨_, .inl (SqL.of la), by rfl, fz, ?_⟩
          cases e : notIn zs (sgn c) with
          | true =>
            have e' : (!inV (V.str (sgn c)) (zs.map V.str)) = true := e
            rw [e', if_pos rfl]
            refine go _ _ (.str (sgn c)) (St.refl sa.pot) (by simp [flatT]) (.str _) ?_
            rw [take_succ_filter _ _ hi', if_pos e, List.map_append, List.map_append]
            rfl
          | false =>
            have e' : (!inV (V.str (sgn c)) (zs.map V.str)) = false := e
            rw [e', if_neg Bool.false_ne_true]
            refine skip _ (St.refl sa.pot) ?_
            rw [take_succ_filter _ _ hi', if_neg (by rw [e]; decide), List.append_nil]
        · rintro D2 acc2 ds2 H2 hD2' sD2 hl2 fl2 al2 rfl
          rw [List.take_of_length_le (by rw [cps_size]; exact Nat.le_refl _)] at al2
          have e := dps_strs_inv al2
          subst e
          obtain ⟨c, r, ec, lc, nc⟩ := single_left (zs := zs) z20
          rw [ec] at hl2
          simp only [tSeq, tIfS, tTest, tOp, tUn, tVar, tC, rI, rI0, rU, rEq, rNe, rIxL, rIxT, rIxS, tCB, tCons, tNil, tRet, tRetN, tAsg, gTup, gCons, gNil, gName, gSub, rSetL, tNext, tDrop, tLst, tTup, tCall, tIf, tB, tAnd, tOr, tNot, tSl, tPart, tNoPart, tM1, tM0, tBM, tBM0, tLcE, tForE, iRng1, iRng2, iTup, iList, iStr, tYes, wipe, startDef, cxK, noxK, exists_and_left, exists_eq_left', exists_eq_left, exists_eq_right, Option.some.injEq, V.int.injEq, V.ref.injEq, V.str.injEq, V.bl.injEq, List.cons.injEq, and_true, true_and, List.append_nil, List.map_cons, List.map_nil, List.length_cons, List.length_nil, List.replicate, List.nil_append, List.cons_append, List.set_cons_zero, List.set_cons_succ, List.getElem?_cons_zero, List.getElem?_cons_succ, decide_eq_true_eq, exists_const, Nat.reduceAdd, Nat.reduceSub, List.replicate_succ, List.replicate_zero, exists_prop, and_assoc, List.set_nil, rLenK, rTupK, rLstK, rReprK, rEqD, rNeD, rIn, rAll, rAppend, rCat, ↓reduceIte, Bool.false_eq_true, iEnumT, rSortedPO, rIsi, rRep, rReverse, tLstRg, tTupRg, tRg1, tRg2, rSlL, rSlT, rSortedI, rSlF, rCatF, rMax, tLc2E, rSortedL, rSortedT, gUnl, tPar, rReprX, tChain, tDNewK, tDisp, tPairs, tAndV, tNotV, tFd, sFd, tMeth, tMake, tMakeK, gStar, iZipM, iItems, tLock, tSpread, tDcE, tDGet, sDPut, tPar3, tNever, rIxD, tChain, iEnum, tDIn, tDNotIn, gHd]
          refine ⟨_, SqL.of hl2, _, atI_nat (j := 0) rfl, ?_⟩
          exact k _ _ ⟨⟨by show 1 ≤ 8; decide, fun x mx => by rw [show x = c by simpa using mx]; exact lc⟩, by show 1 ≤ 1; decide⟩ nc (sH.trans sD2)
      · rw [if_neg (by rw [decide_eq_false mz]; decide)]
        exact k _ _ nm mz sH
structure CWord (P : Program) (w : World) (K : PySem.W.Frag) (mg : Str → Option Value) (base : Heap) : Prop where
  word : Has P w K mg base "_law_word" 2 ["_law_pot_here", "_law_found"] spWord
abbrev s_words : Stmt := topS 23
theorem sc_words : FnScope ["_law_pot_here", "_law_many", "_law_found", "_law_k"] ["_law_pot_here", "_law_many"] (defScope s_words) := ⟨rfl, rfl, rfl, by decide +kernel, rfl, by decide +kernel, by decide +kernel⟩

def spWords : Sp := fun vs H Q _ => ∃ (p : Addr) (m : Nat), vs = [.ref p, .int m] ∧ Pot H p ∧ m ≤ 8 ∧
  ∀ l (zs : List Str) H', zs.length = m → (∀ z ∈ zs, NmOk z) → zs.Nodup → H l = none → H' l = some (.lst (zs.map V.str)) → Fd.St (some p) H H' → Q (.ref l) H'
theorem ok_words {f : Addr} {fd : FuncData} (F : Fun K "_law_words" "_law_words" s_words f fd) (M : Blt mg) (C : CWord P w K mg base) : FnOk P w K mg base CX0 3 f fd ["_law_pot_here", "_law_many"] spWords := by
  refine F.ok sc_words (fun vs H Q E h => ?_) (fun cdv A outer s H vs Q E hr h => ?_)
  · obtain ⟨p, m, rfl, _⟩ := h
    rfl
  · obtain ⟨p, m, rfl, pp, hm, k⟩ := h
    refine ⟨_, (pss_cons (ps_set (i := 2) sc_words.nd rfl (by first | exact Or.inl rfl | exact Or.inr rfl) (pe_lst pa_nil))
      (pss_cons (ps_for PassesOwn.never rfl (pi_range1 (by rfl) M.range (pa_cons (pv 1) pa_nil)) (pg_name (i := 3) sc_words.nd rfl (by first | exact Or.inl rfl | exact Or.inr rfl)) (pss_one (ps_expr (pe_bm PySem.F.plainAttrs_list PySem.F.slot_list_append PySem.F.type_list_append mt_append (pv 2) (pa_cons (callH C.word hr (by rfl) (pa_cons (pv 0) (pa_cons (pv 2) pa_nil))) pa_nil)))))
      (pss_one (ps_ret (pv 2))))), ?_⟩
    simp only [tSeq, tIfS, tTest, tOp, tUn, tVar, tC, rI, rI0, rU, rEq, rNe, rIxL, rIxT, rIxS, tCB, tCons, tNil, tRet, tRetN, tAsg, gTup, gCons, gNil, gName, gSub, rSetL, tNext, tDrop, tLst, tTup, tCall, tIf, tB, tAnd, tOr, tNot, tSl, tPart, tNoPart, tM1, tM0, tBM, tBM0, tLcE, tForE, iRng1, iRng2, iTup, iList, iStr, tYes, wipe, startDef, cxK, noxK, exists_and_left, exists_eq_left', exists_eq_left, exists_eq_right, Option.some.injEq, V.int.injEq, V.ref.injEq, V.str.injEq, V.bl.injEq, List.cons.injEq, and_true, true_and, List.append_nil, List.map_cons, List.map_nil, List.length_cons, List.length_nil, List.replicate, List.nil_append, List.cons_append, List.set_cons_zero, List.set_cons_succ, List.getElem?_cons_zero, List.getElem?_cons_succ, decide_eq_true_eq, exists_const, Nat.reduceAdd, Nat.reduceSub, List.replicate_succ, List.replicate_zero, exists_prop, and_assoc, List.set_nil, rLenK, rTupK, rLstK, rReprK, rEqD, rNeD, rIn, rAll, rAppend, rCat, ↓reduceIte, Bool.false_eq_true, iEnumT, rSortedPO, rIsi, rRep, rReverse, tLstRg, tTupRg, tRg1, tRg2, rSlL, rSlT, rSortedI, rSlF, rCatF, rMax, tLc2E, rSortedL, rSortedT, gUnl, tPar, rReprX, tChain, tDNewK, tDisp, tPairs, tAndV, tNotV, tFd, sFd, tMeth, tMake, tMakeK, gStar, iZipM, iItems, tLock, tSpread, tDcE, tDGet, sDPut, tPar3, tNever, rIxD, tChain, iEnum, tDIn, tDNotIn, gHd, spWord]
    refine ⟨by decide, fun l hl => ⟨by omega, by omega, ?_⟩⟩
    have nlp : some l ≠ some p := pp.potO.ne hl
    refine forRng (fun i σ H' => ∃ (zs : List Str) (a3 : Option V), σ = [some (.ref p), some (.int m), some (.ref l), a3] ∧ Fd.St (some p) H H' ∧
      H' l = some (.lst (zs.map V.str)) ∧ zs.length = i ∧ zs.Nodup ∧ ∀ z ∈ zs, NmOk z) ⟨[], none, rfl, St.new pp.potO hl, upd_same, rfl, List.nodup_nil, fun _ h => nomatch h⟩ ?_ ?_
    · rintro i σ Ha hi ⟨zs, a3, rfl, sa, la, hn, nd, zt⟩
      simp only [tSeq, tIfS, tTest, tOp, tUn, tVar, tC, rI, rI0, rU, rEq, rNe, rIxL, rIxT, rIxS, tCB, tCons, tNil, tRet, tRetN, tAsg, gTup, gCons, gNil, gName, gSub, rSetL, tNext, tDrop, tLst, tTup, tCall, tIf, tB, tAnd, tOr, tNot, tSl, tPart, tNoPart, tM1, tM0, tBM, tBM0, tLcE, tForE, iRng1, iRng2, iTup, iList, iStr, tYes, wipe, startDef, cxK, noxK, exists_and_left, exists_eq_left', exists_eq_left, exists_eq_right, Option.some.injEq, V.int.injEq, V.ref.injEq, V.str.injEq, V.bl.injEq, List.cons.injEq, and_true, true_and, List.append_nil, List.map_cons, List.map_nil, List.length_cons, List.length_nil, List.replicate, List.nil_append, List.cons_append, List.set_cons_zero, List.set_cons_succ, List.getElem?_cons_zero, List.getElem?_cons_succ, decide_eq_true_eq, exists_const, Nat.reduceAdd, Nat.reduceSub, List.replicate_succ, List.replicate_zero, exists_prop, and_assoc, List.set_nil, rLenK, rTupK, rLstK, rReprK, rEqD, rNeD, rIn, rAll, rAppend, rCat, ↓reduceIte, Bool.false_eq_true, iEnumT, rSortedPO, rIsi, rRep, rReverse, tLstRg, tTupRg, tRg1, tRg2, rSlL, rSlT, rSortedI, rSlF, rCatF, rMax, tLc2E, rSortedL, rSortedT, gUnl, tPar, rReprX, tChain, tDNewK, tDisp, tPairs, tAndV, tNotV, tFd, sFd, tMeth, tMake, tMakeK, gStar, iZipM, iItems, tLock, tSpread, tDcE, tDGet, sDPut, tPar3, tNever, rIxD, tChain, iEnum, tDIn, tDNotIn, gHd, spWord]
      refine ⟨.inl ⟨rfl, _, SqL.of la⟩, sa.pt, zs, la, fun z => nlp (congrArg some z), by omega, fun z H1 nz nin s1 => ?_⟩
      have la1 := s1.same l _ nlp la
      refine ⟨_, la1, by rw [List.length_map]; have : (100 : Nat) < sizeLine := by { decide }; omega, St.put pp.potO (sa.trans s1) hl, zs ++ [z], by rw [upd_same, List.map_append]; rfl, by simp [hn], ?_, fun w m => ?_⟩
      · rw [List.nodup_append]
        exact ⟨nd, by simp, fun a ma b mb => by rw [List.mem_singleton.mp mb]; exact fun q => nin (q ▸ ma)⟩
      · rcases List.mem_append.mp m with m | m
        · exact zt w m
        · rw [List.mem_singleton.mp m]
          exact nz
    · rintro σ H' ⟨zs, a3, rfl, sa, la, hn, nd, zt⟩
      simp only [tSeq, tIfS, tTest, tOp, tUn, tVar, tC, rI, rI0, rU, rEq, rNe, rIxL, rIxT, rIxS, tCB, tCons, tNil, tRet, tRetN, tAsg, gTup, gCons, gNil, gName, gSub, rSetL, tNext, tDrop, tLst, tTup, tCall, tIf, tB, tAnd, tOr, tNot, tSl, tPart, tNoPart, tM1, tM0, tBM, tBM0, tLcE, tForE, iRng1, iRng2, iTup, iList, iStr, tYes, wipe, startDef, cxK, noxK, exists_and_left, exists_eq_left', exists_eq_left, exists_eq_right, Option.some.injEq, V.int.injEq, V.ref.injEq, V.str.injEq, V.bl.injEq, List.cons.injEq, and_true, true_and, List.append_nil, List.map_cons, List.map_nil, List.length_cons, List.length_nil, List.replicate, List.nil_append, List.cons_append, List.set_cons_zero, List.set_cons_succ, List.getElem?_cons_zero, List.getElem?_cons_succ, decide_eq_true_eq, exists_const, Nat.reduceAdd, Nat.reduceSub, List.replicate_succ, List.replicate_zero, exists_prop, and_assoc, List.set_nil, rLenK, rTupK, rLstK, rReprK, rEqD, rNeD, rIn, rAll, rAppend, rCat, ↓reduceIte, Bool.false_eq_true, iEnumT, rSortedPO, rIsi, rRep, rReverse, tLstRg, tTupRg, tRg1, tRg2, rSlL, rSlT, rSortedI, rSlF, rCatF, rMax, tLc2E, rSortedL, rSortedT, gUnl, tPar, rReprX, tChain, tDNewK, tDisp, tPairs, tAndV, tNotV, tFd, sFd, tMeth, tMake, tMakeK, gStar, iZipM, iItems, tLock, tSpread, tDcE, tDGet, sDPut, tPar3, tNever, rIxD, tChain, iEnum, tDIn, tDNotIn, gHd]
      exact k l zs H' (by omega) zt nd hl la sa
abbrev s_amount : Stmt := topS 24
theorem sc_amount : FnScope ["_law_pot_here"] ["_law_pot_here"] (defScope s_amount) := ⟨rfl, rfl, rfl, by decide +kernel, rfl, by decide +kernel, by decide +kernel⟩

def spAmount : Sp := fun vs H Q _ => ∃ p : Addr, vs = [.ref p] ∧ Pot H p ∧ ∀ z H', 1 ≤ z → z ≤ 10 ^ 59 → Fd.St (some p) H H' → Q (.int z) H'
theorem ok_amount {f : Addr} {fd : FuncData} (F : Fun K "_law_amount" "_law_amount" s_amount f fd) (M : Blt mg) (C : CTake P w K mg base) : FnOk P w K mg base CX0 2 f fd ["_law_pot_here"] spAmount := by
  refine F.ok sc_amount (fun vs H Q E h => ?_) (fun cdv A outer s H vs Q E hr h => ?_)
  · obtain ⟨p, rfl, _⟩ := h
    rfl
  · obtain ⟨p, rfl, pp, k⟩ := h
    refine ⟨_, (pss_one (ps_ret (pe_op op_add pe_int (callH C.take hr (by rfl) (pa_cons (pv 0) (pa_cons (pe_ix (k_ixL (K := K) rfl) (pe_lst (pa_cons pe_int (pa_cons pe_int (pa_cons pe_int (pa_cons (pe_op op_pow pe_int pe_int) pa_nil))))) (callH C.take hr (by rfl) (pa_cons (pv 0) (pa_cons pe_int pa_nil))) (fun _ _ => rfl)) pa_nil)))))), ?_⟩
    simp only [tSeq, tIfS, tTest, tOp, tUn, tVar, tC, rI, rI0, rU, rEq, rNe, rIxL, rIxT, rIxS, tCB, tCons, tNil, tRet, tRetN, tAsg, gTup, gCons, gNil, gName, gSub, rSetL, tNext, tDrop, tLst, tTup, tCall, tIf, tB, tAnd, tOr, tNot, tSl, tPart, tNoPart, tM1, tM0, tBM, tBM0, tLcE, tForE, iRng1, iRng2, iTup, iList, iStr, tYes, wipe, startDef, cxK, noxK, exists_and_left, exists_eq_left', exists_eq_left, exists_eq_right, Option.some.injEq, V.int.injEq, V.ref.injEq, V.str.injEq, V.bl.injEq, List.cons.injEq, and_true, true_and, List.append_nil, List.map_cons, List.map_nil, List.length_cons, List.length_nil, List.replicate, List.nil_append, List.cons_append, List.set_cons_zero, List.set_cons_succ, List.getElem?_cons_zero, List.getElem?_cons_succ, decide_eq_true_eq, exists_const, Nat.reduceAdd, Nat.reduceSub, List.replicate_succ, List.replicate_zero, exists_prop, and_assoc, List.set_nil, rLenK, rTupK, rLstK, rReprK, rEqD, rNeD, rIn, rAll, rAppend, rCat, ↓reduceIte, Bool.false_eq_true, iEnumT, rSortedPO, rIsi, rRep, rReverse, tLstRg, tTupRg, tRg1, tRg2, rSlL, rSlT, rSortedI, rSlF, rCatF, rMax, tLc2E, rSortedL, rSortedT, gUnl, tPar, rReprX, tChain, tDNewK, tDisp, tPairs, tAndV, tNotV, tFd, sFd, tMeth, tMake, tMakeK, gStar, iZipM, iItems, tLock, tSpread, tDcE, tDGet, sDPut, tPar3, tNever, rIxD, tChain, iEnum, tDIn, tDNotIn, gHd, spTake]
    have big : (10 : Int) ^ Int.toNat 59 = 10 ^ 59 := by decide
    refine ⟨⟨by decide, by decide, by decide⟩, by decide, fun l hl => ?_⟩
    have nlp : some l ≠ some p := pp.potO.ne hl
    have s0 : Fd.St (some p) H (upd H l (.lst [.int 3, .int 3, .int 9, .int (10 ^ Int.toNat 59)])) := St.new pp.potO hl
    have l0 : (upd H l (.lst [.int 3, .int 3, .int 9, .int (10 ^ Int.toNat 59)])) l = some (.lst [.int 3, .int 3, .int 9, .int (10 ^ Int.toNat 59)]) := upd_same
    generalize upd H l (.lst [.int 3, .int 3, .int 9, .int (10 ^ Int.toNat 59)]) = H1 at s0 l0
    refine ⟨s0.pt, by decide, by decide, fun d H2 d0 d1 s1 => ?_⟩
    have l1 := s1.same l _ nlp l0
    have dd : d = 0 ∨ d = 1 ∨ d = 2 ∨ d = 3 := by omega
    rw [big] at l1
    have fin : ∀ m : Int, 0 < m → m.natAbs.log2 < 9000 → m ≤ 10 ^ 59 → atI [V.int 3, V.int 3, V.int 9, V.int (10 ^ 59)] d = some (.int m) →
        ∃ x, SqL K H2 l x ∧ ∃ x_1, atI x d = some x_1 ∧ ∃ x, x_1 = V.int x ∧ Pot H2 p ∧ 0 < x ∧ x.natAbs.log2 < 9000 ∧ ∀ (d : Int) (H'_1 : Hp), 0 ≤ d → d < x → Fd.St (some p) H2 H'_1 → Q (V.int (1 + d)) H'_1 :=
      fun m m0 ml mm e => ⟨_, SqL.of l1, _, e, m, rfl, s1.pt, m0, ml, fun e H3 e0 e1 s2 => k _ _ (by omega) (by omega) ((s0.trans s1).trans s2)⟩
    rcases dd with rfl | rfl | rfl | rfl
    · exact fin 3 (by decide) (by decide) (by decide) rfl
    · exact fin 3 (by decide) (by decide) (by decide) rfl
    · exact fin 9 (by decide) (by decide) (by decide) rfl
    · exact fin (10 ^ 59) (by decide) (by decide) (by decide) rfl
structure CInks (P : Program) (w : World) (K : PySem.W.Frag) (mg : Str → Option Value) (base : Heap) : Prop extends CTake P w K mg base where
  words : Has P w K mg base "_law_words" 3 ["_law_pot_here", "_law_many"] spWords
abbrev s_inks : Stmt := topS 25
theorem sc_inks : FnScope ["_law_pot_here", "_law_most", "_law_names", "_law_found", "_law_name"] ["_law_pot_here", "_law_most"] (defScope s_inks) := ⟨rfl, rfl, rfl, by decide +kernel, rfl, by decide +kernel, by decide +kernel⟩

def spInks (K : PySem.W.Frag) : Sp := fun vs H Q _ => ∃ (p : Addr) (m : Int), vs = [.ref p, .int m] ∧ Pot H p ∧ 1 ≤ m ∧ m ≤ 8 ∧
  ∀ l us (inks : List Lay) H', InksOk inks → (inks.length : Int) ≤ m → H l = none → H' l = some (.lst us) → DpAll K H' us (inks.map layD) → Fd.St (some p) H H' → Q (.ref l) H'
theorem ok_inks {f : Addr} {fd : FuncData} (F : Fun K "_law_inks" "_law_inks" s_inks f fd) (M : Blt mg) (C : CInks P w K mg base) : FnOk P w K mg base CX0 4 f fd ["_law_pot_here", "_law_most"] (spInks K) := by
  refine F.ok sc_inks (fun vs H Q E h => ?_) (fun cdv A outer s H vs Q E hr h => ?_)
  · obtain ⟨p, m, rfl, _⟩ := h
    rfl
  · obtain ⟨p, m, rfl, pp, h1, h8, k⟩ := h
    refine ⟨_, (pss_cons (ps_set (i := 2) sc_inks.nd rfl (by first | exact Or.inl rfl | exact Or.inr rfl) (callH C.words hr (by rfl) (pa_cons (pv 0) (pa_cons (pe_op op_add pe_int (callH C.take hr (by rfl) (pa_cons (pv 0) (pa_cons (pv 1) pa_nil)))) pa_nil))))
      (pss_cons (ps_set (i := 3) sc_inks.nd rfl (by first | exact Or.inl rfl | exact Or.inr rfl) (pe_lst pa_nil))
      (pss_cons (ps_for PassesOwn.never rfl (pi_list (pv 2)) (pg_name (i := 4) sc_inks.nd rfl (by first | exact Or.inl rfl | exact Or.inr rfl)) (pss_one (ps_expr (pe_bm PySem.F.plainAttrs_list PySem.F.slot_list_append PySem.F.type_list_append mt_append (pv 3) (pa_cons (pe_tup (pa_cons (pv 4) (pa_cons (pe_ix (k_ixL (K := K) rfl) (pe_lst (pa_cons pe_int (pa_cons pe_int (pa_cons (callH C.take hr (by rfl) (pa_cons (pv 0) (pa_cons pe_int pa_nil))) (pa_cons (callH C.take hr (by rfl) (pa_cons (pv 0) (pa_cons (pe_op op_pow pe_int pe_int) pa_nil))) pa_nil))))) (callH C.take hr (by rfl) (pa_cons (pv 0) (pa_cons pe_int pa_nil))) (fun _ _ => rfl)) pa_nil))) pa_nil)))))
      (pss_one (ps_ret (pv 3)))))), ?_⟩
    simp only [tSeq, tIfS, tTest, tOp, tUn, tVar, tC, rI, rI0, rU, rEq, rNe, rIxL, rIxT, rIxS, tCB, tCons, tNil, tRet, tRetN, tAsg, gTup, gCons, gNil, gName, gSub, rSetL, tNext, tDrop, tLst, tTup, tCall, tIf, tB, tAnd, tOr, tNot, tSl, tPart, tNoPart, tM1, tM0, tBM, tBM0, tLcE, tForE, iRng1, iRng2, iTup, iList, iStr, tYes, wipe, startDef, cxK, noxK, exists_and_left, exists_eq_left', exists_eq_left, exists_eq_right, Option.some.injEq, V.int.injEq, V.ref.injEq, V.str.injEq, V.bl.injEq, List.cons.injEq, and_true, true_and, List.append_nil, List.map_cons, List.map_nil, List.length_cons, List.length_nil, List.replicate, List.nil_append, List.cons_append, List.set_cons_zero, List.set_cons_succ, List.getElem?_cons_zero, List.getElem?_cons_succ, decide_eq_true_eq, exists_const, Nat.reduceAdd, Nat.reduceSub, List.replicate_succ, List.replicate_zero, exists_prop, and_assoc, List.set_nil, rLenK, rTupK, rLstK, rReprK, rEqD, rNeD, rIn, rAll, rAppend, rCat, ↓reduceIte, Bool.false_eq_true, iEnumT, rSortedPO, rIsi, rRep, rReverse, tLstRg, tTupRg, tRg1, tRg2, rSlL, rSlT, rSortedI, rSlF, rCatF, rMax, tLc2E, rSortedL, rSortedT, gUnl, tPar, rReprX, tChain, tDNewK, tDisp, tPairs, tAndV, tNotV, tFd, sFd, tMeth, tMake, tMakeK, gStar, iZipM, iItems, tLock, tSpread, tDcE, tDGet, sDPut, tPar3, tNever, rIxD, tChain, iEnum, tDIn, tDNotIn, gHd, spTake, spWords]
    refine ⟨pp, by omega, Nat.lt_of_le_of_lt (Nat.log2_le_self _) (by omega), fun d H1 d0 d1 s1 => ⟨(1 + d).toNat, by omega, s1.pt, by omega, fun l zs H2 lz zn nd hl0 hl s2 => ⟨by decide, fun q hq => ⟨⟨_, SqL.of ((upd_ne (ne_of_none hl hq)).trans hl)⟩, ?_⟩⟩⟩⟩
    have s12 := s1.trans s2
    have nlp : some l ≠ some p := s1.pot.ne hl0
    have nqp : some q ≠ some p := s2.pot.ne hq
    have lq : l ≠ q := ne_of_none hl hq
    refine forLst (xs := zs.map V.str) (fun i σ H' => ∃ (us : List V) (inks : List Lay) (a4 : Option V), σ = [some (.ref p), some (.int m), some (.ref l), some (.ref q), a4] ∧ Fd.St (some p) H2 H' ∧
      H' q = some (.lst us) ∧ DpAll K H' us (inks.map layD) ∧ inks.map (·.1) = zs.take i ∧ ∀ x ∈ inks, 0 ≤ x.2 ∧ x.2.natAbs < 2 ^ 250) ⟨[], [], none, rfl, St.new s2.pot hq, upd_same, .nil, rfl, fun _ h => nomatch h⟩
      (fun i σ H' _ ⟨_, _, _, _, s, _⟩ => SqL.of (s.same l _ nlp hl)) ?_ ?_
    · rintro i x σ Ha hx ⟨us, inks, a4, rfl, sa, qa, al, en, ih⟩
      obtain ⟨z, ez, rfl⟩ : ∃ z, zs[i]? = some z ∧ x = V.str z := by
        rw [List.getElem?_map] at hx
        cases e : zs[i]? with
        | none => rw [e] at hx; cases hx
        | some z => rw [e] at hx; exact ⟨z, rfl, (Option.some.inj hx).symm⟩
      simp only [tSeq, tIfS, tTest, tOp, tUn, tVar, tC, rI, rI0, rU, rEq, rNe, rIxL, rIxT, rIxS, tCB, tCons, tNil, tRet, tRetN, tAsg, gTup, gCons, gNil, gName, gSub, rSetL, tNext, tDrop, tLst, tTup, tCall, tIf, tB, tAnd, tOr, tNot, tSl, tPart, tNoPart, tM1, tM0, tBM, tBM0, tLcE, tForE, iRng1, iRng2, iTup, iList, iStr, tYes, wipe, startDef, cxK, noxK, exists_and_left, exists_eq_left', exists_eq_left, exists_eq_right, Option.some.injEq, V.int.injEq, V.ref.injEq, V.str.injEq, V.bl.injEq, List.cons.injEq, and_true, true_and, List.append_nil, List.map_cons, List.map_nil, List.length_cons, List.length_nil, List.replicate, List.nil_append, List.cons_append, List.set_cons_zero, List.set_cons_succ, List.getElem?_cons_zero, List.getElem?_cons_succ, decide_eq_true_eq, exists_const, Nat.reduceAdd, Nat.reduceSub, List.replicate_succ, List.replicate_zero, exists_prop, and_assoc, List.set_nil, rLenK, rTupK, rLstK, rReprK, rEqD, rNeD, rIn, rAll, rAppend, rCat, ↓reduceIte, Bool.false_eq_true, iEnumT, rSortedPO, rIsi, rRep, rReverse, tLstRg, tTupRg, tRg1, tRg2, rSlL, rSlT, rSortedI, rSlF, rCatF, rMax, tLc2E, rSortedL, rSortedT, gUnl, tPar, rReprX, tChain, tDNewK, tDisp, tPairs, tAndV, tNotV, tFd, sFd, tMeth, tMake, tMakeK, gStar, iZipM, iItems, tLock, tSpread, tDcE, tDGet, sDPut, tPar3, tNever, rIxD, tChain, iEnum, tDIn, tDNotIn, gHd, spTake]
      have big : (10 : Int) ^ Int.toNat 30 = 10 ^ 30 := by decide
      refine ⟨.inl ⟨rfl, _, SqL.of qa⟩, sa.pt, by decide, by decide, fun d1 H3 d10 d11 s3 => ⟨⟨by decide, by decide, by decide⟩, s3.pt, by decide, by decide, fun d2 H4 d20 d21 s4 => ⟨by decide, fun b hb => ?_⟩⟩⟩
      rw [big] at d21
      have s34 := s3.trans s4
      have s5 : Fd.St (some p) H4 (upd H4 b (.lst [.int 0, .int 1, .int d1, .int d2])) := St.new s4.pot hb
      have nbp : some b ≠ some p := s4.pot.ne hb
      have b5 : (upd H4 b (.lst [.int 0, .int 1, .int d1, .int d2])) b = some (.lst [.int 0, .int 1, .int d1, .int d2]) := upd_same
      generalize upd H4 b (.lst [.int 0, .int 1, .int d1, .int d2]) = H5 at s5 b5
      refine ⟨s5.pt, by decide, by decide, fun d3 H6 d30 d31 s6 => ?_⟩
      have b6 := s6.same b _ nbp b5
      have s36 := s34.trans (s5.trans s6)
      have q6 := s36.same q _ nqp qa
      have al6 := dpsSt sa.pot s36 (flat_lays inks) al
      have line : (100 : Nat) < sizeLine := by decide
      have lenI : us.length ≤ 8 := by
        have e1 := lays_len al
        have e2 := congrArg List.length en
        simp at e2
        omega
      obtain ⟨v, v0, v1, ev⟩ : ∃ v : Int, 0 ≤ v ∧ v.natAbs < 2 ^ 250 ∧ atI [V.int 0, V.int 1, V.int d1, V.int d2] d3 = some (.int v) := by
        have dd : d3 = 0 ∨ d3 = 1 ∨ d3 = 2 ∨ d3 = 3 := by omega
        rcases dd with rfl | rfl | rfl | rfl
        · exact ⟨0, by decide, by decide, rfl⟩
        · exact ⟨1, by decide, by decide, rfl⟩
        · exact ⟨d1, d10, by omega, rfl⟩
        · exact ⟨d2, d20, by omega, rfl⟩
      refine ⟨_, SqL.of b6, _, ev, by decide, fun t ht => ?_⟩
      have nqt : q ≠ t := ne_of_none q6 ht
      have s7 : Fd.St (some p) H6 (upd H6 t (.tup [.str z, .int v])) := St.new s6.pot ht
      have t7 : (upd H6 t (.tup [.str z, .int v])) t = some (.tup [.str z, .int v]) := upd_same
      have q7 : (upd H6 t (.tup [.str z, .int v])) q = some (.lst us) := by rw [upd_ne nqt]; exact q6
      generalize upd H6 t (.tup [.str z, .int v]) = H7 at s7 t7 q7
      have s37 := s36.trans s7
      refine ⟨us, q7, by omega, St.put s2.pot (sa.trans s37) hq, _, upd_same, inks ++ [(z, v)], ?_, ?_, fun x mx => ?_⟩
      · rw [List.map_append]
        exact DpAll.app (DpAll.move (fun _ _ => tup_put q7) (flat_lays _) (dpsSt sa.pot s37 (flat_lays inks) al)) (.cons (Dp.move (fun _ _ => tup_put q7) (flat_lay _) (lay_mk (l := (z, v)) (SqT.of t7))) .nil)
      · rw [List.map_append, en, List.take_add_one, ez]
        rfl
      · rcases List.mem_append.mp mx with mx | mx
        · exact ih x mx
        · rw [List.mem_singleton.mp mx]
          exact ⟨v0, v1⟩
    · rintro σ H' ⟨us, inks, a4, rfl, sa, qa, al, en, ih⟩
      simp only [tSeq, tIfS, tTest, tOp, tUn, tVar, tC, rI, rI0, rU, rEq, rNe, rIxL, rIxT, rIxS, tCB, tCons, tNil, tRet, tRetN, tAsg, gTup, gCons, gNil, gName, gSub, rSetL, tNext, tDrop, tLst, tTup, tCall, tIf, tB, tAnd, tOr, tNot, tSl, tPart, tNoPart, tM1, tM0, tBM, tBM0, tLcE, tForE, iRng1, iRng2, iTup, iList, iStr, tYes, wipe, startDef, cxK, noxK, exists_and_left, exists_eq_left', exists_eq_left, exists_eq_right, Option.some.injEq, V.int.injEq, V.ref.injEq, V.str.injEq, V.bl.injEq, List.cons.injEq, and_true, true_and, List.append_nil, List.map_cons, List.map_nil, List.length_cons, List.length_nil, List.replicate, List.nil_append, List.cons_append, List.set_cons_zero, List.set_cons_succ, List.getElem?_cons_zero, List.getElem?_cons_succ, decide_eq_true_eq, exists_const, Nat.reduceAdd, Nat.reduceSub, List.replicate_succ, List.replicate_zero, exists_prop, and_assoc, List.set_nil, rLenK, rTupK, rLstK, rReprK, rEqD, rNeD, rIn, rAll, rAppend, rCat, ↓reduceIte, Bool.false_eq_true, iEnumT, rSortedPO, rIsi, rRep, rReverse, tLstRg, tTupRg, tRg1, tRg2, rSlL, rSlT, rSortedI, rSlF, rCatF, rMax, tLc2E, rSortedL, rSortedT, gUnl, tPar, rReprX, tChain, tDNewK, tDisp, tPairs, tAndV, tNotV, tFd, sFd, tMeth, tMake, tMakeK, gStar, iZipM, iItems, tLock, tSpread, tDcE, tDGet, sDPut, tPar3, tNever, rIxD, tChain, iEnum, tDIn, tDNotIn, gHd]
      rw [List.take_of_length_le (by simp)] at en
      have el : inks.length = zs.length := by
        have := congrArg List.length en
        simpa using this
      refine k q us inks H' ⟨fun x mx => ⟨zn _ (by rw [← en]; exact List.mem_map.mpr ⟨x, mx, rfl⟩), ih x mx⟩, by rw [en]; exact nd, by omega, by omega⟩ (by omega) (St.free pp.potO s12 hq) qa al (s12.trans sa)
end

/-! ### a deed drawn -/
/-- a text or a number: of a kind known in every heap -/
def Scal (v : V) : Prop := (∃ z : Str, v = .str z ∧ z.length ≤ 20 ∧ ∀ c ∈ z.cps.toList, c < 128) ∨ ∃ i : Int, v = .int i
theorem Scal.cl {K : PySem.W.Frag} {H : Hp} {v : V} (h : Scal v) : Cl K H v := by
  rcases h with h | h
  · exact .inl h
  · exact .inr (.inl h)
theorem scal_nm {z : Str} (h : NmOk z) : Scal (.str z) := .inl ⟨z, rfl, by have := h.1.1; omega, fun c m => by have := h.1.2 c m; omega⟩
section
variable {P : Program} {w : World} {K : PySem.W.Frag} {mg : Str → Option Value} {base : Heap} {cP : Addr}
structure CDd (P : Program) (w : World) (K : PySem.W.Frag) (mg : Str → Option Value) (base : Heap) : Prop extends CTake P w K mg base where
  amount : Has P w K mg base "_law_amount" 2 ["_law_pot_here"] spAmount
abbrev s_deed : Stmt := topS 26
theorem sc_deed : FnScope ["_law_pot_here", "_law_inks_here", "_law_tags", "_law_word_here", "_law_ink"] ["_law_pot_here", "_law_inks_here", "_law_tags"] (defScope s_deed) := ⟨rfl, rfl, rfl, by decide +kernel, rfl, by decide +kernel, by decide +kernel⟩

def spDeed (K : PySem.W.Frag) : Sp := fun vs H Q _ => ∃ (pt li lt : Addr) (us : List V) (inks : List Lay) (tgs : List Str), vs = [.ref pt, .ref li, .ref lt] ∧ Pot H pt ∧ H li = some (.lst us) ∧ li ≠ pt ∧ DpAll K H us (inks.map layD) ∧ InksOk inks ∧
  H lt = some (.lst (tgs.map V.str)) ∧ lt ≠ pt ∧ 1 ≤ tgs.length ∧ tgs.length ≤ 8 ∧ (∀ z ∈ tgs, NmOk z) ∧
  ∀ a xs H', H a = none → H' a = some (.tup xs) → xs.length ≤ 4 → (∀ y ∈ xs, Scal y) → (∃ z r, xs = .str z :: r) → Fd.St (some pt) H H' → Q (.ref a) H'
theorem ok_deed {f : Addr} {fd : FuncData} (F : Fun K "_law_deed" "_law_deed" s_deed f fd) (M : Blt mg) (C : CDd P w K mg base) : FnOk P w K mg base CX0 3 f fd ["_law_pot_here", "_law_inks_here", "_law_tags"] (spDeed K) := by
  refine F.ok sc_deed (fun vs H Q E h => ?_) (fun cdv A outer s H vs Q E hr h => ?_)
  · obtain ⟨pt, li, lt, us, inks, tgs, rfl, _⟩ := h
    rfl
  · obtain ⟨pt, li, lt, us, inks, tgs, rfl, pp, hli, nlip, ali, iok, hlt, nltp, t1, t8, tn, k⟩ := h
    refine ⟨_, (pss_cons (ps_set (i := 3) sc_deed.nd rfl (by first | exact Or.inl rfl | exact Or.inr rfl) (pe_ix (k_ixL (K := K) rfl) (pe_lst (pa_cons pe_str (pa_cons pe_str (pa_cons pe_str (pa_cons pe_str (pa_cons pe_str (pa_cons pe_str (pa_cons pe_str (pa_cons pe_str pa_nil))))))))) (callH C.take hr (by rfl) (pa_cons (pv 0) (pa_cons pe_int pa_nil))) (fun _ _ => rfl)))
      (pss_cons (ps_set (i := 4) sc_deed.nd rfl (by first | exact Or.inl rfl | exact Or.inr rfl) (pe_ix (k_ixT (K := K) rfl) (pe_ix (k_ixL (K := K) rfl) (pv 1) (callH C.take hr (by rfl) (pa_cons (pv 0) (pa_cons (pe_callB (k_len (K := K) rfl) (by rfl) M.len (by decide +kernel) (pa_cons (pv 1) pa_nil)) pa_nil))) (fun _ _ => rfl)) pe_int (fun _ _ => rfl)))
      (pss_cons (ps_if (pt_cmpR op_eq (pv 3) pe_str (nomark _)) (pss_one (ps_ret (pe_tup (pa_cons (pv 3) (pa_cons (pv 4) (pa_cons (pe_ix (k_ixL (K := K) rfl) (pv 2) (callH C.take hr (by rfl) (pa_cons (pv 0) (pa_cons (pe_callB (k_len (K := K) rfl) (by rfl) M.len (by decide +kernel) (pa_cons (pv 2) pa_nil)) pa_nil))) (fun _ _ => rfl)) (pa_cons (callH C.amount hr (by rfl) (pa_cons (pv 0) pa_nil)) pa_nil))))))) pss_nil)
      (pss_cons (ps_if (pt_cmpR (k_in (K := K) rfl) (pv 3) (pe_tup (pa_cons pe_str (pa_cons pe_str pa_nil))) (by rfl)) (pss_one (ps_ret (pe_tup (pa_cons (pv 3) (pa_cons (pv 4) (pa_cons (callH C.amount hr (by rfl) (pa_cons (pv 0) pa_nil)) pa_nil)))))) pss_nil)
      (pss_cons (ps_if (pt_cmpR op_eq (pv 3) pe_str (nomark _)) (pss_one (ps_ret (pe_tup (pa_cons (pv 3) pa_nil)))) pss_nil)
      (pss_one (ps_ret (pe_tup (pa_cons (pv 3) (pa_cons (callH C.amount hr (by rfl) (pa_cons (pv 0) pa_nil)) pa_nil)))))))))), ?_⟩
    simp only [tSeq, tIfS, tTest, tOp, tUn, tVar, tC, rI, rI0, rU, rEq, rNe, rIxL, rIxT, rIxS, tCB, tCons, tNil, tRet, tRetN, tAsg, gTup, gCons, gNil, gName, gSub, rSetL, tNext, tDrop, tLst, tTup, tCall, tIf, tB, tAnd, tOr, tNot, tSl, tPart, tNoPart, tM1, tM0, tBM, tBM0, tLcE, tForE, iRng1, iRng2, iTup, iList, iStr, tYes, wipe, startDef, cxK, noxK, exists_and_left, exists_eq_left', exists_eq_left, exists_eq_right, Option.some.injEq, V.int.injEq, V.ref.injEq, V.str.injEq, V.bl.injEq, List.cons.injEq, and_true, true_and, List.append_nil, List.map_cons, List.map_nil, List.length_cons, List.length_nil, List.replicate, List.nil_append, List.cons_append, List.set_cons_zero, List.set_cons_succ, List.getElem?_cons_zero, List.getElem?_cons_succ, decide_eq_true_eq, exists_const, Nat.reduceAdd, Nat.reduceSub, List.replicate_succ, List.replicate_zero, exists_prop, and_assoc, List.set_nil, rLenK, rTupK, rLstK, rReprK, rEqD, rNeD, rIn, rAll, rAppend, rCat, ↓reduceIte, Bool.false_eq_true, iEnumT, rSortedPO, rIsi, rRep, rReverse, tLstRg, tTupRg, tRg1, tRg2, rSlL, rSlT, rSortedI, rSlF, rCatF, rMax, tLc2E, rSortedL, rSortedT, gUnl, tPar, rReprX, tChain, tDNewK, tDisp, tPairs, tAndV, tNotV, tFd, sFd, tMeth, tMake, tMakeK, gStar, iZipM, iItems, tLock, tSpread, tDcE, tDGet, sDPut, tPar3, tNever, rIxD, tChain, iEnum, tDIn, tDNotIn, gHd, spTake, spAmount]
    refine ⟨by decide, fun q hq => ?_⟩
    have nq : some q ≠ some pt := pp.potO.ne hq
    have s1 : Fd.St (some pt) H (upd H q (.lst [.str "lay", .str "lay", .str "lay", .str "wait", .str "wash", .str "warm", .str "scrape", .str "rub"])) := St.new pp.potO hq
    have l1 : (upd H q (.lst [.str "lay", .str "lay", .str "lay", .str "wait", .str "wash", .str "warm", .str "scrape", .str "rub"])) q = some (.lst [.str "lay", .str "lay", .str "lay", .str "wait", .str "wash", .str "warm", .str "scrape", .str "rub"]) := upd_same
    generalize upd H q (.lst [.str "lay", .str "lay", .str "lay", .str "wait", .str "wash", .str "warm", .str "scrape", .str "rub"]) = H1 at s1 l1
    have fin : ∀ (Hx : Hp) (t : Addr) (xs : List V), Hx t = none → Fd.St (some pt) H Hx → xs.length ≤ 4 → (∀ y ∈ xs, Scal y) → (∃ z r, xs = .str z :: r) → Q (.ref t) (upd Hx t (.tup xs)) := fun Hx t xs ht sx h1 h2 h3 =>
      k t xs _ (sx.free pp.potO ht) upd_same h1 h2 h3 (sx.trans (St.new sx.pot ht))
    refine ⟨s1.pt, by decide, by decide, fun d H2 d0 d1 s2 => ⟨_, SqL.of (s2.same q _ nq l1), ?_⟩⟩
    obtain ⟨wd, eat, cs⟩ : ∃ wd : Str, atI [V.str "lay", V.str "lay", V.str "lay", V.str "wait", V.str "wash", V.str "warm", V.str "scrape", V.str "rub"] d = some (V.str wd) ∧ (wd = "lay" ∨ wd = "wash" ∨ wd = "warm" ∨ wd = "scrape" ∨ wd = "wait" ∨ wd = "rub") := by
      have dd : d = 0 ∨ d = 1 ∨ d = 2 ∨ d = 3 ∨ d = 4 ∨ d = 5 ∨ d = 6 ∨ d = 7 := by omega
      rcases dd with rfl | rfl | rfl | rfl | rfl | rfl | rfl | rfl
      · exact ⟨_, rfl, .inl rfl⟩
      · exact ⟨_, rfl, .inl rfl⟩
      · exact ⟨_, rfl, .inl rfl⟩
      · exact ⟨_, rfl, .inr (.inr (.inr (.inr (.inl rfl))))⟩
      · exact ⟨_, rfl, .inr (.inl rfl)⟩
      · exact ⟨_, rfl, .inr (.inr (.inl rfl))⟩
      · exact ⟨_, rfl, .inr (.inr (.inr (.inl rfl)))⟩
      · exact ⟨_, rfl, .inr (.inr (.inr (.inr (.inr rfl))))⟩
    have s12 := s1.trans s2
    have nl' : some li ≠ some pt := fun z => nlip (Option.some.inj z)
    have nt' : some lt ≠ some pt := fun z => nltp (Option.some.inj z)
    have pos := iok.pos
    have most := iok.most
    have lenI := lays_len ali
    refine ⟨_, eat, us, .inl (SqL.of (s12.same li _ nl' hli)), s2.pt, by omega, Nat.lt_of_le_of_lt (Nat.log2_le_self _) (by omega), fun e H3 e0 e1 s3 => ?_⟩
    have s13 := s12.trans s3
    obtain ⟨e, rfl⟩ : ∃ e' : Nat, e = (e' : Int) := ⟨e.toNat, by omega⟩
    have he : e < us.length := by omega
    have ex := List.getElem?_eq_getElem he
    obtain ⟨lay, b, e3, eb, sq, _⟩ := lays_get (dpsSt pp.potO s13 (flat_lays inks) ali) ex
    have nmI := (iok.ok lay (List.mem_of_getElem? e3)).1
    refine ⟨us, SqL.of (s13.same li _ nl' hli), _, atI_nat ex, b, eb, _, sq, _, rfl, ?_⟩
    have scw : Scal (.str wd) := by
      rcases cs with rfl | rfl | rfl | rfl | rfl | rfl <;> exact .inl ⟨_, rfl, by decide +kernel, by decide +kernel⟩
    refine ⟨rfl, ?_⟩
    by_cases cl : wd = "lay"
    · subst cl
      rw [if_pos rfl]
      have hlt3 := s13.same lt _ nt' hlt
      refine ⟨_, .inl (SqL.of hlt3), s3.pt, by rw [List.length_map]; omega, Nat.lt_of_le_of_lt (Nat.log2_le_self _) (by rw [List.length_map]; omega), fun g H4 g0 g1 s4 => ?_⟩
      rw [List.length_map] at g1
      obtain ⟨g, rfl⟩ : ∃ g' : Nat, g = (g' : Int) := ⟨g.toNat, by omega⟩
      have hg : g < tgs.length := by omega
      have et := List.getElem?_eq_getElem hg
      have mt : tgs[g] ∈ tgs := List.getElem_mem hg
      generalize tgs[g] = tag at et mt
      have ext : (tgs.map V.str)[g]? = some (.str tag) := by rw [List.getElem?_map, et]; rfl
      refine ⟨_, SqL.of (s4.same lt _ nt' hlt3), _, atI_nat ext, s4.pt, fun z H5 z1 z2 s5 => ⟨by decide, fun t ht => ?_⟩⟩
      refine fin H5 t _ ht ((s13.trans s4).trans s5) (by simp) (fun y m => ?_) ⟨_, _, rfl⟩
      rcases List.mem_cons.mp m with rfl | m
      · exact scw
      rcases List.mem_cons.mp m with rfl | m
      · exact scal_nm nmI
      rcases List.mem_cons.mp m with rfl | m
      · exact scal_nm (tn _ mt)
      · rw [List.mem_singleton.mp m]; exact .inr ⟨_, rfl⟩
    · rw [if_neg (fun z => cl (V.str.inj z))]
      refine ⟨by decide, fun p2 hp2 => ?_⟩
      have s4 : Fd.St (some pt) H3 (upd H3 p2 (.tup [.str "wash", .str "warm"])) := St.new s3.pot hp2
      have t4 : (upd H3 p2 (.tup [.str "wash", .str "warm"])) p2 = some (.tup [.str "wash", .str "warm"]) := upd_same
      generalize upd H3 p2 (.tup [.str "wash", .str "warm"]) = H4 at s4 t4
      have s14 := s13.trans s4
      refine ⟨_, .inr (SqT.of t4), rfl, rfl, ?_⟩
      rw [show inV (V.str wd) [V.str "wash", V.str "warm"] = decide (wd = "wash" ∨ wd = "warm") by
        have := inV_strs ["wash", "warm"] wd
        rw [show [V.str "wash", V.str "warm"] = (["wash", "warm"] : List Str).map V.str from rfl, this]
        simp]
      by_cases cw : wd = "wash" ∨ wd = "warm"
      · rw [decide_eq_true cw, if_pos rfl]
        refine ⟨s4.pt, fun z H5 z1 z2 s5 => ⟨by decide, fun t ht => ?_⟩⟩
        refine fin H5 t _ ht (s14.trans s5) (by simp) (fun y m => ?_) ⟨_, _, rfl⟩
        rcases List.mem_cons.mp m with rfl | m
        · exact scw
        rcases List.mem_cons.mp m with rfl | m
        · exact scal_nm nmI
        · rw [List.mem_singleton.mp m]; exact .inr ⟨_, rfl⟩
      · rw [decide_eq_false cw, if_neg (by decide)]
        refine ⟨rfl, ?_⟩
        by_cases cc : wd = "scrape"
        · rw [if_pos (by rw [cc])]
          refine ⟨by decide, fun t ht => fin H4 t _ ht s14 (by simp) (fun y m => ?_) ⟨_, _, rfl⟩⟩
          rw [List.mem_singleton.mp m]; exact scw
        · rw [if_neg (fun z => cc (V.str.inj z))]
          refine ⟨s4.pt, fun z H5 z1 z2 s5 => ⟨by decide, fun t ht => ?_⟩⟩
          refine fin H5 t _ ht (s14.trans s5) (by simp) (fun y m => ?_) ⟨_, _, rfl⟩
          rcases List.mem_cons.mp m with rfl | m
          · exact scw
          · rw [List.mem_singleton.mp m]; exact .inr ⟨_, rfl⟩
/-! ### a text that is no name -/
def TxtOk2 (z : Str) : Prop := z.length ≤ 20 ∧ ∀ c ∈ z.cps.toList, c < 128
theorem cut_mem {z : Str} {lo hi : Option Int} {c : Nat} (m : c ∈ (cutS z lo hi).cps.toList) : c ∈ z.cps.toList := by
  unfold cutS at m
  rw [List.toList_toArray] at m
  exact List.mem_of_mem_drop (List.mem_of_mem_take m)
theorem app_cps (x y : Str) : (x ++ y).cps.toList = x.cps.toList ++ y.cps.toList := by
  show (x.cps ++ y.cps).toList = _
  rw [Array.toList_append]
theorem app_len (x y : Str) : (x ++ y).length = x.length + y.length := by
  show (x.cps ++ y.cps).size = _
  rw [Array.size_append]
  rfl
theorem txt_nm {z : Str} (h : NmOk z) : TxtOk2 z := ⟨by have := h.1.1; omega, fun c m => by have := h.1.2 c m; omega⟩
structure CNn (P : Program) (w : World) (K : PySem.W.Frag) (mg : Str → Option Value) (base : Heap) : Prop extends CTake P w K mg base where
  word : Has P w K mg base "_law_word" 2 ["_law_pot_here", "_law_found"] spWord
abbrev s_no_name : Stmt := topS 27
theorem sc_no_name : FnScope ["_law_pot_here", "_law_letters", "_law_signs", "_law_word_here", "_law_at_here", "_law_odd_here"] ["_law_pot_here"] (defScope s_no_name) := ⟨rfl, rfl, rfl, by decide +kernel, rfl, by decide +kernel, by decide +kernel⟩

def spNoName : Sp := fun vs H Q _ => ∃ (pt : Addr), vs = [.ref pt] ∧ Pot H pt ∧ ∀ z H', TxtOk2 z → Fd.St (some pt) H H' → Q (.str z) H'
theorem ok_no_name {f : Addr} {fd : FuncData} (F : Fun K "_law_no_name" "_law_no_name" s_no_name f fd) (M : Blt mg) (C : CNn P w K mg base) : FnOk P w K mg base CX0 3 f fd ["_law_pot_here"] spNoName := by
  refine F.ok sc_no_name (fun vs H Q E h => ?_) (fun cdv A outer s H vs Q E hr h => ?_)
  · obtain ⟨pt, rfl, _⟩ := h
    rfl
  · obtain ⟨pt, rfl, pp, k⟩ := h
    refine ⟨_, (pss_cons (ps_set (i := 1) sc_no_name.nd rfl (by first | exact Or.inl rfl | exact Or.inr rfl) pe_str)
      (pss_cons (ps_set (i := 2) sc_no_name.nd rfl (by first | exact Or.inl rfl | exact Or.inr rfl) pe_str)
      (pss_cons (ps_set (i := 3) sc_no_name.nd rfl (by first | exact Or.inl rfl | exact Or.inr rfl) (callH C.word hr (by rfl) (pa_cons (pv 0) (pa_cons (pe_lst pa_nil) pa_nil))))
      (pss_cons (ps_set (i := 4) sc_no_name.nd rfl (by first | exact Or.inl rfl | exact Or.inr rfl) (callH C.take hr (by rfl) (pa_cons (pv 0) (pa_cons (pe_op op_add (pe_callB call_len_str (by rfl) M.len (by decide +kernel) (pa_cons (pv 3) pa_nil)) pe_int) pa_nil))))
      (pss_cons (ps_set (i := 5) sc_no_name.nd rfl (by first | exact Or.inl rfl | exact Or.inr rfl) (pe_op op_add_str (pe_op op_add_str (pe_slice sl_str (pv 3) po_none (po_some (pv 4))) (pe_ix ix_str (pv 2) (callH C.take hr (by rfl) (pa_cons (pv 0) (pa_cons (pe_callB call_len_str (by rfl) M.len (by decide +kernel) (pa_cons (pv 2) pa_nil)) pa_nil))) (fun _ _ => rfl))) (pe_slice sl_str (pv 3) (po_some (pv 4)) po_none)))
      (pss_one (ps_ret (pe_ix (k_ixL (K := K) rfl) (pe_lst (pa_cons pe_str (pa_cons (pv 5) (pa_cons (pv 5) (pa_cons (pe_op op_add_str (pv 3) (pe_slice sl_str (pv 1) po_none (po_some pe_int))) pa_nil))))) (callH C.take hr (by rfl) (pa_cons (pv 0) (pa_cons pe_int pa_nil))) (fun _ _ => rfl))))))))), ?_⟩
    simp only [tSeq, tIfS, tTest, tOp, tUn, tVar, tC, rI, rI0, rU, rEq, rNe, rIxL, rIxT, rIxS, tCB, tCons, tNil, tRet, tRetN, tAsg, gTup, gCons, gNil, gName, gSub, rSetL, tNext, tDrop, tLst, tTup, tCall, tIf, tB, tAnd, tOr, tNot, tSl, tPart, tNoPart, tM1, tM0, tBM, tBM0, tLcE, tForE, iRng1, iRng2, iTup, iList, iStr, tYes, wipe, startDef, cxK, noxK, exists_and_left, exists_eq_left', exists_eq_left, exists_eq_right, Option.some.injEq, V.int.injEq, V.ref.injEq, V.str.injEq, V.bl.injEq, List.cons.injEq, and_true, true_and, List.append_nil, List.map_cons, List.map_nil, List.length_cons, List.length_nil, List.replicate, List.nil_append, List.cons_append, List.set_cons_zero, List.set_cons_succ, List.getElem?_cons_zero, List.getElem?_cons_succ, decide_eq_true_eq, exists_const, Nat.reduceAdd, Nat.reduceSub, List.replicate_succ, List.replicate_zero, exists_prop, and_assoc, List.set_nil, rLenK, rTupK, rLstK, rReprK, rEqD, rNeD, rIn, rAll, rAppend, rCat, ↓reduceIte, Bool.false_eq_true, iEnumT, rSortedPO, rIsi, rRep, rReverse, tLstRg, tTupRg, tRg1, tRg2, rSlL, rSlT, rSortedI, rSlF, rCatF, rMax, tLc2E, rSortedL, rSortedT, gUnl, tPar, rReprX, tChain, tDNewK, tDisp, tPairs, tAndV, tNotV, tFd, sFd, tMeth, tMake, tMakeK, gStar, iZipM, iItems, tLock, tSpread, tDcE, tDGet, sDPut, tPar3, tNever, rIxD, tChain, iEnum, tDIn, tDNotIn, gHd, spTake, spWord, rSlS]
    refine ⟨by decide, fun q hq => ?_⟩
    have nq : q ≠ pt := pp.ne hq
    have s1 : Fd.St (some pt) H (upd H q (.lst [])) := St.new pp.potO hq
    have line : (1000 : Nat) < sizeLine := by decide
    generalize eS : Str.ofString "ABCDEFGHIJKLMNOPQRSTUVWXYZ0123456789 _-.,:;!?'()[]{}<>=+*/&#@|~^`\"\n" = signs
    have sl : signs.length ≤ 100 ∧ 0 < signs.length := by rw [← eS]; decide +kernel
    have sc : ∀ c ∈ signs.cps.toList, c < 128 := by rw [← eS]; decide +kernel
    generalize eL : Str.ofString "abcdefghijklmnopqrstuvwxyz" = abc'
    have al : abc'.length = 26 := by rw [← eL]; decide +kernel
    have ac : ∀ c ∈ (cutS abc' none (some 9)).cps.toList, c < 128 := by rw [← eL]; decide +kernel
    have a9 : (cutS abc' none (some 9)).length = 9 := by rw [← eL]; decide +kernel
    refine ⟨s1.pt, [], upd_same, nq, by decide, fun z H2 nm _ s2 => ⟨by have := nm.1.1; omega, s2.pt, by omega, Nat.lt_of_le_of_lt (Nat.log2_le_self _) (by have := nm.1.1; omega), fun d H3 d0 d1 s3 => ?_⟩⟩
    have nz := nm.1.1
    have c1 := cutS_length z none (some d)
    have c2 := cutS_length z (some d) none
    refine ⟨by omega, by omega, s3.pt, by omega, Nat.lt_of_le_of_lt (Nat.log2_le_self _) (by omega), fun e H4 e0 e1 s4 => ⟨by omega, ?_⟩⟩
    obtain ⟨e, rfl⟩ : ∃ e' : Nat, e = (e' : Int) := ⟨e.toNat, by omega⟩
    have hget : e < signs.cps.toList.length := by
      have e' : signs.length = signs.cps.toList.length := (cps_size signs).symm
      omega
    have cS := sc _ (List.getElem_mem hget)
    generalize eC : signs.cps.toList[e] = c at cS
    have eat : atI signs.cps.toList (e : Int) = some c := by rw [atI_nat (List.getElem?_eq_getElem hget), eC]
    have one : (⟨#[c]⟩ : Str).length = 1 := rfl
    have l12 : (cutS z none (some d) ++ (⟨#[c]⟩ : Str)).length = (cutS z none (some d)).length + 1 := by rw [app_len, one]
    refine ⟨c, eat, by omega, by omega, by omega, by omega, by omega, by decide, fun q2 hq2 => ?_⟩
    have odd : TxtOk2 (cutS z none (some d) ++ (⟨#[c]⟩ : Str) ++ cutS z (some d) none) := by
      refine ⟨by rw [app_len]; omega, fun y m => ?_⟩
      rw [app_cps, app_cps] at m
      rcases List.mem_append.mp m with m | m
      · rcases List.mem_append.mp m with m | m
        · exact (txt_nm nm).2 y (cut_mem m)
        · rw [show (⟨#[c]⟩ : Str).cps.toList = [c] from rfl, List.mem_singleton] at m
          rw [m]; exact cS
      · exact (txt_nm nm).2 y (cut_mem m)
    have long : TxtOk2 (z ++ cutS abc' none (some 9)) := by
      refine ⟨by rw [app_len]; omega, fun y m => ?_⟩
      rw [app_cps] at m
      rcases List.mem_append.mp m with m | m
      · exact (txt_nm nm).2 y m
      · exact ac y m
    generalize cutS z none (some d) ++ (⟨#[c]⟩ : Str) ++ cutS z (some d) none = oddS at odd ⊢
    generalize z ++ cutS abc' none (some 9) = longS at long ⊢
    have nq2 : some q2 ≠ some pt := s4.pot.ne hq2
    have s5 : Fd.St (some pt) H4 (upd H4 q2 (.lst [.str "", .str oddS, .str oddS, .str longS])) := St.new s4.pot hq2
    have l5 : (upd H4 q2 (.lst [.str "", .str oddS, .str oddS, .str longS])) q2 = some (.lst [.str "", .str oddS, .str oddS, .str longS]) := upd_same
    generalize upd H4 q2 (.lst [.str "", .str oddS, .str oddS, .str longS]) = H5 at s5 l5
    refine ⟨s5.pt, by decide, by decide, fun g H6 g0 g1 s6 => ⟨_, SqL.of (s6.same q2 _ nq2 l5), ?_⟩⟩
    have sF := (((s1.trans s2).trans s3).trans s4).trans (s5.trans s6)
    have gg : g = 0 ∨ g = 1 ∨ g = 2 ∨ g = 3 := by omega
    rcases gg with rfl | rfl | rfl | rfl
    · exact ⟨_, rfl, k _ _ ⟨by decide +kernel, by decide +kernel⟩ sF⟩
    · exact ⟨_, rfl, k _ _ odd sF⟩
    · exact ⟨_, rfl, k _ _ odd sF⟩
    · exact ⟨_, rfl, k _ _ long sF⟩
end

/-! ### odd things -/
theorem tg_none {K : PySem.W.Frag} {H : Hp} {v : V} {t : String} (h : TyX K H v (.type t)) (k : kitB t "tuple" = some false) : Tg K H v none := ⟨t, h, k⟩
/-- a thing that stays one, whatever is drawn behind it -/
def OddV (K : PySem.W.Frag) (pt : Addr) (H : Hp) (v : V) : Prop := ∃ o, ∀ H2, Fd.St (some pt) H H2 → Cl K H2 v ∧ Tg K H2 v o
section
variable {K : PySem.W.Frag} {H : Hp} {pt a : Addr}
theorem odd_non : OddV K pt H .non := ⟨none, fun H2 _ => ⟨.inr (.inr (.inr ⟨"NoneType", .base .non, by decide +kernel, by decide +kernel, by decide +kernel, (fun _ h => nomatch h), (fun _ h => nomatch h)⟩)), tg_none (t := "NoneType") (.base .non) (by decide +kernel)⟩⟩
theorem odd_bl (b : Bool) : OddV K pt H (.bl b) := ⟨none, fun H2 _ => ⟨.inr (.inr (.inl ⟨b, rfl⟩)), tg_none (t := "bool") (.base (.bl b)) (by decide +kernel)⟩⟩
theorem odd_int (i : Int) : OddV K pt H (.int i) := ⟨none, fun H2 _ => ⟨.inr (.inl ⟨i, rfl⟩), tg_none (t := "int") (.base (.int i)) (by decide +kernel)⟩⟩
theorem odd_str {z : Str} (h : TxtOk2 z) : OddV K pt H (.str z) := ⟨none, fun H2 _ => ⟨.inl ⟨z, rfl, h.1, h.2⟩, tg_none (t := "str") (.base (.str z)) (by decide +kernel)⟩⟩
theorem odd_lst {xs : List V} (h : H a = some (.lst xs)) (n : a ≠ pt) : OddV K pt H (.ref a) := ⟨none, fun H2 s => by
  have h2 := s.same a _ (fun z => n (Option.some.inj z)) h
  exact ⟨.inr (.inr (.inr ⟨"list", .base (.lst h2), by decide +kernel, by decide +kernel, by decide +kernel, (fun _ h => nomatch h), (fun _ h => nomatch h)⟩)), tg_none (t := "list") (.base (.lst h2)) (by decide +kernel)⟩⟩
theorem odd_dict {xs : List (L2.Key × V)} (h : H a = some (.dK xs)) (n : a ≠ pt) : OddV K pt H (.ref a) := ⟨none, fun H2 s => by
  have h2 := s.same a _ (fun z => n (Option.some.inj z)) h
  exact ⟨.inr (.inr (.inr ⟨"dict", .base (.dK h2), by decide +kernel, by decide +kernel, by decide +kernel, (fun _ h => nomatch h), (fun _ h => nomatch h)⟩)), tg_none (t := "dict") (.base (.dK h2)) (by decide +kernel)⟩⟩
theorem cl_tupS {H2 : Hp} {xs : List V} (h : SqT K H2 a xs) : Cl K H2 (.ref a) := .inr (.inr (.inr ⟨"tuple", tyT h, by decide +kernel, by decide +kernel, by decide +kernel, (fun _ h => nomatch h), (fun _ h => nomatch h)⟩))
theorem odd_tup {xs : List V} (pp : Pot H pt) (h : SqT K H a xs) (n : xs.length ≤ 12) (c : ∀ y ∈ xs, Scal y) : OddV K pt H (.ref a) := ⟨some xs, fun H2 s => by
  have h2 := St.tup pp.potO s h
  exact ⟨cl_tupS h2, a, rfl, h2, fun y m => (c y m).cl, n⟩⟩
end
section
variable {P : Program} {w : World} {K : PySem.W.Frag} {mg : Str → Option Value} {base : Heap} {cP : Addr}
structure COdd (P : Program) (w : World) (K : PySem.W.Frag) (mg : Str → Option Value) (base : Heap) : Prop extends CTake P w K mg base where
  word : Has P w K mg base "_law_word" 2 ["_law_pot_here", "_law_found"] spWord
  no_name : Has P w K mg base "_law_no_name" 3 ["_law_pot_here"] spNoName
abbrev s_odd : Stmt := topS 28
theorem sc_odd : FnScope ["_law_pot_here", "_law_inks_here", "_law_some"] ["_law_pot_here", "_law_inks_here"] (defScope s_odd) := ⟨rfl, rfl, rfl, by decide +kernel, rfl, by decide +kernel, by decide +kernel⟩

def spOdd (K : PySem.W.Frag) : Sp := fun vs H Q _ => ∃ (pt li : Addr) (us : List V) (inks : List Lay), vs = [.ref pt, .ref li] ∧ Pot H pt ∧ H li = some (.lst us) ∧ li ≠ pt ∧ DpAll K H us (inks.map layD) ∧ InksOk inks ∧
  ∀ v H', OddV K pt H' v → Fd.St (some pt) H H' → Q v H'
theorem ok_odd {f : Addr} {fd : FuncData} (F : Fun K "_law_odd" "_law_odd" s_odd f fd) (M : Blt mg) (C : COdd P w K mg base) : FnOk P w K mg base CX0 4 f fd ["_law_pot_here", "_law_inks_here"] (spOdd K) := by
  refine F.ok sc_odd (fun vs H Q E h => ?_) (fun cdv A outer s H vs Q E hr h => ?_)
  · obtain ⟨pt, li, us, inks, rfl, _⟩ := h
    rfl
  · obtain ⟨pt, li, us, inks, rfl, pp, hli, nlip, ali, iok, k⟩ := h
    refine ⟨_, (pss_cons (ps_set (i := 2) sc_odd.nd rfl (by first | exact Or.inl rfl | exact Or.inr rfl) (pe_lst (pa_cons pe_non (pa_cons pe_bl (pa_cons pe_bl (pa_cons pe_int (pa_cons (pe_op op_sub (pe_un un_neg pe_int) (callH C.take hr (by rfl) (pa_cons (pv 0) (pa_cons (pe_op op_pow pe_int pe_int) pa_nil)))) (pa_cons (pe_op op_add pe_int (callH C.take hr (by rfl) (pa_cons (pv 0) (pa_cons (pe_op op_pow pe_int pe_int) pa_nil)))) (pa_cons (callH C.no_name hr (by rfl) (pa_cons (pv 0) pa_nil)) pa_nil)))))))))
      (pss_cons (ps_set (i := 2) sc_odd.nd rfl (by first | exact Or.inl rfl | exact Or.inr rfl) (pe_op op_cat (pv 2) (pe_lst (pa_cons (pe_lst (pa_cons (pe_ix (k_ixT (K := K) rfl) (pe_ix (k_ixL (K := K) rfl) (pv 1) pe_int (fun _ _ => rfl)) pe_int (fun _ _ => rfl)) pa_nil)) (pa_cons (pe_tup (pa_cons (pe_ix (k_ixT (K := K) rfl) (pe_ix (k_ixL (K := K) rfl) (pv 1) pe_int (fun _ _ => rfl)) pe_int (fun _ _ => rfl)) pa_nil)) (pa_cons pe_dnewK (pa_cons (pe_lst pa_nil) (pa_cons (pe_tup pa_nil) (pa_cons (pe_ix (k_ixL (K := K) rfl) (pv 1) pe_int (fun _ _ => rfl)) (pa_cons (pe_ix (k_ixT (K := K) rfl) (pe_ix (k_ixL (K := K) rfl) (pv 1) pe_int (fun _ _ => rfl)) pe_int (fun _ _ => rfl)) (pa_cons (callH C.word hr (by rfl) (pa_cons (pv 0) (pa_cons (pe_lst pa_nil) pa_nil))) pa_nil)))))))))))
      (pss_one (ps_ret (pe_ix (k_ixL (K := K) rfl) (pv 2) (callH C.take hr (by rfl) (pa_cons (pv 0) (pa_cons (pe_callB (k_len (K := K) rfl) (by rfl) M.len (by decide +kernel) (pa_cons (pv 2) pa_nil)) pa_nil))) (fun _ _ => rfl)))))), ?_⟩
    simp only [tSeq, tIfS, tTest, tOp, tUn, tVar, tC, rI, rI0, rU, rEq, rNe, rIxL, rIxT, rIxS, tCB, tCons, tNil, tRet, tRetN, tAsg, gTup, gCons, gNil, gName, gSub, rSetL, tNext, tDrop, tLst, tTup, tCall, tIf, tB, tAnd, tOr, tNot, tSl, tPart, tNoPart, tM1, tM0, tBM, tBM0, tLcE, tForE, iRng1, iRng2, iTup, iList, iStr, tYes, wipe, startDef, cxK, noxK, exists_and_left, exists_eq_left', exists_eq_left, exists_eq_right, Option.some.injEq, V.int.injEq, V.ref.injEq, V.str.injEq, V.bl.injEq, List.cons.injEq, and_true, true_and, List.append_nil, List.map_cons, List.map_nil, List.length_cons, List.length_nil, List.replicate, List.nil_append, List.cons_append, List.set_cons_zero, List.set_cons_succ, List.getElem?_cons_zero, List.getElem?_cons_succ, decide_eq_true_eq, exists_const, Nat.reduceAdd, Nat.reduceSub, List.replicate_succ, List.replicate_zero, exists_prop, and_assoc, List.set_nil, rLenK, rTupK, rLstK, rReprK, rEqD, rNeD, rIn, rAll, rAppend, rCat, ↓reduceIte, Bool.false_eq_true, iEnumT, rSortedPO, rIsi, rRep, rReverse, tLstRg, tTupRg, tRg1, tRg2, rSlL, rSlT, rSortedI, rSlF, rCatF, rMax, tLc2E, rSortedL, rSortedT, gUnl, tPar, rReprX, tChain, tDNewK, tDisp, tPairs, tAndV, tNotV, tFd, sFd, tMeth, tMake, tMakeK, gStar, iZipM, iItems, tLock, tSpread, tDcE, tDGet, sDPut, tPar3, tNever, rIxD, tChain, iEnum, tDIn, tDNotIn, gHd, spTake, spNoName, spWord]
    have big1 : (10 : Int) ^ Int.toNat 40 = 10 ^ 40 := by decide
    have big2 : (10 : Int) ^ Int.toNat 59 = 10 ^ 59 := by decide
    have lenI := lays_len ali
    have pos := iok.pos
    have ex0 : us[0]? = some us[0] := List.getElem?_eq_getElem (by omega)
    obtain ⟨lay, b0, e30, eb0, sq0, _⟩ := lays_get ali ex0
    rw [eb0] at ex0
    have nmI := (iok.ok lay (List.mem_of_getElem? e30)).1
    have nl' : some li ≠ some pt := fun z => nlip (Option.some.inj z)
    refine ⟨⟨by decide, by decide, by decide⟩, pp, by decide, by decide, fun d H1 d0 d1 s1 => ⟨⟨by decide, by decide, by decide⟩, s1.pt, by decide, by decide, fun e H2 e0 e1 s2 => ⟨s2.pt, fun z H3 tz s3 => ⟨by decide, fun q1 hq1 => ?_⟩⟩⟩⟩
    have s03 := (s1.trans s2).trans s3
    generalize -1 - d = nd
    generalize 1 + e = ne'
    have nq1 : some q1 ≠ some pt := s3.pot.ne hq1
    have s4 : Fd.St (some pt) H3 (upd H3 q1 (.lst [.non, .bl true, .bl false, .int 0, .int nd, .int ne', .str z])) := St.new s3.pot hq1
    have l4 : (upd H3 q1 (.lst [.non, .bl true, .bl false, .int 0, .int nd, .int ne', .str z])) q1 = some (.lst [.non, .bl true, .bl false, .int 0, .int nd, .int ne', .str z]) := upd_same
    generalize upd H3 q1 (.lst [.non, .bl true, .bl false, .int 0, .int nd, .int ne', .str z]) = H4 at s4 l4
    have s04 := s03.trans s4
    clear s03 s3 s2 s1
    refine ⟨us, SqL.of (s04.same li _ nl' hli), _, atI_nat (j := 0) ex0, b0, rfl, _, St.tup pp.potO s04 sq0, _, atI_nat (j := 0) rfl, by decide, fun q2 hq2 => ?_⟩
    have nq2 : q2 ≠ pt := s4.pt.ne hq2
    have s5 : Fd.St (some pt) H4 (upd H4 q2 (.lst [.str lay.1])) := St.new s4.pot hq2
    have l5 : (upd H4 q2 (.lst [.str lay.1])) q2 = some (.lst [.str lay.1]) := upd_same
    generalize upd H4 q2 (.lst [.str lay.1]) = H5 at s5 l5
    have s05 := s04.trans s5
    refine ⟨us, SqL.of (s05.same li _ nl' hli), _, atI_nat (j := 0) ex0, b0, rfl, _, St.tup pp.potO s05 sq0, _, atI_nat (j := 0) rfl, by decide, fun q3 hq3 => ?_⟩
    have s6 : Fd.St (some pt) H5 (upd H5 q3 (.tup [.str lay.1])) := St.new s5.pot hq3
    have l6 : (upd H5 q3 (.tup [.str lay.1])) q3 = some (.tup [.str lay.1]) := upd_same
    generalize upd H5 q3 (.tup [.str lay.1]) = H6 at s6 l6
    have s06 := s05.trans s6
    refine fun q4 hq4 => ?_
    have nq4 : q4 ≠ pt := s6.pt.ne hq4
    have s7 : Fd.St (some pt) H6 (upd H6 q4 (.dK [])) := St.new s6.pot hq4
    have l7 : (upd H6 q4 (.dK [])) q4 = some (.dK []) := upd_same
    generalize upd H6 q4 (.dK []) = H7 at s7 l7
    refine ⟨by decide, fun q5 hq5 => ?_⟩
    have nq5 : q5 ≠ pt := s7.pt.ne hq5
    have s8 : Fd.St (some pt) H7 (upd H7 q5 (.lst [])) := St.new s7.pot hq5
    have l8 : (upd H7 q5 (.lst [])) q5 = some (.lst []) := upd_same
    generalize upd H7 q5 (.lst []) = H8 at s8 l8
    refine ⟨by decide, fun q6 hq6 => ?_⟩
    have s9 : Fd.St (some pt) H8 (upd H8 q6 (.tup [])) := St.new s8.pot hq6
    have l9 : (upd H8 q6 (.tup [])) q6 = some (.tup []) := upd_same
    generalize upd H8 q6 (.tup []) = H9 at s9 l9
    have s09 := ((s06.trans s7).trans s8).trans s9
    refine ⟨us, SqL.of (s09.same li _ nl' hli), _, atI_nat (j := 0) ex0, us, SqL.of (s09.same li _ nl' hli), _, atI_nat (j := 0) ex0, b0, rfl, _, St.tup pp.potO s09 sq0, _, atI_nat (j := 0) rfl, by decide, fun q7 hq7 => ?_⟩
    have nq7 : q7 ≠ pt := s9.pt.ne hq7
    have s10 : Fd.St (some pt) H9 (upd H9 q7 (.lst [])) := St.new s9.pot hq7
    have l10 : (upd H9 q7 (.lst [])) q7 = some (.lst []) := upd_same
    generalize upd H9 q7 (.lst []) = H10 at s10 l10
    refine ⟨s10.pt, [], l10, nq7, by decide, fun z2 H11 nm2 _ s11 => ⟨by decide, fun q8 hq8 => ?_⟩⟩
    have s12 : Fd.St (some pt) H11 (upd H11 q8 (.lst [.ref q2, .ref q3, .ref q4, .ref q5, .ref q6, .ref b0, .str lay.1, .str z2])) := St.new s11.pot hq8
    have l12 : (upd H11 q8 (.lst [.ref q2, .ref q3, .ref q4, .ref q5, .ref q6, .ref b0, .str lay.1, .str z2])) q8 = some (.lst [.ref q2, .ref q3, .ref q4, .ref q5, .ref q6, .ref b0, .str lay.1, .str z2]) := upd_same
    generalize upd H11 q8 (.lst [.ref q2, .ref q3, .ref q4, .ref q5, .ref q6, .ref b0, .str lay.1, .str z2]) = H12 at s12 l12
    have s912 := s10.trans (s11.trans s12)
    have s412 := s5.trans (s6.trans (s7.trans (s8.trans (s9.trans s912))))
    have sm : ∀ {a o Ha Hb}, a ≠ pt → Fd.St (some pt) Ha Hb → Ha a = some o → Hb a = some o := fun n s e => s.same _ _ (fun z => n (Option.some.inj z)) e
    have nq1' : q1 ≠ pt := fun z => nq1 (by rw [z])
    refine ⟨_, sm nq1' s412 l4, _, l12, by simp; decide, fun q9 hq9 => ?_⟩
    have nq9 : q9 ≠ pt := s12.pt.ne hq9
    have s13 : Fd.St (some pt) H12 (upd H12 q9 (.lst ([.non, .bl true, .bl false, .int 0, .int nd, .int ne', .str z] ++ [.ref q2, .ref q3, .ref q4, .ref q5, .ref q6, .ref b0, .str lay.1, .str z2]))) := St.new s12.pot hq9
    have l13 : (upd H12 q9 (.lst ([.non, .bl true, .bl false, .int 0, .int nd, .int ne', .str z] ++ [.ref q2, .ref q3, .ref q4, .ref q5, .ref q6, .ref b0, .str lay.1, .str z2]))) q9 = some (.lst ([.non, .bl true, .bl false, .int 0, .int nd, .int ne', .str z] ++ [.ref q2, .ref q3, .ref q4, .ref q5, .ref q6, .ref b0, .str lay.1, .str z2])) := upd_same
    generalize upd H12 q9 (.lst ([.non, .bl true, .bl false, .int 0, .int nd, .int ne', .str z] ++ [.ref q2, .ref q3, .ref q4, .ref q5, .ref q6, .ref b0, .str lay.1, .str z2])) = H13 at s13 l13
    have s913 := s912.trans s13
    have s813 := s9.trans s913
    have s713 := s8.trans s813
    have s613 := s7.trans s713
    have s513 := s6.trans s613
    have s013 := s09.trans s913
    have sLay : Scal (.str lay.1) := scal_nm nmI
    have items : ∀ v ∈ ([.non, .bl true, .bl false, .int 0, .int nd, .int ne', .str z] ++ [.ref q2, .ref q3, .ref q4, .ref q5, .ref q6, .ref b0, .str lay.1, .str z2] : List V), OddV K pt H13 v := fun v m => by
      simp only [List.cons_append, List.nil_append, List.mem_cons, List.not_mem_nil, or_false] at m
      rcases m with rfl | rfl | rfl | rfl | rfl | rfl | rfl | rfl | rfl | rfl | rfl | rfl | rfl | rfl | rfl
      · exact odd_non
      · exact odd_bl _
      · exact odd_bl _
      · exact odd_int _
      · exact odd_int _
      · exact odd_int _
      · exact odd_str tz
      · exact odd_lst (sm nq2 s513 l5) nq2
      · exact odd_tup s13.pt (St.tup s6.pot s613 (SqT.of l6)) (by simp) (fun y m => by rw [List.mem_singleton.mp m]; exact sLay)
      · exact odd_dict (sm nq4 s713 l7) nq4
      · exact odd_lst (sm nq5 s813 l8) nq5
      · exact odd_tup s13.pt (St.tup s9.pot s913 (SqT.of l9)) (by simp) (fun y m => nomatch m)
      · exact odd_tup s13.pt (St.tup pp.potO s013 sq0) (by simp) (fun y m => by
          rcases List.mem_cons.mp m with rfl | m
          · exact sLay
          · rw [List.mem_singleton.mp m]; exact .inr ⟨_, rfl⟩)
      · exact odd_str (txt_nm nmI)
      · exact odd_str (txt_nm nm2)
    have len15 : ([.non, .bl true, .bl false, .int 0, .int nd, .int ne', .str z] ++ [.ref q2, .ref q3, .ref q4, .ref q5, .ref q6, .ref b0, .str lay.1, .str z2] : List V).length = 15 := by rfl
    generalize ([.non, .bl true, .bl false, .int 0, .int nd, .int ne', .str z] ++ [.ref q2, .ref q3, .ref q4, .ref q5, .ref q6, .ref b0, .str lay.1, .str z2] : List V) = xs at l13 items len15 ⊢
    refine ⟨xs, .inl (SqL.of l13), s13.pt, by omega, by rw [len15]; decide, fun g H14 g0 g1 s14 => ⟨xs, SqL.of (sm nq9 s14 l13), ?_⟩⟩
    obtain ⟨g, rfl⟩ : ∃ g' : Nat, g = (g' : Int) := ⟨g.toNat, by omega⟩
    have hg : g < xs.length := by omega
    refine ⟨_, atI_nat (List.getElem?_eq_getElem hg), k _ _ ?_ (s013.trans s14)⟩
    obtain ⟨o, ho⟩ := items _ (List.getElem_mem hg)
    exact ⟨o, fun H2 s => ho H2 (s14.trans s)⟩
end

/-! ### a thing drawn: a deed, or one spoilt -/
def OddT (K : PySem.W.Frag) (pt : Addr) (H : Hp) (v : V) : Prop := ∃ o, ∀ H2, Fd.St (some pt) H H2 → Tg K H2 v o
theorem OddV.t {K : PySem.W.Frag} {pt : Addr} {H : Hp} {v : V} (h : OddV K pt H v) : OddT K pt H v := by
  obtain ⟨o, k⟩ := h
  exact ⟨o, fun H2 s => (k H2 s).2⟩
theorem Scal.oddV {K : PySem.W.Frag} {pt : Addr} {H : Hp} {v : V} (h : Scal v) : OddV K pt H v := by
  rcases h with ⟨z, rfl, a, b⟩ | ⟨i, rfl⟩
  · exact odd_str ⟨a, b⟩
  · exact odd_int i
/-- a tuple of scalars and of an odd thing -/
theorem oddT_tup {K : PySem.W.Frag} {pt a : Addr} {H : Hp} {xs : List V} (pp : Pot H pt) (h : SqT K H a xs) (n : xs.length ≤ 12) (c : ∀ y ∈ xs, OddV K pt H y) : OddT K pt H (.ref a) := ⟨some xs, fun H2 s => ⟨a, rfl, St.tup pp.potO s h, fun y m => by
  obtain ⟨o, k⟩ := c y m
  exact (k H2 s).1, n⟩⟩
theorem cutV_mem {xs : List V} {lo hi : Option Int} {y : V} (m : y ∈ cutV xs lo hi) : y ∈ xs := by
  unfold cutV at m
  exact List.mem_of_mem_drop (List.mem_of_mem_take m)
theorem cutV_le {xs : List V} {lo hi : Option Int} : (cutV xs lo hi).length ≤ xs.length := by
  unfold cutV
  rw [List.length_take, List.length_drop]
  omega
section
variable {P : Program} {w : World} {K : PySem.W.Frag} {mg : Str → Option Value} {base : Heap} {cP : Addr}
structure CDrw (P : Program) (w : World) (K : PySem.W.Frag) (mg : Str → Option Value) (base : Heap) : Prop extends CTake P w K mg base where
  words : Has P w K mg base "_law_words" 3 ["_law_pot_here", "_law_many"] spWords
  deed : Has P w K mg base "_law_deed" 3 ["_law_pot_here", "_law_inks_here", "_law_tags"] (spDeed K)
  odd : Has P w K mg base "_law_odd" 4 ["_law_pot_here", "_law_inks_here"] (spOdd K)
abbrev s_drawn : Stmt := topS 29
theorem sc_drawn : FnScope ["_law_pot_here", "_law_inks_here", "_law_deed_here", "_law_way", "_law_at_here", "_law_some"] ["_law_pot_here", "_law_inks_here"] (defScope s_drawn) := ⟨rfl, rfl, rfl, by decide +kernel, rfl, by decide +kernel, by decide +kernel⟩

def spDrawn (K : PySem.W.Frag) : Sp := fun vs H Q _ => ∃ (pt li : Addr) (us : List V) (inks : List Lay), vs = [.ref pt, .ref li] ∧ Pot H pt ∧ H li = some (.lst us) ∧ li ≠ pt ∧ DpAll K H us (inks.map layD) ∧ InksOk inks ∧
  ∀ v H', OddT K pt H' v → Fd.St (some pt) H H' → Q v H'
theorem ok_drawn {f : Addr} {fd : FuncData} (F : Fun K "_law_drawn" "_law_drawn" s_drawn f fd) (M : Blt mg) (C : CDrw P w K mg base) : FnOk P w K mg base CX0 5 f fd ["_law_pot_here", "_law_inks_here"] (spDrawn K) := by
  refine F.ok sc_drawn (fun vs H Q E h => ?_) (fun cdv A outer s H vs Q E hr h => ?_)
  · obtain ⟨pt, li, us, inks, rfl, _⟩ := h
    rfl
  · obtain ⟨pt, li, us, inks, rfl, pp, hli, nlip, ali, iok, k⟩ := h
    refine ⟨_, (pss_cons (ps_set (i := 2) sc_drawn.nd rfl (by first | exact Or.inl rfl | exact Or.inr rfl) (callH C.deed hr (by rfl) (pa_cons (pv 0) (pa_cons (pv 1) (pa_cons (callH C.words hr (by rfl) (pa_cons (pv 0) (pa_cons pe_int pa_nil))) pa_nil)))))
      (pss_cons (ps_par (i := 3) (j := 4) (by rfl) sc_drawn.nd rfl rfl (by decide) rfl rfl (pa_cons (callH C.take hr (by rfl) (pa_cons (pv 0) (pa_cons pe_int pa_nil))) (pa_cons (callH C.take hr (by rfl) (pa_cons (pv 0) (pa_cons (pe_callB (k_len (K := K) rfl) (by rfl) M.len (by decide +kernel) (pa_cons (pv 2) pa_nil)) pa_nil))) pa_nil)) (by rfl))
      (pss_cons (ps_if (pt_cmpR op_lt (pv 3) pe_int (nomark _)) (pss_one (ps_ret (pv 2))) pss_nil)
      (pss_cons (ps_if (pt_cmpR op_lt (pv 3) pe_int (nomark _)) (pss_one (ps_ret (pe_op (k_catS (K := K) rfl) (pe_op (k_catS (K := K) rfl) (pe_slice (k_slS (K := K) rfl) (pv 2) po_none (po_some (pv 4))) (pe_tup (pa_cons (callH C.odd hr (by rfl) (pa_cons (pv 0) (pa_cons (pv 1) pa_nil))) pa_nil))) (pe_slice (k_slS (K := K) rfl) (pv 2) (po_some (pe_op op_add (pv 4) pe_int)) po_none)))) pss_nil)
      (pss_cons (ps_if (pt_cmpR op_eq (pv 3) pe_int (nomark _)) (pss_one (ps_ret (pe_op (k_catS (K := K) rfl) (pe_slice (k_slS (K := K) rfl) (pv 2) po_none (po_some (pv 4))) (pe_slice (k_slS (K := K) rfl) (pv 2) (po_some (pe_op op_add (pv 4) pe_int)) po_none)))) pss_nil)
      (pss_cons (ps_if (pt_cmpR op_eq (pv 3) pe_int (nomark _)) (pss_cons (ps_set (i := 4) sc_drawn.nd rfl (by first | exact Or.inl rfl | exact Or.inr rfl) (callH C.take hr (by rfl) (pa_cons (pv 0) (pa_cons (pe_op op_add (pe_callB (k_len (K := K) rfl) (by rfl) M.len (by decide +kernel) (pa_cons (pv 2) pa_nil)) pe_int) pa_nil))))
      (pss_one (ps_ret (pe_op (k_catS (K := K) rfl) (pe_op (k_catS (K := K) rfl) (pe_slice (k_slS (K := K) rfl) (pv 2) po_none (po_some (pv 4))) (pe_tup (pa_cons (callH C.odd hr (by rfl) (pa_cons (pv 0) (pa_cons (pv 1) pa_nil))) pa_nil))) (pe_slice (k_slS (K := K) rfl) (pv 2) (po_some (pv 4)) po_none))))) pss_nil)
      (pss_cons (ps_set (i := 5) sc_drawn.nd rfl (by first | exact Or.inl rfl | exact Or.inr rfl) (pe_lst (pa_cons (pe_callTy (k_lst (K := K) rfl) (by rfl) M.list (by decide +kernel) (pa_cons (pv 2) pa_nil)) (pa_cons (pe_tup (pa_cons (pv 2) pa_nil)) (pa_cons (pe_lst (pa_cons (pv 2) pa_nil)) (pa_cons (pe_ix (k_ixT (K := K) rfl) (pv 2) pe_int (fun _ _ => rfl)) (pa_cons pe_str (pa_cons (callH C.odd hr (by rfl) (pa_cons (pv 0) (pa_cons (pv 1) pa_nil))) (pa_cons (pe_op (k_catS (K := K) rfl) (pv 2) (pv 2)) (pa_cons (pe_callTy (call_dictP rfl) (by rfl) M.dict (by decide +kernel) (pa_cons (pe_lst (pa_cons (pe_tup (pa_cons pe_int (pa_cons (pe_ix (k_ixT (K := K) rfl) (pv 2) pe_int (fun _ _ => rfl)) pa_nil))) pa_nil)) pa_nil)) pa_nil))))))))))
      (pss_one (ps_ret (pe_ix (k_ixL (K := K) rfl) (pv 5) (callH C.take hr (by rfl) (pa_cons (pv 0) (pa_cons (pe_callB (k_len (K := K) rfl) (by rfl) M.len (by decide +kernel) (pa_cons (pv 5) pa_nil)) pa_nil))) (fun _ _ => rfl))))))))))), ?_⟩
    simp only [tSeq, tIfS, tTest, tOp, tUn, tVar, tC, rI, rI0, rU, rEq, rNe, rIxL, rIxT, rIxS, tCB, tCons, tNil, tRet, tRetN, tAsg, gTup, gCons, gNil, gName, gSub, rSetL, tNext, tDrop, tLst, tTup, tCall, tIf, tB, tAnd, tOr, tNot, tSl, tPart, tNoPart, tM1, tM0, tBM, tBM0, tLcE, tForE, iRng1, iRng2, iTup, iList, iStr, tYes, wipe, startDef, cxK, noxK, exists_and_left, exists_eq_left', exists_eq_left, exists_eq_right, Option.some.injEq, V.int.injEq, V.ref.injEq, V.str.injEq, V.bl.injEq, List.cons.injEq, and_true, true_and, List.append_nil, List.map_cons, List.map_nil, List.length_cons, List.length_nil, List.replicate, List.nil_append, List.cons_append, List.set_cons_zero, List.set_cons_succ, List.getElem?_cons_zero, List.getElem?_cons_succ, decide_eq_true_eq, exists_const, Nat.reduceAdd, Nat.reduceSub, List.replicate_succ, List.replicate_zero, exists_prop, and_assoc, List.set_nil, rLenK, rTupK, rLstK, rReprK, rEqD, rNeD, rIn, rAll, rAppend, rCat, ↓reduceIte, Bool.false_eq_true, iEnumT, rSortedPO, rIsi, rRep, rReverse, tLstRg, tTupRg, tRg1, tRg2, rSlL, rSlT, rSortedI, rSlF, rCatF, rMax, tLc2E, rSortedL, rSortedT, gUnl, tPar, rReprX, tChain, tDNewK, tDisp, tPairs, tAndV, tNotV, tFd, sFd, tMeth, tMake, tMakeK, gStar, iZipM, iItems, tLock, tSpread, tDcE, tDGet, sDPut, tPar3, tNever, rIxD, tChain, iEnum, tDIn, tDNotIn, gHd, spTake, spWords, spDeed, spOdd]
    have nl' : some li ≠ some pt := fun z => nlip (Option.some.inj z)
    refine ⟨2, rfl, pp, by decide, fun lt tgs H1 t4 tn _ nlt hlt s1 => ?_⟩
    have nltp : lt ≠ pt := pp.ne nlt
    refine ⟨s1.pt, us, s1.same li _ nl' hli, nlip, inks, dpsSt pp.potO s1 (flat_lays inks) ali, iok, tgs, hlt, nltp, by omega, by omega, tn, fun a xs H2 _ ha l4 sc hd s2 => ⟨s2.pt, by decide, by decide, fun d H3 d0 d1 s3 => ?_⟩⟩
    obtain ⟨z0, r0, e0⟩ := hd
    have pos : 0 < xs.length := by rw [e0]; simp
    have ht3 : SqT K H3 a xs := St.tup s2.pot s3 (SqT.of ha)
    refine ⟨xs, .inr ht3, s3.pt, by omega, Nat.lt_of_le_of_lt (Nat.log2_le_self _) (by omega), fun e H4 e0' e1 s4 => ?_⟩
    have ht4 := St.tup s3.pot s4 ht3
    have s04 := ((s1.trans s2).trans s3).trans s4
    have hli4 := s04.same li _ nl' hli
    have ali4 := dpsSt pp.potO s04 (flat_lays inks) ali
    have line : (1000 : Nat) < sizeLine := by decide
    have scO : ∀ Hx, ∀ y ∈ xs, OddV K pt Hx y := fun Hx y m => (sc y m).oddV
    have smT' : ∀ {Ha Hb : Hp}, Pot Ha pt → Same Ha Hb → Fd.St (some pt) Ha Hb := fun p s => St.ofSame p.potO s
    clear s1 s2 s3 ht3 ha
    have ins : ∀ (Hx : Hp) (lo hi : Int), Fd.St (some pt) H4 Hx → ∃ x, SqT K Hx a x ∧ ∀ (p : Addr) (H' : Hp), Same Hx H' → SqT K H' p (cutV x none (some lo)) → Pot H' pt ∧ ∃ x, H' li = some (HO.lst x) ∧ li ≠ pt ∧ ∃ x_1, DpAll K H' x (List.map layD x_1) ∧ InksOk x_1 ∧
        ∀ (v : V) (H'_1 : Hp), OddV K pt H'_1 v → Fd.St (some pt) H' H'_1 → 1 ≤ sizeLine ∧ ∀ (p_1 : Addr), H'_1 p_1 = none → ∃ x, SqT K (upd H'_1 p_1 (HO.tup [v])) p x ∧ ∃ x_2, SqT K (upd H'_1 p_1 (HO.tup [v])) p_1 x_2 ∧ x.length + x_2.length ≤ sizeLine ∧
        ∀ (p : Addr) (H' : Hp), Same (upd H'_1 p_1 (HO.tup [v])) H' → SqT K H' p (x ++ x_2) → ∃ x, SqT K H' a x ∧ ∀ (p_2 : Addr) (H'_2 : Hp), Same H' H'_2 → SqT K H'_2 p_2 (cutV x (some hi) none) → ∃ x, SqT K H'_2 p x ∧ ∃ x_3, SqT K H'_2 p_2 x_3 ∧ x.length + x_3.length ≤ sizeLine ∧
        ∀ (p : Addr) (H' : Hp), Same H'_2 H' → SqT K H' p (x ++ x_3) → Q (V.ref p) H' := by
      intro Hx lo hi sx
      have htx := St.tup s4.pot sx ht4
      refine ⟨xs, htx, fun p5 H5 s5 h5 => ?_⟩
      have t5 := sx.trans (smT' sx.pt s5)
      have s05 := s04.trans t5
      refine ⟨t5.pt, us, s05.same li _ nl' hli, nlip, inks, dpsSt pp.potO s05 (flat_lays inks) ali, iok, fun v H6 ov s6 => ⟨by decide, fun p6 hp6 => ?_⟩⟩
      have s7 : Same H6 (upd H6 p6 (.tup [v])) := same_new hp6
      have l7 : SqT K (upd H6 p6 (.tup [v])) p6 [v] := SqT.of upd_same
      generalize upd H6 p6 (.tup [v]) = H7 at s7 l7
      have t7 := s6.trans (smT' s6.pt s7)
      have c1 := cutV_le (xs := xs) (lo := none) (hi := some lo)
      have c2 := cutV_le (xs := xs) (lo := some hi) (hi := none)
      refine ⟨_, St.tup t5.pot t7 h5, _, l7, by simp; omega, fun p8 H8 s8 h8 => ?_⟩
      have t8 := t7.trans (smT' t7.pt s8)
      refine ⟨xs, St.tup s4.pot (t5.trans t8) ht4, fun p9 H9 s9 h9 => ⟨_, St.tup t8.pot (smT' t8.pt s9) h8, _, h9, by simp; omega, fun p10 H10 s10 h10 => ?_⟩⟩
      have t9 := t8.trans (smT' t8.pt s9)
      have t10 := t9.trans (smT' t9.pt s10)
      refine k _ _ (oddT_tup t10.pt h10 (by simp; omega) fun y m => ?_) (s05.trans t10)
      rcases List.mem_append.mp m with m | m
      · rcases List.mem_append.mp m with m | m
        · exact scO _ y (cutV_mem m)
        · rw [List.mem_singleton.mp m]
          obtain ⟨o, ho⟩ := ov
          have t610 := smT' s6.pt (smT s7 (smT s8 (smT s9 s10)))
          exact ⟨o, fun H2 s => ho H2 (t610.trans s)⟩
      · exact scO _ y (cutV_mem m)
    by_cases c2 : d < 2
    · rw [if_pos c2]
      exact k _ _ (oddT_tup s4.pt ht4 (by omega) (scO _)) s04
    rw [if_neg c2]
    by_cases c5 : d < 5
    · rw [if_pos c5]
      exact ins H4 e (e + 1) (St.refl s4.pot)
    rw [if_neg c5]
    refine ⟨rfl, ?_⟩
    by_cases d5 : d = 5
    · rw [if_pos (by rw [d5])]
      refine ⟨xs, ht4, fun p5 H5 s5 h5 => ⟨xs, St.tup s4.pot (smT' s4.pt s5) ht4, fun p6 H6 s6 h6 => ?_⟩⟩
      have t5 := smT' s4.pt s5
      have t6 := smT' t5.pt s6
      have c1 := cutV_le (xs := xs) (lo := none) (hi := some e)
      have c2 := cutV_le (xs := xs) (lo := some (e + 1)) (hi := none)
      refine ⟨_, St.tup t5.pot t6 h5, _, h6, by omega, fun p7 H7 s7 h7 => ?_⟩
      have t7 := smT' t6.pt s7
      refine k _ _ (oddT_tup t7.pt h7 (by rw [List.length_append]; omega) fun y m => ?_) (s04.trans (t5.trans (t6.trans t7)))
      rcases List.mem_append.mp m with m | m
      · exact scO _ y (cutV_mem m)
      · exact scO _ y (cutV_mem m)
    rw [if_neg d5]
    refine ⟨rfl, ?_⟩
    by_cases d6 : d = 6
    · rw [if_pos d6]
      refine ⟨xs, .inr ht4, s4.pt, by omega, Nat.lt_of_le_of_lt (Nat.log2_le_self _) (by omega), fun g H5 g0 g1 s5 => ?_⟩
      exact ins H5 g g s5
    rw [if_neg d6]
    refine ⟨xs, .inr ht4, fun q1 hq1 => ?_⟩
    have nq1 : q1 ≠ pt := s4.pt.ne hq1
    have s5 : Fd.St (some pt) H4 (upd H4 q1 (.lst xs)) := St.new s4.pot hq1
    have l5 : (upd H4 q1 (.lst xs)) q1 = some (.lst xs) := upd_same
    generalize upd H4 q1 (.lst xs) = H5 at s5 l5
    refine ⟨by decide, fun q2 hq2 => ?_⟩
    have s6 : Fd.St (some pt) H5 (upd H5 q2 (.tup [.ref a])) := St.new s5.pot hq2
    have l6 : (upd H5 q2 (.tup [.ref a])) q2 = some (.tup [.ref a]) := upd_same
    generalize upd H5 q2 (.tup [.ref a]) = H6 at s6 l6
    refine ⟨by decide, fun q3 hq3 => ?_⟩
    have nq3 : q3 ≠ pt := s6.pt.ne hq3
    have s7 : Fd.St (some pt) H6 (upd H6 q3 (.lst [.ref a])) := St.new s6.pot hq3
    have l7 : (upd H6 q3 (.lst [.ref a])) q3 = some (.lst [.ref a]) := upd_same
    generalize upd H6 q3 (.lst [.ref a]) = H7 at s7 l7
    have s47 := s5.trans (s6.trans s7)
    have s07 := s04.trans s47
    have at0 : xs[0]? = some (.str z0) := by rw [e0]; rfl
    refine ⟨xs, St.tup s4.pot s47 ht4, _, atI_nat (j := 0) at0, s7.pt, us, s07.same li _ nl' hli, nlip, inks, dpsSt pp.potO s07 (flat_lays inks) ali, iok, fun v H8 ov s8 => ?_⟩
    have s48 := s47.trans s8
    have ht8 := St.tup s4.pot s48 ht4
    refine ⟨xs, ht8, xs, ht8, by omega, fun q4 H9 s9 h9 => ?_⟩
    have t9 := smT' s8.pt s9
    refine ⟨xs, St.tup s8.pot t9 ht8, _, atI_nat (j := 0) at0, ?_⟩
    refine ⟨by decide, fun q5 hq5 => ?_⟩
    have s10 : Fd.St (some pt) H9 (upd H9 q5 (.tup [.int 0, .str z0])) := St.new t9.pot hq5
    have l10 : (upd H9 q5 (.tup [.int 0, .str z0])) q5 = some (.tup [.int 0, .str z0]) := upd_same
    generalize upd H9 q5 (.tup [.int 0, .str z0]) = H10 at s10 l10
    refine ⟨by decide, fun q6 hq6 => ?_⟩
    have s11 : Fd.St (some pt) H10 (upd H10 q6 (.lst [.ref q5])) := St.new s10.pot hq6
    have l11 : (upd H10 q6 (.lst [.ref q5])) q6 = some (.lst [.ref q5]) := upd_same
    have l10' : SqT K (upd H10 q6 (.lst [.ref q5])) q5 [.int 0, .str z0] := St.tup s10.pot s11 (SqT.of l10)
    generalize upd H10 q6 (.lst [.ref q5]) = H11 at s11 l11 l10'
    refine ⟨[q5], SqL.of l11, [(Sum.inl 0, .str z0)], .cons l10' .nil, fun q7 hq7 => ?_⟩
    generalize mergeK [] [((Sum.inl 0 : L2.Key), V.str z0)] = kvs
    have nq7 : q7 ≠ pt := s11.pt.ne hq7
    have s12 : Fd.St (some pt) H11 (upd H11 q7 (.dK kvs)) := St.new s11.pot hq7
    have l12 : (upd H11 q7 (.dK kvs)) q7 = some (.dK kvs) := upd_same
    generalize upd H11 q7 (.dK kvs) = H12 at s12 l12
    refine ⟨by decide, fun q8 hq8 => ?_⟩
    have nq8 : q8 ≠ pt := s12.pt.ne hq8
    have s13 : Fd.St (some pt) H12 (upd H12 q8 (.lst [.ref q1, .ref q2, .ref q3, .str z0, .str "scrape", v, .ref q4, .ref q7])) := St.new s12.pot hq8
    have l13 : (upd H12 q8 (.lst [.ref q1, .ref q2, .ref q3, .str z0, .str "scrape", v, .ref q4, .ref q7])) q8 = some (.lst [.ref q1, .ref q2, .ref q3, .str z0, .str "scrape", v, .ref q4, .ref q7]) := upd_same
    generalize upd H12 q8 (.lst [.ref q1, .ref q2, .ref q3, .str z0, .str "scrape", v, .ref q4, .ref q7]) = H13 at s13 l13
    have t913 := s10.trans (s11.trans (s12.trans s13))
    have t813 := t9.trans t913
    have t713 := s8.trans t813
    have t613 := s7.trans t713
    have t513 := s6.trans t613
    have t413 := s5.trans t513
    have sm : ∀ {b o Ha Hb}, b ≠ pt → Fd.St (some pt) Ha Hb → Ha b = some o → Hb b = some o := fun n s e => s.same _ _ (fun z => n (Option.some.inj z)) e
    have zmem : V.str z0 ∈ xs := by rw [e0]; exact List.mem_cons_self ..
    have items : ∀ y ∈ ([.ref q1, .ref q2, .ref q3, .str z0, .str "scrape", v, .ref q4, .ref q7] : List V), OddT K pt H13 y := fun y m => by
      simp only [List.mem_cons, List.not_mem_nil, or_false] at m
      rcases m with rfl | rfl | rfl | rfl | rfl | rfl | rfl | rfl
      · exact (odd_lst (sm nq1 t513 l5) nq1).t
      · exact oddT_tup s13.pt (St.tup s6.pot t613 (SqT.of l6)) (by simp) (fun y m => by
          rw [List.mem_singleton.mp m]
          exact odd_tup s13.pt (St.tup s4.pot t413 ht4) (by omega) sc)
      · exact (odd_lst (sm nq3 t713 l7) nq3).t
      · exact (sc _ zmem).oddV.t
      · exact (odd_str ⟨by decide +kernel, by decide +kernel⟩).t
      · obtain ⟨o, ho⟩ := ov.t
        exact ⟨o, fun H2 s => ho H2 (t813.trans s)⟩
      · exact oddT_tup s13.pt (St.tup t9.pot t913 h9) (by rw [List.length_append]; omega) (fun y m => by
          rcases List.mem_append.mp m with m | m
          · exact scO _ y m
          · exact scO _ y m)
      · exact (odd_dict (sm nq7 s13 l12) nq7).t
    have len8 : ([.ref q1, .ref q2, .ref q3, .str z0, .str "scrape", v, .ref q4, .ref q7] : List V).length = 8 := by rfl
    generalize ([.ref q1, .ref q2, .ref q3, .str z0, .str "scrape", v, .ref q4, .ref q7] : List V) = ys at l13 items len8 ⊢
    refine ⟨ys, .inl (SqL.of l13), s13.pt, by omega, by rw [len8]; decide, fun g H14 g0 g1 s14 => ⟨ys, SqL.of (sm nq8 s14 l13), ?_⟩⟩
    obtain ⟨g, rfl⟩ : ∃ g' : Nat, g = (g' : Int) := ⟨g.toNat, by omega⟩
    have hg : g < ys.length := by omega
    refine ⟨_, atI_nat (List.getElem?_eq_getElem hg), k _ _ ?_ (s04.trans (t413.trans s14))⟩
    obtain ⟨o, ho⟩ := items _ (List.getElem_mem hg)
    exact ⟨o, fun H2 s => ho H2 (s14.trans s)⟩
end

/-! ### a word that the kinds don't have -/
theorem ns_none {K : PySem.W.Frag} {kd : Addr} {es : Array DictEntry} {n : Nat} {t0 t1 t2 t3 t4 t5 : Tok} (lK : K.lookup kd = some ⟨.type "dict", none, .dict es n, #[]⟩)
    (kW : es.toList.map (·.key) = [.str "lay" t0, .str "wait" t1, .str "wash" t2, .str "warm" t3, .str "scrape" t4, .str "rub" t5]) : ∀ z, kindsOf z = none → PySem.W.nsIn K kd z = some none := by
  intro z hz
  have ne : ∀ x : Str, x ∈ (["lay", "wait", "wash", "warm", "scrape", "rub"] : List Str) → ¬ x = z := fun x m e => by
    subst e
    simp only [List.mem_cons, List.not_mem_nil, or_false] at m
    rcases m with rfl | rfl | rfl | rfl | rfl | rfl <;> exact absurd hz (by decide +kernel)
  have keys : ∀ e ∈ es.toList, ∃ (x : Str) (t : Tok), e.key = .str x t ∧ x ∈ (["lay", "wait", "wash", "warm", "scrape", "rub"] : List Str) := fun e m => by
    have mk : e.key ∈ es.toList.map (·.key) := List.mem_map.mpr ⟨e, m, rfl⟩
    rw [kW] at mk
    simp only [List.mem_cons, List.not_mem_nil, or_false] at mk
    rcases mk with q | q | q | q | q | q <;> exact ⟨_, _, q, by decide +kernel⟩
  unfold PySem.W.nsIn
  rw [lK]
  have f : es.toList.find? (fun e => e.key.isStr z) = none := List.find?_eq_none.mpr fun e m h => by
    obtain ⟨x, t, ek, mx⟩ := keys e m
    rw [ek] at h
    exact ne x mx (by simpa [Value.isStr] using h)
  have r : es.toList.any (fun e => e.refKey) = false := List.any_eq_false.mpr fun e m h => by
    obtain ⟨x, t, ek, mx⟩ := keys e m
    unfold DictEntry.refKey at h
    rw [ek] at h
    simp at h
  show (match es.toList.find? (fun e => e.key.isStr z) with | some e => some (some e.val) | none => if es.toList.any (fun e => e.refKey) then none else some none) = some none
  rw [f, r]
  rfl

/-! ### the law -/
def kwG : List Value → List Value → List Value
  | [], [p, t] => [t, p]
  | _, _ => []
def kwV : List V → List V → List V
  | [], [p, t] => [t, p]
  | _, _ => []
theorem stFresh {p : Addr} {H0 H H' : Hp} (s : Fd.St (some p) H H') (s0 : Same H0 H) (np : H0 p = none) : Same H0 H' := fun a o e => s.same a o (fun z => by
  cases z
  rw [e] at np
  cases np) (s0 _ _ e)
theorem units70 {A : Around} {k : Nat} (hr : Room k A) (h : 1 ≤ k) : A.units + 70 < cLine := by
  have := hr.un
  omega
theorem niceW_bool (b : Bool) : NiceW 20 (.bool b) := by
  refine ⟨?_, ?_, ?_, ?_, ?_, ?_⟩ <;> cases b <;> simp [PyData.showable, PyData.hasDict, PyData.leavesShort, PyData.weight, PyData.canLay0, PyData.depth]
theorem nice_bools (bs : List Bool) (n : bs.length ≤ 10) : Nice (.list (bs.map PyData.bool)) := by
  have q := niceWs (n := 20) (k := 0) (ds := bs.map PyData.bool) fun d m => by
    obtain ⟨b, _, rfl⟩ := List.mem_map.mp m
    exact ⟨niceW_bool b, by simp [PyData.depth]⟩
  refine (q.lst (by decide)).nice ?_
  rw [List.length_map]
  omega
theorem nice_inks {inks : List Lay} (h : InksOk inks) : Nice (.list (inks.map layD)) := by
  have q := niceWs (n := 502) (k := 1) (ds := inks.map layD) fun d m => by
    obtain ⟨l, ml, rfl⟩ := List.mem_map.mp m
    exact ⟨niceW_lay ⟨(h.ok l ml).1.1, (h.ok l ml).2.2⟩, by simp [layD, PyData.depth, PyData.depthAll]⟩
  have := h.most
  refine (q.lst (by decide)).nice ?_
  rw [List.length_map]
  omega
section
variable {P : Program} {w : World} {K : PySem.W.Frag} {mg : Str → Option Value} {base : Heap} {cP : Addr}
structure CLaw (P : Program) (w : World) (K : PySem.W.Frag) (mg : Str → Option Value) (base : Heap) (cP : Addr) : Prop where
  «at» : Has P w K mg base "_law_at" 1 ["_law_script", "_law_k"] (spAt K)
  pot : Has P w K mg base "_law_pot" 1 ["_law_cell"] spPot
  inks : Has P w K mg base "_law_inks" 4 ["_law_pot_here", "_law_most"] (spInks K)
  drawn : Has P w K mg base "_law_drawn" 5 ["_law_pot_here", "_law_inks_here"] (spDrawn K)
  fits : Has P w K mg base "_law_fits" 2 ["_law_one", "_law_names"] (spFits K)
  is_deed : Has P w K mg base "is_deed" 4 ["thing", "palette"] (spIsDeedX K cP)
  is_deed_k : HasKW P w K mg base "is_deed" 4 ["thing", "palette"] ["palette", "thing"] kwG kwV (spIsDeedX K cP)
  wears : Has P w K mg base "wears" 1 ["deed"] (spWears K)
  mkPalette : HasI P w K mg base "Palette" cP 3 ["self", "inks"] (spPalI K cP)
  Palette_inks : HasM P w K mg base cP "inks" 1 ["self"] (spInksP K cP)
abbrev s_law : Stmt := topS 33
theorem sc_law : FnScope ["_law_script", "_law_k", "_law_pot_here", "_law_inks_here", "_law_made", "_law_one", "_law_due", "_law_ink", "_law_fade"] ["_law_script"] (defScope s_law) := ⟨rfl, rfl, rfl, by decide +kernel, rfl, by decide +kernel, by decide +kernel⟩

def spLaw (K : PySem.W.Frag) : Sp := fun vs H Q _ => ∃ (a : Addr) (ns : List Int), vs = [.ref a] ∧ SqL K H a (ns.map V.int) ∧ ns.length ≤ 63 ∧ ∀ H', Q (.bl true) H'
theorem ok_law {f : Addr} {fd : FuncData} (F : Fun K "law" "law" s_law f fd) (M : Blt mg) (TPalette : TPal K mg cP) (C : CLaw P w K mg base cP) : GOk P w K mg base CX0 6 f fd ["_law_script"] (spLaw K) := by
  refine okG F sc_law (fun vs H Q E h => ?_) (fun cdv A outer s H vs Q E hr gd h => ?_)
  · obtain ⟨a, ns, rfl, _⟩ := h
    rfl
  · obtain ⟨a, ns, rfl, hs, hn, k⟩ := h
    have hu := hu_of hr
    have hu70 := units70 hr (by decide)
    refine ⟨_, (pss_cons (ps_for PassesOwn.never rfl (pi_range1 (by rfl) M.range (pa_cons (pe_callB (call_max2 rfl) (by rfl) M.max (by decide +kernel) (pa_cons pe_int (pa_cons (pe_callB (call_min2 rfl) (by rfl) M.min (by decide +kernel) (pa_cons (pe_callB (k_len (K := K) rfl) (by rfl) M.len (by decide +kernel) (pa_cons (pv 0) pa_nil)) (pa_cons pe_int pa_nil))) pa_nil))) pa_nil)) (pg_name (i := 1) sc_law.nd rfl (by first | exact Or.inl rfl | exact Or.inr rfl)) (pss_cons (ps_set (i := 2) sc_law.nd rfl (by first | exact Or.inl rfl | exact Or.inr rfl) (callH C.pot hr (by rfl) (pa_cons (pe_op op_add (callH C.at hr (by rfl) (pa_cons (pv 0) (pa_cons (pv 1) pa_nil))) (pe_op op_mul pe_int (pv 1))) pa_nil)))
      (pss_cons (ps_set (i := 3) sc_law.nd rfl (by first | exact Or.inl rfl | exact Or.inr rfl) (callH C.inks hr (by rfl) (pa_cons (pv 2) (pa_cons pe_int pa_nil))))
      (pss_cons (ps_par (i := 4) (j := 5) (by rfl) sc_law.nd rfl rfl (by decide) rfl rfl (pa_cons (makeC C.mkPalette hr (by rfl) (pa_cons (pe_callTy (k_lst (K := K) rfl) (by rfl) M.list (by decide +kernel) (pa_cons (pv 3) pa_nil)) pa_nil)) (pa_cons (callH C.drawn hr (by rfl) (pa_cons (pv 2) (pa_cons (pv 3) pa_nil))) pa_nil)) (by rfl))
      (pss_cons (ps_set (i := 6) sc_law.nd rfl (by first | exact Or.inl rfl | exact Or.inr rfl) (callH C.fits hr (by rfl) (pa_cons (pv 5) (pa_cons (pe_lc (own := [("_law_ink", 7), ("_law_fade", 8)]) (g := gTup K 2 (gCons (gName 7) (gCons (gName 8) gNil))) (tt := tYes) rfl sc_law.nd (pi_list (pv 3)) (blkOk_by (own := [("_law_ink", 7), ("_law_fade", 8)]) (N := ["_law_script", "_law_k", "_law_pot_here", "_law_inks_here", "_law_made", "_law_one", "_law_due", "_law_ink", "_law_fade"]) (sc := defScope s_law) (by decide +kernel)) (fun _ _ _ _ _ => (pg_tup (n := 2) (by rfl) (pgs_cons (pg_name (i := 7) sc_law.nd rfl (by first | exact Or.inl rfl | exact Or.inr rfl)) (pgs_cons (pg_name (i := 8) sc_law.nd rfl (by first | exact Or.inl rfl | exact Or.inr rfl)) pgs_nil)))) (fun _ _ _ _ _ => pts_nil) (fun _ _ _ _ _ => (pv 7))) pa_nil))))
      (pss_cons (ps_if (pt_cmpR op_ne (pe_callB (k_repr (K := K) rfl gd hu70) (by rfl) M.repr (by decide +kernel) (pa_cons (pe_lst (pa_cons (callH C.is_deed hr (by rfl) (pa_cons (pv 5) (pa_cons (pv 4) pa_nil))) (pa_cons (callKW0 C.is_deed_k hr (by rfl) (pk_cons (pv 4) (pk_cons (pv 5) pk_nil))) pa_nil))) pa_nil)) (pe_callB (k_repr (K := K) rfl gd hu70) (by rfl) M.repr (by decide +kernel) (pa_cons (pe_lst (pa_cons (pv 6) (pa_cons (pv 6) pa_nil))) pa_nil)) (nomark _)) (pss_one (ps_ret pe_bl)) pss_nil)
      (pss_cons (ps_if (PW.pt (pw_and (pt_val (pv 6)) (pw_and1 (pt_cmpR op_ne (pe_callB (k_repr (K := K) rfl gd hu70) (by rfl) M.repr (by decide +kernel) (pa_cons (callH C.wears hr (by rfl) (pa_cons (pv 5) pa_nil)) pa_nil)) (pe_callB (k_repr (K := K) rfl gd hu70) (by rfl) M.repr (by decide +kernel) (pa_cons (pe_cmpR (k_in (K := K) rfl) (pe_ix (k_ixT (K := K) rfl) (pv 5) pe_int (fun _ _ => rfl)) (pe_tup (pa_cons pe_str (pa_cons pe_str pa_nil))) (by rfl)) pa_nil)) (nomark _))))) (pss_one (ps_ret pe_bl)) pss_nil)
      (pss_one (ps_if (pt_cmpR (k_neD (K := K) rfl hr.units) (methC0 C.Palette_inks TPalette.cl hr (pv 4)) (pv 3) (nomark _)) (pss_one (ps_ret pe_bl)) pss_nil)))))))))
      (pss_one (ps_ret pe_bl))), ?_⟩
    simp only [tSeq, tIfS, tTest, tOp, tUn, tVar, tC, rI, rI0, rU, rEq, rNe, rIxL, rIxT, rIxS, tCB, tCons, tNil, tRet, tRetN, tAsg, gTup, gCons, gNil, gName, gSub, rSetL, tNext, tDrop, tLst, tTup, tCall, tIf, tB, tAnd, tOr, tNot, tSl, tPart, tNoPart, tM1, tM0, tBM, tBM0, tLcE, tForE, iRng1, iRng2, iTup, iList, iStr, tYes, wipe, startDef, cxK, noxK, exists_and_left, exists_eq_left', exists_eq_left, exists_eq_right, Option.some.injEq, V.int.injEq, V.ref.injEq, V.str.injEq, V.bl.injEq, List.cons.injEq, and_true, true_and, List.append_nil, List.map_cons, List.map_nil, List.length_cons, List.length_nil, List.replicate, List.nil_append, List.cons_append, List.set_cons_zero, List.set_cons_succ, List.getElem?_cons_zero, List.getElem?_cons_succ, decide_eq_true_eq, exists_const, Nat.reduceAdd, Nat.reduceSub, List.replicate_succ, List.replicate_zero, exists_prop, and_assoc, List.set_nil, rLenK, rTupK, rLstK, rReprK, rEqD, rNeD, rIn, rAll, rAppend, rCat, ↓reduceIte, Bool.false_eq_true, iEnumT, rSortedPO, rIsi, rRep, rReverse, tLstRg, tTupRg, tRg1, tRg2, rSlL, rSlT, rSortedI, rSlF, rCatF, rMax, tLc2E, rSortedL, rSortedT, gUnl, tPar, rReprX, tChain, tDNewK, tDisp, tPairs, tAndV, tNotV, tFd, sFd, tMeth, tMake, tMakeK, gStar, iZipM, iItems, tLock, tSpread, tDcE, tDGet, sDPut, tPar3, tNever, rIxD, tChain, iEnum, tDIn, tDNotIn, gHd]
    have nm : (ns.map V.int).length = ns.length := List.length_map ..
    refine ⟨_, .inl hs, by rw [nm]; split <;> split <;> omega, by rw [nm]; split <;> split <;> omega, ?_⟩
    generalize Int.toNat _ = N
    refine forRng (fun i σ H' => ∃ (a1 a2 a3 a4 a5 a6 a7 a8 : Option V), σ = [some (.ref a), a1, a2, a3, a4, a5, a6, a7, a8] ∧ Same H H') ⟨none, none, none, none, none, none, none, none, rfl, Same.refl _⟩ ?_ ?_
    · rintro i σ Ha hi ⟨a1, a2, a3, a4, a5, a6, a7, a8, rfl, sa⟩
      rw [show (0 : Int) + (i : Int) = (i : Int) by omega]
      simp only [tSeq, tIfS, tTest, tOp, tUn, tVar, tC, rI, rI0, rU, rEq, rNe, rIxL, rIxT, rIxS, tCB, tCons, tNil, tRet, tRetN, tAsg, gTup, gCons, gNil, gName, gSub, rSetL, tNext, tDrop, tLst, tTup, tCall, tIf, tB, tAnd, tOr, tNot, tSl, tPart, tNoPart, tM1, tM0, tBM, tBM0, tLcE, tForE, iRng1, iRng2, iTup, iList, iStr, tYes, wipe, startDef, cxK, noxK, exists_and_left, exists_eq_left', exists_eq_left, exists_eq_right, Option.some.injEq, V.int.injEq, V.ref.injEq, V.str.injEq, V.bl.injEq, List.cons.injEq, and_true, true_and, List.append_nil, List.map_cons, List.map_nil, List.length_cons, List.length_nil, List.replicate, List.nil_append, List.cons_append, List.set_cons_zero, List.set_cons_succ, List.getElem?_cons_zero, List.getElem?_cons_succ, decide_eq_true_eq, exists_const, Nat.reduceAdd, Nat.reduceSub, List.replicate_succ, List.replicate_zero, exists_prop, and_assoc, List.set_nil, rLenK, rTupK, rLstK, rReprK, rEqD, rNeD, rIn, rAll, rAppend, rCat, ↓reduceIte, Bool.false_eq_true, iEnumT, rSortedPO, rIsi, rRep, rReverse, tLstRg, tTupRg, tRg1, tRg2, rSlL, rSlT, rSortedI, rSlF, rCatF, rMax, tLc2E, rSortedL, rSortedT, gUnl, tPar, rReprX, tChain, tDNewK, tDisp, tPairs, tAndV, tNotV, tFd, sFd, tMeth, tMake, tMakeK, gStar, iZipM, iItems, tLock, tSpread, tDcE, tDGet, sDPut, tPar3, tNever, rIxD, tChain, iEnum, tDIn, tDNotIn, gHd, spAt, spPot, spInks, spPalI, spDrawn, spFits, tCallK, spIsDeedX, kwV]
      refine ⟨ns, i, rfl, sa.seq hs, fun c => ⟨.inl (by decide), fun pt H1 np s1 pp => ⟨pp, by decide, by decide, fun li us inks H2 iok i8 nli hli ali s2 => ?_⟩⟩⟩
      have nlip : li ≠ pt := pp.ne nli
      refine ⟨us, .inl (SqL.of hli), fun q1 hq1 => ?_⟩
      have s3 : Same H2 (upd H2 q1 (.lst us)) := same_new hq1
      have l3 : (upd H2 q1 (.lst us)) q1 = some (.lst us) := upd_same
      generalize upd H2 q1 (.lst us) = H3 at s3 l3
      refine fun p dx hp hdx ndx => ?_
      have s4 : Same H3 (upd (upd H3 dx (.own p)) p (.ins cP dx [])) := smT (same_new hdx) (same_new (by rw [upd_ne (Ne.symm ndx)]; exact hp))
      have l4 : (upd (upd H3 dx (.own p)) p (.ins cP dx [])) p = some (.ins cP dx []) := upd_same
      generalize upd (upd H3 dx (.own p)) p (.ins cP dx []) = H4 at s4 l4
      refine ⟨dx, l4, us, s4 _ _ l3, inks, smDps (smT s3 s4) (flat_lays inks) ali, iok, fun m f H5 _ _ hP fr5 => ?_⟩
      have s25 : Same H2 H5 := fun b o e => fr5 b o (ne_of_none (s3 _ _ e) hp) (s4 b o (s3 _ _ e))
      have t25 : Fd.St (some pt) H2 H5 := St.ofSame s2.pot s25
      have hli5 := s25 _ _ hli
      have ali5 := smDps s25 (flat_lays inks) ali
      refine ⟨t25.pt, us, hli5, nlip, inks, ali5, iok, fun v H6 ov s6 => ?_⟩
      have hli6 := s6.same li _ (fun z => nlip (Option.some.inj z)) hli5
      have ali6 := dpsSt t25.pot s6 (flat_lays inks) ali5
      have s06 : Same H H6 := smT sa (stFresh ((s2.trans t25).trans s6) s1 np)
      have hP6 : PalAt K cP H6 p m f inks := by
        obtain ⟨u, w', hpt⟩ := t25.pt
        obtain ⟨⟨dp, o1⟩, ⟨vs, o2, o3⟩, o4⟩ := hP
        have nmm : m ≠ pt := by
          rintro rfl
          rw [hpt] at o2
          cases o2
          cases inks with
          | nil => have := iok.pos; simp at this
          | cons y r => cases o3 with
            | cons h1 _ => obtain ⟨_, _, ez, _⟩ := Dp.tupInv h1; cases ez
        have mv : ∀ {b o}, b ≠ pt → H5 b = some o → H6 b = some o := fun n e => s6.same _ _ (fun z => n (Option.some.inj z)) e
        exact ⟨⟨dp, mv (ne_of o1 hpt (by intro z; cases z)) o1⟩, ⟨vs, mv nmm o2, dpsSt t25.pot s6 (flat_lays inks) o3⟩, mv (ne_of o4 hpt (by intro z; cases z)) o4⟩
      obtain ⟨o, ho⟩ := ov
      have tg : ∀ Hz, Same H6 Hz → Tg K Hz v o := fun Hz s => ho Hz (St.ofSame s6.pot s)
      have len := lays_len ali6
      have i8' := iok.most
      refine ⟨⟨us, SqL.of hli6⟩, ?_⟩
      refine lcK (K := K) (walk_list (xs := us)) none (fun i ds => ds = ((inks.take i).map (·.1)).map PyData.str) potN (fun H s => SqL.of (s.toSame _ _ hli6)) (by omega) rfl ?_ ?_
      · rintro j z Hb Hb' ds C N' hj sb _ rfl ⟨rfl, ez⟩ go _
        obtain ⟨lay, b, e3, rfl, sq, _⟩ := lays_get ali6 ez
        simp only [tSeq, tIfS, tTest, tOp, tUn, tVar, tC, rI, rI0, rU, rEq, rNe, rIxL, rIxT, rIxS, tCB, tCons, tNil, tRet, tRetN, tAsg, gTup, gCons, gNil, gName, gSub, rSetL, tNext, tDrop, tLst, tTup, tCall, tIf, tB, tAnd, tOr, tNot, tSl, tPart, tNoPart, tM1, tM0, tBM, tBM0, tLcE, tForE, iRng1, iRng2, iTup, iList, iStr, tYes, wipe, startDef, cxK, noxK, exists_and_left, exists_eq_left', exists_eq_left, exists_eq_right, Option.some.injEq, V.int.injEq, V.ref.injEq, V.str.injEq, V.bl.injEq, List.cons.injEq, and_true, true_and, List.append_nil, List.map_cons, List.map_nil, List.length_cons, List.length_nil, List.replicate, List.nil_append, List.cons_append, List.set_cons_zero, List.set_cons_succ, List.getElem?_cons_zero, List.getElem?_cons_succ, decide_eq_true_eq, exists_const, Nat.reduceAdd, Nat.reduceSub, List.replicate_succ, List.replicate_zero, exists_prop, and_assoc, List.set_nil, rLenK, rTupK, rLstK, rReprK, rEqD, rNeD, rIn, rAll, rAppend, rCat, ↓reduceIte, Bool.false_eq_true, iEnumT, rSortedPO, rIsi, rRep, rReverse, tLstRg, tTupRg, tRg1, tRg2, rSlL, rSlT, rSortedI, rSlF, rCatF, rMax, tLc2E, rSortedL, rSortedT, gUnl, tPar, rReprX, tChain, tDNewK, tDisp, tPairs, tAndV, tNotV, tFd, sFd, tMeth, tMake, tMakeK, gStar, iZipM, iItems, tLock, tSpread, tDcE, tDGet, sDPut, tPar3, tNever, rIxD, tChain, iEnum, tDIn, tDNotIn, gHd]
        refine ⟨_, St.tup potN sb sq, rfl, _, _, rfl, _, _, rfl, rfl, ?_⟩
        refine go _ _ (.str lay.1) (St.refl potN) (by simp [flatT]) (.str _) ?_
        rw [take_succ_map _ _ e3, List.map_append]
        rfl
      · rintro D acc ds H7 hD sD hl7 fl al rfl
        rw [len, List.take_length] at al
        obtain rfl := dps_strs_inv al
        have s67 := sD.toSame
        have hdue : (dO inks o) = true → ∃ b z r, v = .ref b ∧ ∀ Hz, Same H6 Hz → SqT K Hz b (.str z :: r) := fun e => by
          cases o with
          | none => cases e
          | some xs =>
            obtain ⟨b, rfl, _⟩ := tg H6 (Same.refl _)
            cases xs with
            | nil => cases e
            | cons y r =>
              cases y with
              | str z => exact ⟨b, z, r, rfl, fun Hz s => by
                  obtain ⟨b', e', h', _⟩ := tg Hz s
                  cases e'
                  exact h'⟩
              | _ => cases e
        refine ⟨o, D, rfl, tg H7 s67, inks, hl7, iok, fun H8 s8 => ?_⟩
        have s68 := smT s67 s8
        refine ⟨o, tg H8 s68, m, f, inks, hP6.same s68, fun H9 s9 => ?_⟩
        have s69 := smT s68 s9
        refine ⟨o, tg H9 s69, m, f, inks, hP6.same s69, fun H10 s10 => ⟨by decide, fun q2 hq2 => ?_⟩⟩
        have s610 := smT s69 s10
        generalize dO inks o = due at hdue ⊢
        have s11 : Same H10 (upd H10 q2 (.lst [.bl due, .bl due])) := same_new hq2
        have l11 : (upd H10 q2 (.lst [.bl due, .bl due])) q2 = some (.lst [.bl due, .bl due]) := upd_same
        generalize upd H10 q2 (.lst [.bl due, .bl due]) = H11 at s11 l11
        have niceB := nice_bools [due, due] (by simp)
        refine ⟨_, .lst (SqL.of l11) (.cons (.bl _) (.cons (.bl _) .nil)), niceB, by decide, fun q3 hq3 => ?_⟩
        have s12 : Same H11 (upd H11 q3 (.lst [.bl due, .bl due])) := same_new hq3
        have l12 : (upd H11 q3 (.lst [.bl due, .bl due])) q3 = some (.lst [.bl due, .bl due]) := upd_same
        generalize upd H11 q3 (.lst [.bl due, .bl due]) = H12 at s12 l12
        refine ⟨_, .lst (SqL.of l12) (.cons (.bl _) (.cons (.bl _) .nil)), niceB, rfl, ?_⟩
        rw [if_neg (by simp)]
        have s612 := smT s610 (smT s11 s12)
        have nice := nice_inks iok
        have fin : ∀ Hz, Same H6 Hz → ∃ x x_1, Hz p = some (HO.ins cP x x_1) ∧ List.lookup (Str.ofString "inks") x_1 = none ∧ spInksP K cP [V.ref p] Hz (fun x H1 => ∃ d, Dp K H1 x d ∧ ∃ x, Dp K H1 (V.ref li) x ∧ SeqAt.shaped d = true ∧ SeqAt.shaped x = true ∧ if (!d.eqv x) = true then Q (V.bl false) H1 else Same H H1) E0 := fun Hz s => by
          obtain ⟨⟨dp, hp6⟩, _, _⟩ := hP6.same s
          refine ⟨dp, _, hp6, by rfl, p, m, f, inks, rfl, hP6.same s, fun q us2 He _ se hqe ale => ⟨_, .lst (SqL.of hqe) ale, _, .lst (SqL.of ((smT s se) _ _ hli6)) (smDps (smT s se) (flat_lays inks) ali6), nice.shaped, nice.shaped, ?_⟩⟩
          rw [nice.refl, if_neg (by decide)]
          exact smT s06 (smT s se)
        cases due with
        | false =>
          rw [if_neg (by decide)]
          exact fin H12 s612
        | true =>
          rw [if_pos rfl]
          obtain ⟨b, z, r, rfl, hb⟩ := hdue rfl
          have ei : inV (V.str z) [V.str "scrape", V.str "rub"] = decide (z = "scrape" ∨ z = "rub") := by
            have := inV_strs ["scrape", "rub"] z
            rw [show [V.str "scrape", V.str "rub"] = (["scrape", "rub"] : List Str).map V.str from rfl, this]
            simp
          refine ⟨b, z, r, rfl, hb H12 s612, fun H13 s13 => ?_⟩
          have s613 := smT s612 s13
          have nB := (niceW_bool (decide (z = "scrape" ∨ z = "rub"))).nice (by decide)
          refine ⟨.bool (decide (z = "scrape" ∨ z = "rub")), .bl _, nB, b, rfl, _, hb H13 s613, V.str z, atI_nat (j := 0) rfl, by decide, fun q4 hq4 => ?_⟩
          have s14 : Same H13 (upd H13 q4 (.tup [.str "scrape", .str "rub"])) := same_new hq4
          have l14 : (upd H13 q4 (.tup [.str "scrape", .str "rub"])) q4 = some (.tup [.str "scrape", .str "rub"]) := upd_same
          generalize upd H13 q4 (.tup [.str "scrape", .str "rub"]) = H14 at s14 l14
          refine ⟨_, .inr (SqT.of l14), rfl, rfl, .bool (decide (z = "scrape" ∨ z = "rub")), by rw [ei]; exact .bl _, nB, rfl, ?_⟩
          rw [if_neg (by simp)]
          exact fin H14 (smT s613 s14)
    · rintro σ Ha ⟨a1, a2, a3, a4, a5, a6, a7, a8, rfl, sa⟩
      simp only [tSeq, tIfS, tTest, tOp, tUn, tVar, tC, rI, rI0, rU, rEq, rNe, rIxL, rIxT, rIxS, tCB, tCons, tNil, tRet, tRetN, tAsg, gTup, gCons, gNil, gName, gSub, rSetL, tNext, tDrop, tLst, tTup, tCall, tIf, tB, tAnd, tOr, tNot, tSl, tPart, tNoPart, tM1, tM0, tBM, tBM0, tLcE, tForE, iRng1, iRng2, iTup, iList, iStr, tYes, wipe, startDef, cxK, noxK, exists_and_left, exists_eq_left', exists_eq_left, exists_eq_right, Option.some.injEq, V.int.injEq, V.ref.injEq, V.str.injEq, V.bl.injEq, List.cons.injEq, and_true, true_and, List.append_nil, List.map_cons, List.map_nil, List.length_cons, List.length_nil, List.replicate, List.nil_append, List.cons_append, List.set_cons_zero, List.set_cons_succ, List.getElem?_cons_zero, List.getElem?_cons_succ, decide_eq_true_eq, exists_const, Nat.reduceAdd, Nat.reduceSub, List.replicate_succ, List.replicate_zero, exists_prop, and_assoc, List.set_nil, rLenK, rTupK, rLstK, rReprK, rEqD, rNeD, rIn, rAll, rAppend, rCat, ↓reduceIte, Bool.false_eq_true, iEnumT, rSortedPO, rIsi, rRep, rReverse, tLstRg, tTupRg, tRg1, tRg2, rSlL, rSlT, rSortedI, rSlF, rCatF, rMax, tLc2E, rSortedL, rSortedT, gUnl, tPar, rReprX, tChain, tDNewK, tDisp, tPairs, tAndV, tNotV, tFd, sFd, tMeth, tMake, tMakeK, gStar, iZipM, iItems, tLock, tSpread, tDcE, tDGet, sDPut, tPar3, tNever, rIxD, tChain, iEnum, tDIn, tDNotIn, gHd]
      exact k Ha
end

/-! ### what the top has written; the law by its head -/
set_option maxHeartbeats 0 in
theorem all_mk {l : PySem.W.OpenLaw} (w : World) {K : PySem.W.Frag} {h : Heap} {mg : Str → Option Value} {fa cP kd : Addr} (X : K.In h) (G : h.Ns mainGlobals mg) (hfa : mg "law" = some (.ref fa))
    (aC_Palette : PySem.W.nsIn K mainGlobals "Palette" = some (some (.ref cP)))
    (pg_Palette : PySem.W.plainGet K cP Str.empty = true)
    (hd_Palette : PySem.W.hasDictIn K cP = true)
    (po_Palette : PySem.W.plainOver K cP = true)
    (sa_Palette : PySem.W.findIn K (.ref cP) "__setattr__" = some (some (.builtin "object.__setattr__")))
    (mk_Palette : PySem.W.makesIn K cP = true)
    (kc_Palette : PySem.W.keepIn K (.ref cP) = true)
    (n_Palette_made : PySem.W.findIn K (.ref cP) "_made" = some none)
    (n_Palette_fades : PySem.W.findIn K (.ref cP) "_fades" = some none)
    (iha_Palette : PySem.W.findIn K (.ref cP) "__class__" = some (some (.builtin "object.__class__")))
    (ihn_Palette : PySem.W.specialIn K (.builtin "object.__class__") "__get__" = some (some (.builtin "getset_descriptor.__get__")))
    (ihk_Palette : PySem.W.takesIn K (.builtin "object.__class__") = some true)
    (ihm_Palette : PySem.W.mroIn K cP (.type "object") = some true)
    {f_is_whole : Addr} {od_is_whole an_is_whole : Option Addr} {sl_is_whole : Array (Option Value)} {oc_is_whole kv_is_whole dc_is_whole pm_is_whole cd_is_whole ct_is_whole : Value}
    (a_is_whole : PySem.W.nsIn K mainGlobals "is_whole" = some (some (.ref f_is_whole)))
    (l_is_whole : K.lookup f_is_whole = some ⟨oc_is_whole, od_is_whole, .func (PySem.W.fnOf "is_whole" "is_whole" (defArgs s_is_whole) (defBody s_is_whole) (defScope s_is_whole) .none kv_is_whole dc_is_whole pm_is_whole an_is_whole cd_is_whole ct_is_whole), sl_is_whole⟩)
    (c_is_whole : PySem.W.codeIn K cd_is_whole "is_whole" = true)
    (k_is_whole : PySem.W.keepIn K (.ref f_is_whole) = true)
    {f_is_name : Addr} {od_is_name an_is_name : Option Addr} {sl_is_name : Array (Option Value)} {oc_is_name kv_is_name dc_is_name pm_is_name cd_is_name ct_is_name : Value}
    (a_is_name : PySem.W.nsIn K mainGlobals "is_name" = some (some (.ref f_is_name)))
    (l_is_name : K.lookup f_is_name = some ⟨oc_is_name, od_is_name, .func (PySem.W.fnOf "is_name" "is_name" (defArgs s_is_name) (defBody s_is_name) (defScope s_is_name) .none kv_is_name dc_is_name pm_is_name an_is_name cd_is_name ct_is_name), sl_is_name⟩)
    (c_is_name : PySem.W.codeIn K cd_is_name "is_name" = true)
    (k_is_name : PySem.W.keepIn K (.ref f_is_name) = true)
    {f_is_amount : Addr} {od_is_amount an_is_amount : Option Addr} {sl_is_amount : Array (Option Value)} {oc_is_amount kv_is_amount dc_is_amount pm_is_amount cd_is_amount ct_is_amount : Value}
    (a_is_amount : PySem.W.nsIn K mainGlobals "is_amount" = some (some (.ref f_is_amount)))
    (l_is_amount : K.lookup f_is_amount = some ⟨oc_is_amount, od_is_amount, .func (PySem.W.fnOf "is_amount" "is_amount" (defArgs s_is_amount) (defBody s_is_amount) (defScope s_is_amount) .none kv_is_amount dc_is_amount pm_is_amount an_is_amount cd_is_amount ct_is_amount), sl_is_amount⟩)
    (c_is_amount : PySem.W.codeIn K cd_is_amount "is_amount" = true)
    (k_is_amount : PySem.W.keepIn K (.ref f_is_amount) = true)
    {f_is_ink : Addr} {od_is_ink an_is_ink : Option Addr} {sl_is_ink : Array (Option Value)} {oc_is_ink kv_is_ink dc_is_ink pm_is_ink cd_is_ink ct_is_ink : Value}
    (a_is_ink : PySem.W.nsIn K mainGlobals "is_ink" = some (some (.ref f_is_ink)))
    (l_is_ink : K.lookup f_is_ink = some ⟨oc_is_ink, od_is_ink, .func (PySem.W.fnOf "is_ink" "is_ink" (defArgs s_is_ink) (defBody s_is_ink) (defScope s_is_ink) .none kv_is_ink dc_is_ink pm_is_ink an_is_ink cd_is_ink ct_is_ink), sl_is_ink⟩)
    (c_is_ink : PySem.W.codeIn K cd_is_ink "is_ink" = true)
    (k_is_ink : PySem.W.keepIn K (.ref f_is_ink) = true)
    {f_Palette_init : Addr} {od_Palette_init an_Palette_init : Option Addr} {sl_Palette_init : Array (Option Value)} {oc_Palette_init kv_Palette_init dc_Palette_init pm_Palette_init cd_Palette_init ct_Palette_init : Value}
    (m_Palette_init : PySem.W.findIn K (.ref cP) "__init__" = some (some (.ref f_Palette_init)))
    (i_Palette_init : PySem.W.isFn K (.ref f_Palette_init) = true)
    (l_Palette_init : K.lookup f_Palette_init = some ⟨oc_Palette_init, od_Palette_init, .func (PySem.W.fnOf "__init__" "Palette.__init__" (defArgs s_Palette_init) (defBody s_Palette_init) (defScope s_Palette_init) .none kv_Palette_init dc_Palette_init pm_Palette_init an_Palette_init cd_Palette_init ct_Palette_init), sl_Palette_init⟩)
    (c_Palette_init : PySem.W.codeIn K cd_Palette_init "Palette.__init__" = true)
    (k_Palette_init : PySem.W.keepIn K (.ref f_Palette_init) = true)
    {f_Palette_names : Addr} {od_Palette_names an_Palette_names : Option Addr} {sl_Palette_names : Array (Option Value)} {oc_Palette_names kv_Palette_names dc_Palette_names pm_Palette_names cd_Palette_names ct_Palette_names : Value}
    (m_Palette_names : PySem.W.findIn K (.ref cP) "names" = some (some (.ref f_Palette_names)))
    (i_Palette_names : PySem.W.isFn K (.ref f_Palette_names) = true)
    (l_Palette_names : K.lookup f_Palette_names = some ⟨oc_Palette_names, od_Palette_names, .func (PySem.W.fnOf "names" "Palette.names" (defArgs s_Palette_names) (defBody s_Palette_names) (defScope s_Palette_names) .none kv_Palette_names dc_Palette_names pm_Palette_names an_Palette_names cd_Palette_names ct_Palette_names), sl_Palette_names⟩)
    (c_Palette_names : PySem.W.codeIn K cd_Palette_names "Palette.names" = true)
    (k_Palette_names : PySem.W.keepIn K (.ref f_Palette_names) = true)
    {f_Palette_inks : Addr} {od_Palette_inks an_Palette_inks : Option Addr} {sl_Palette_inks : Array (Option Value)} {oc_Palette_inks kv_Palette_inks dc_Palette_inks pm_Palette_inks cd_Palette_inks ct_Palette_inks : Value}
    (m_Palette_inks : PySem.W.findIn K (.ref cP) "inks" = some (some (.ref f_Palette_inks)))
    (i_Palette_inks : PySem.W.isFn K (.ref f_Palette_inks) = true)
    (l_Palette_inks : K.lookup f_Palette_inks = some ⟨oc_Palette_inks, od_Palette_inks, .func (PySem.W.fnOf "inks" "Palette.inks" (defArgs s_Palette_inks) (defBody s_Palette_inks) (defScope s_Palette_inks) .none kv_Palette_inks dc_Palette_inks pm_Palette_inks an_Palette_inks cd_Palette_inks ct_Palette_inks), sl_Palette_inks⟩)
    (c_Palette_inks : PySem.W.codeIn K cd_Palette_inks "Palette.inks" = true)
    (k_Palette_inks : PySem.W.keepIn K (.ref f_Palette_inks) = true)
    {f_Palette_has : Addr} {od_Palette_has an_Palette_has : Option Addr} {sl_Palette_has : Array (Option Value)} {oc_Palette_has kv_Palette_has dc_Palette_has pm_Palette_has cd_Palette_has ct_Palette_has : Value}
    (m_Palette_has : PySem.W.findIn K (.ref cP) "has" = some (some (.ref f_Palette_has)))
    (i_Palette_has : PySem.W.isFn K (.ref f_Palette_has) = true)
    (l_Palette_has : K.lookup f_Palette_has = some ⟨oc_Palette_has, od_Palette_has, .func (PySem.W.fnOf "has" "Palette.has" (defArgs s_Palette_has) (defBody s_Palette_has) (defScope s_Palette_has) .none kv_Palette_has dc_Palette_has pm_Palette_has an_Palette_has cd_Palette_has ct_Palette_has), sl_Palette_has⟩)
    (c_Palette_has : PySem.W.codeIn K cd_Palette_has "Palette.has" = true)
    (k_Palette_has : PySem.W.keepIn K (.ref f_Palette_has) = true)
    {f_wears : Addr} {od_wears an_wears : Option Addr} {sl_wears : Array (Option Value)} {oc_wears kv_wears dc_wears pm_wears cd_wears ct_wears : Value}
    (a_wears : PySem.W.nsIn K mainGlobals "wears" = some (some (.ref f_wears)))
    (l_wears : K.lookup f_wears = some ⟨oc_wears, od_wears, .func (PySem.W.fnOf "wears" "wears" (defArgs s_wears) (defBody s_wears) (defScope s_wears) .none kv_wears dc_wears pm_wears an_wears cd_wears ct_wears), sl_wears⟩)
    (c_wears : PySem.W.codeIn K cd_wears "wears" = true)
    (k_wears : PySem.W.keepIn K (.ref f_wears) = true)
    {f_is_kind : Addr} {od_is_kind an_is_kind : Option Addr} {sl_is_kind : Array (Option Value)} {oc_is_kind kv_is_kind dc_is_kind pm_is_kind cd_is_kind ct_is_kind : Value}
    (a_is_kind : PySem.W.nsIn K mainGlobals "_is_kind" = some (some (.ref f_is_kind)))
    (l_is_kind : K.lookup f_is_kind = some ⟨oc_is_kind, od_is_kind, .func (PySem.W.fnOf "_is_kind" "_is_kind" (defArgs s_is_kind) (defBody s_is_kind) (defScope s_is_kind) .none kv_is_kind dc_is_kind pm_is_kind an_is_kind cd_is_kind ct_is_kind), sl_is_kind⟩)
    (c_is_kind : PySem.W.codeIn K cd_is_kind "_is_kind" = true)
    (k_is_kind : PySem.W.keepIn K (.ref f_is_kind) = true)
    {f_is_deed : Addr} {od_is_deed an_is_deed : Option Addr} {sl_is_deed : Array (Option Value)} {oc_is_deed kv_is_deed dc_is_deed pm_is_deed cd_is_deed ct_is_deed : Value}
    (a_is_deed : PySem.W.nsIn K mainGlobals "is_deed" = some (some (.ref f_is_deed)))
    (l_is_deed : K.lookup f_is_deed = some ⟨oc_is_deed, od_is_deed, .func (PySem.W.fnOf "is_deed" "is_deed" (defArgs s_is_deed) (defBody s_is_deed) (defScope s_is_deed) .none kv_is_deed dc_is_deed pm_is_deed an_is_deed cd_is_deed ct_is_deed), sl_is_deed⟩)
    (c_is_deed : PySem.W.codeIn K cd_is_deed "is_deed" = true)
    (k_is_deed : PySem.W.keepIn K (.ref f_is_deed) = true)
    {f_at : Addr} {od_at an_at : Option Addr} {sl_at : Array (Option Value)} {oc_at kv_at dc_at pm_at cd_at ct_at : Value}
    (a_at : PySem.W.nsIn K mainGlobals "_law_at" = some (some (.ref f_at)))
    (l_at : K.lookup f_at = some ⟨oc_at, od_at, .func (PySem.W.fnOf "_law_at" "_law_at" (defArgs s_at) (defBody s_at) (defScope s_at) .none kv_at dc_at pm_at an_at cd_at ct_at), sl_at⟩)
    (c_at : PySem.W.codeIn K cd_at "_law_at" = true)
    (k_at : PySem.W.keepIn K (.ref f_at) = true)
    {f_pot : Addr} {od_pot an_pot : Option Addr} {sl_pot : Array (Option Value)} {oc_pot kv_pot dc_pot pm_pot cd_pot ct_pot : Value}
    (a_pot : PySem.W.nsIn K mainGlobals "_law_pot" = some (some (.ref f_pot)))
    (l_pot : K.lookup f_pot = some ⟨oc_pot, od_pot, .func (PySem.W.fnOf "_law_pot" "_law_pot" (defArgs s_pot) (defBody s_pot) (defScope s_pot) .none kv_pot dc_pot pm_pot an_pot cd_pot ct_pot), sl_pot⟩)
    (c_pot : PySem.W.codeIn K cd_pot "_law_pot" = true)
    (k_pot : PySem.W.keepIn K (.ref f_pot) = true)
    {f_take : Addr} {od_take an_take : Option Addr} {sl_take : Array (Option Value)} {oc_take kv_take dc_take pm_take cd_take ct_take : Value}
    (a_take : PySem.W.nsIn K mainGlobals "_law_take" = some (some (.ref f_take)))
    (l_take : K.lookup f_take = some ⟨oc_take, od_take, .func (PySem.W.fnOf "_law_take" "_law_take" (defArgs s_take) (defBody s_take) (defScope s_take) .none kv_take dc_take pm_take an_take cd_take ct_take), sl_take⟩)
    (c_take : PySem.W.codeIn K cd_take "_law_take" = true)
    (k_take : PySem.W.keepIn K (.ref f_take) = true)
    {f_word : Addr} {od_word an_word : Option Addr} {sl_word : Array (Option Value)} {oc_word kv_word dc_word pm_word cd_word ct_word : Value}
    (a_word : PySem.W.nsIn K mainGlobals "_law_word" = some (some (.ref f_word)))
    (l_word : K.lookup f_word = some ⟨oc_word, od_word, .func (PySem.W.fnOf "_law_word" "_law_word" (defArgs s_word) (defBody s_word) (defScope s_word) .none kv_word dc_word pm_word an_word cd_word ct_word), sl_word⟩)
    (c_word : PySem.W.codeIn K cd_word "_law_word" = true)
    (k_word : PySem.W.keepIn K (.ref f_word) = true)
    {f_words : Addr} {od_words an_words : Option Addr} {sl_words : Array (Option Value)} {oc_words kv_words dc_words pm_words cd_words ct_words : Value}
    (a_words : PySem.W.nsIn K mainGlobals "_law_words" = some (some (.ref f_words)))
    (l_words : K.lookup f_words = some ⟨oc_words, od_words, .func (PySem.W.fnOf "_law_words" "_law_words" (defArgs s_words) (defBody s_words) (defScope s_words) .none kv_words dc_words pm_words an_words cd_words ct_words), sl_words⟩)
    (c_words : PySem.W.codeIn K cd_words "_law_words" = true)
    (k_words : PySem.W.keepIn K (.ref f_words) = true)
    {f_amount : Addr} {od_amount an_amount : Option Addr} {sl_amount : Array (Option Value)} {oc_amount kv_amount dc_amount pm_amount cd_amount ct_amount : Value}
    (a_amount : PySem.W.nsIn K mainGlobals "_law_amount" = some (some (.ref f_amount)))
    (l_amount : K.lookup f_amount = some ⟨oc_amount, od_amount, .func (PySem.W.fnOf "_law_amount" "_law_amount" (defArgs s_amount) (defBody s_amount) (defScope s_amount) .none kv_amount dc_amount pm_amount an_amount cd_amount ct_amount), sl_amount⟩)
    (c_amount : PySem.W.codeIn K cd_amount "_law_amount" = true)
    (k_amount : PySem.W.keepIn K (.ref f_amount) = true)
    {f_inks : Addr} {od_inks an_inks : Option Addr} {sl_inks : Array (Option Value)} {oc_inks kv_inks dc_inks pm_inks cd_inks ct_inks : Value}
    (a_inks : PySem.W.nsIn K mainGlobals "_law_inks" = some (some (.ref f_inks)))
    (l_inks : K.lookup f_inks = some ⟨oc_inks, od_inks, .func (PySem.W.fnOf "_law_inks" "_law_inks" (defArgs s_inks) (defBody s_inks) (defScope s_inks) .none kv_inks dc_inks pm_inks an_inks cd_inks ct_inks), sl_inks⟩)
    (c_inks : PySem.W.codeIn K cd_inks "_law_inks" = true)
    (k_inks : PySem.W.keepIn K (.ref f_inks) = true)
    {f_deed : Addr} {od_deed an_deed : Option Addr} {sl_deed : Array (Option Value)} {oc_deed kv_deed dc_deed pm_deed cd_deed ct_deed : Value}
    (a_deed : PySem.W.nsIn K mainGlobals "_law_deed" = some (some (.ref f_deed)))
    (l_deed : K.lookup f_deed = some ⟨oc_deed, od_deed, .func (PySem.W.fnOf "_law_deed" "_law_deed" (defArgs s_deed) (defBody s_deed) (defScope s_deed) .none kv_deed dc_deed pm_deed an_deed cd_deed ct_deed), sl_deed⟩)
    (c_deed : PySem.W.codeIn K cd_deed "_law_deed" = true)
    (k_deed : PySem.W.keepIn K (.ref f_deed) = true)
    {f_no_name : Addr} {od_no_name an_no_name : Option Addr} {sl_no_name : Array (Option Value)} {oc_no_name kv_no_name dc_no_name pm_no_name cd_no_name ct_no_name : Value}
    (a_no_name : PySem.W.nsIn K mainGlobals "_law_no_name" = some (some (.ref f_no_name)))
    (l_no_name : K.lookup f_no_name = some ⟨oc_no_name, od_no_name, .func (PySem.W.fnOf "_law_no_name" "_law_no_name" (defArgs s_no_name) (defBody s_no_name) (defScope s_no_name) .none kv_no_name dc_no_name pm_no_name an_no_name cd_no_name ct_no_name), sl_no_name⟩)
    (c_no_name : PySem.W.codeIn K cd_no_name "_law_no_name" = true)
    (k_no_name : PySem.W.keepIn K (.ref f_no_name) = true)
    {f_odd : Addr} {od_odd an_odd : Option Addr} {sl_odd : Array (Option Value)} {oc_odd kv_odd dc_odd pm_odd cd_odd ct_odd : Value}
    (a_odd : PySem.W.nsIn K mainGlobals "_law_odd" = some (some (.ref f_odd)))
    (l_odd : K.lookup f_odd = some ⟨oc_odd, od_odd, .func (PySem.W.fnOf "_law_odd" "_law_odd" (defArgs s_odd) (defBody s_odd) (defScope s_odd) .none kv_odd dc_odd pm_odd an_odd cd_odd ct_odd), sl_odd⟩)
    (c_odd : PySem.W.codeIn K cd_odd "_law_odd" = true)
    (k_odd : PySem.W.keepIn K (.ref f_odd) = true)
    {f_drawn : Addr} {od_drawn an_drawn : Option Addr} {sl_drawn : Array (Option Value)} {oc_drawn kv_drawn dc_drawn pm_drawn cd_drawn ct_drawn : Value}
    (a_drawn : PySem.W.nsIn K mainGlobals "_law_drawn" = some (some (.ref f_drawn)))
    (l_drawn : K.lookup f_drawn = some ⟨oc_drawn, od_drawn, .func (PySem.W.fnOf "_law_drawn" "_law_drawn" (defArgs s_drawn) (defBody s_drawn) (defScope s_drawn) .none kv_drawn dc_drawn pm_drawn an_drawn cd_drawn ct_drawn), sl_drawn⟩)
    (c_drawn : PySem.W.codeIn K cd_drawn "_law_drawn" = true)
    (k_drawn : PySem.W.keepIn K (.ref f_drawn) = true)
    {f_lis_name : Addr} {od_lis_name an_lis_name : Option Addr} {sl_lis_name : Array (Option Value)} {oc_lis_name kv_lis_name dc_lis_name pm_lis_name cd_lis_name ct_lis_name : Value}
    (a_lis_name : PySem.W.nsIn K mainGlobals "_law_is_name" = some (some (.ref f_lis_name)))
    (l_lis_name : K.lookup f_lis_name = some ⟨oc_lis_name, od_lis_name, .func (PySem.W.fnOf "_law_is_name" "_law_is_name" (defArgs s_lis_name) (defBody s_lis_name) (defScope s_lis_name) .none kv_lis_name dc_lis_name pm_lis_name an_lis_name cd_lis_name ct_lis_name), sl_lis_name⟩)
    (c_lis_name : PySem.W.codeIn K cd_lis_name "_law_is_name" = true)
    (k_lis_name : PySem.W.keepIn K (.ref f_lis_name) = true)
    {f_lis_amount : Addr} {od_lis_amount an_lis_amount : Option Addr} {sl_lis_amount : Array (Option Value)} {oc_lis_amount kv_lis_amount dc_lis_amount pm_lis_amount cd_lis_amount ct_lis_amount : Value}
    (a_lis_amount : PySem.W.nsIn K mainGlobals "_law_is_amount" = some (some (.ref f_lis_amount)))
    (l_lis_amount : K.lookup f_lis_amount = some ⟨oc_lis_amount, od_lis_amount, .func (PySem.W.fnOf "_law_is_amount" "_law_is_amount" (defArgs s_lis_amount) (defBody s_lis_amount) (defScope s_lis_amount) .none kv_lis_amount dc_lis_amount pm_lis_amount an_lis_amount cd_lis_amount ct_lis_amount), sl_lis_amount⟩)
    (c_lis_amount : PySem.W.codeIn K cd_lis_amount "_law_is_amount" = true)
    (k_lis_amount : PySem.W.keepIn K (.ref f_lis_amount) = true)
    {f_fits : Addr} {od_fits an_fits : Option Addr} {sl_fits : Array (Option Value)} {oc_fits kv_fits dc_fits pm_fits cd_fits ct_fits : Value}
    (a_fits : PySem.W.nsIn K mainGlobals "_law_fits" = some (some (.ref f_fits)))
    (l_fits : K.lookup f_fits = some ⟨oc_fits, od_fits, .func (PySem.W.fnOf "_law_fits" "_law_fits" (defArgs s_fits) (defBody s_fits) (defScope s_fits) .none kv_fits dc_fits pm_fits an_fits cd_fits ct_fits), sl_fits⟩)
    (c_fits : PySem.W.codeIn K cd_fits "_law_fits" = true)
    (k_fits : PySem.W.keepIn K (.ref f_fits) = true)
    {f_law : Addr} {od_law an_law : Option Addr} {sl_law : Array (Option Value)} {oc_law kv_law dc_law pm_law cd_law ct_law : Value}
    (a_law : PySem.W.nsIn K mainGlobals "law" = some (some (.ref f_law)))
    (l_law : K.lookup f_law = some ⟨oc_law, od_law, .func (PySem.W.fnOf "law" "law" (defArgs s_law) (defBody s_law) (defScope s_law) .none kv_law dc_law pm_law an_law cd_law ct_law), sl_law⟩)
    (c_law : PySem.W.codeIn K cd_law "law" = true)
    (k_law : PySem.W.keepIn K (.ref f_law) = true)
    (z_len : PySem.W.nsIn K mainGlobals "len" = some none)
    (z_max : PySem.W.nsIn K mainGlobals "max" = some none)
    (z_min : PySem.W.nsIn K mainGlobals "min" = some none)
    (z_abs : PySem.W.nsIn K mainGlobals "abs" = some none)
    (z_divmod : PySem.W.nsIn K mainGlobals "divmod" = some none)
    (z_range : PySem.W.nsIn K mainGlobals "range" = some none)
    (z_tuple : PySem.W.nsIn K mainGlobals "tuple" = some none)
    (z_list : PySem.W.nsIn K mainGlobals "list" = some none)
    (z_all : PySem.W.nsIn K mainGlobals "all" = some none)
    (z_repr : PySem.W.nsIn K mainGlobals "repr" = some none)
    (z_sorted : PySem.W.nsIn K mainGlobals "sorted" = some none)
    (z_enumerate : PySem.W.nsIn K mainGlobals "enumerate" = some none)
    (z_isinstance : PySem.W.nsIn K mainGlobals "isinstance" = some none)
    (z_int : PySem.W.nsIn K mainGlobals "int" = some none)
    (z_str : PySem.W.nsIn K mainGlobals "str" = some none)
    (z_bool : PySem.W.nsIn K mainGlobals "bool" = some none)
    (z_zip : PySem.W.nsIn K mainGlobals "zip" = some none)
    (z_dict : PySem.W.nsIn K mainGlobals "dict" = some none)
    {tk_letters : Tok}
    (g_letters : PySem.W.nsIn K mainGlobals "_LETTERS" = some (some (.str "abcdefghijklmnopqrstuvwxyz" tk_letters)))
    {tk_mostL : Tok}
    (g_mostL : PySem.W.nsIn K mainGlobals "_MOST_LETTERS" = some (some (.int 8 tk_mostL)))
    {tk_inks : Tok}
    (g_inks : PySem.W.nsIn K mainGlobals "MOST_INKS" = some (some (.int 8 tk_inks)))
    {esK : Array DictEntry} {nK : Nat}
    (aK : PySem.W.nsIn K mainGlobals "_KINDS" = some (some (.ref kd)))
    (lK : K.lookup kd = some ⟨.type "dict", none, .dict esK nK, #[]⟩)
    (kL : PySem.W.KeysLit w.params esK.toList)
    (kN : (kd == sysModules) = false)
    {tw0 tw1 tw2 tw3 tw4 tw5 : Tok}
    (kW : esK.toList.map (·.key) = [.str "lay" tw0, .str "wait" tw1, .str "wash" tw2, .str "warm" tw3, .str "scrape" tw4, .str "rub" tw5])
    {tt_lay : Addr} {to_lay : Option Addr} {tn_lay : Nat} {ts_lay : Array (Option Value)} {tk0_lay : Tok} {tk1_lay : Tok} {tk2_lay : Tok}
    (v_lay : PySem.W.nsIn K kd "lay" = some (some (.ref tt_lay)))
    (t_lay : K.lookup tt_lay = some ⟨.type "tuple", to_lay, .seq #[.str "ink" tk0_lay, .str "tag" tk1_lay, .str "amount" tk2_lay] tn_lay, ts_lay⟩)
    {tt_wait : Addr} {to_wait : Option Addr} {tn_wait : Nat} {ts_wait : Array (Option Value)} {tk0_wait : Tok}
    (v_wait : PySem.W.nsIn K kd "wait" = some (some (.ref tt_wait)))
    (t_wait : K.lookup tt_wait = some ⟨.type "tuple", to_wait, .seq #[.str "amount" tk0_wait] tn_wait, ts_wait⟩)
    {tt_wash : Addr} {to_wash : Option Addr} {tn_wash : Nat} {ts_wash : Array (Option Value)} {tk0_wash : Tok} {tk1_wash : Tok}
    (v_wash : PySem.W.nsIn K kd "wash" = some (some (.ref tt_wash)))
    (t_wash : K.lookup tt_wash = some ⟨.type "tuple", to_wash, .seq #[.str "ink" tk0_wash, .str "amount" tk1_wash] tn_wash, ts_wash⟩)
    {tt_warm : Addr} {to_warm : Option Addr} {tn_warm : Nat} {ts_warm : Array (Option Value)} {tk0_warm : Tok} {tk1_warm : Tok}
    (v_warm : PySem.W.nsIn K kd "warm" = some (some (.ref tt_warm)))
    (t_warm : K.lookup tt_warm = some ⟨.type "tuple", to_warm, .seq #[.str "ink" tk0_warm, .str "amount" tk1_warm] tn_warm, ts_warm⟩)
    {tt_scrape : Addr} {to_scrape : Option Addr} {tn_scrape : Nat} {ts_scrape : Array (Option Value)} 
    (v_scrape : PySem.W.nsIn K kd "scrape" = some (some (.ref tt_scrape)))
    (t_scrape : K.lookup tt_scrape = some ⟨.type "tuple", to_scrape, .seq #[] tn_scrape, ts_scrape⟩)
    {tt_rub : Addr} {to_rub : Option Addr} {tn_rub : Nat} {ts_rub : Array (Option Value)} {tk0_rub : Tok}
    (v_rub : PySem.W.nsIn K kd "rub" = some (some (.ref tt_rub)))
    (t_rub : K.lookup tt_rub = some ⟨.type "tuple", to_rub, .seq #[.str "amount" tk0_rub] tn_rub, ts_rub⟩)
    : ∃ fd : FuncData, (∀ (s : Shared) (v : Value), BindsTo s fd ⟨[v], []⟩ [("_law_script", v)]) ∧ ∀ base : Heap, K.In base → base.Ns mainGlobals mg → GOk l.prog w K mg base CX0 6 fa fd ["_law_script"] (spLaw K) := by
  have same := hfa.symm.trans (PySem.W.mg_of X G a_law)
  cases same
  have M : Blt mg := { len := PySem.W.mg_none_of X G z_len, max := PySem.W.mg_none_of X G z_max, min := PySem.W.mg_none_of X G z_min, abs := PySem.W.mg_none_of X G z_abs, divmod := PySem.W.mg_none_of X G z_divmod, range := PySem.W.mg_none_of X G z_range, tuple := PySem.W.mg_none_of X G z_tuple, list := PySem.W.mg_none_of X G z_list, all := PySem.W.mg_none_of X G z_all, repr := PySem.W.mg_none_of X G z_repr, sorted := PySem.W.mg_none_of X G z_sorted, enumerate := PySem.W.mg_none_of X G z_enumerate, isinstance := PySem.W.mg_none_of X G z_isinstance, int := PySem.W.mg_none_of X G z_int, str := PySem.W.mg_none_of X G z_str, bool := PySem.W.mg_none_of X G z_bool, zip := PySem.W.mg_none_of X G z_zip, dict := PySem.W.mg_none_of X G z_dict }
  have GS : Gs mg := { letters := ⟨_, PySem.W.mg_of X G g_letters⟩, mostL := ⟨_, PySem.W.mg_of X G g_mostL⟩, inks := ⟨_, PySem.W.mg_of X G g_inks⟩ }
  have cl_Palette : Cls K cP := ⟨pg_Palette, hd_Palette, po_Palette, sa_Palette⟩
  have TPalette : TPal K mg cP := { cl := cl_Palette, n_made := n_Palette_made, n_fades := n_Palette_fades, ins := ⟨cl_Palette, iha_Palette, ihn_Palette, ihk_Palette, ihm_Palette, if_pos (beq_self_eq_true _)⟩ }
  have gPalette := PySem.W.mg_of X G aC_Palette
  have D : TKd K w mg kd := by
    refine ⟨PySem.W.mg_of X G aK, ?_⟩
    intro z ks e
    unfold kindsOf at e
    have tp : ∀ {t : Addr} {o : Option Addr} {n : Nat} {sl : Array (Option Value)} {vs : Array Value} {ks : List Str}, K.lookup t = some ⟨.type "tuple", o, .seq vs n, sl⟩ → vs.size ≤ 3 → Vals (ks.map V.str) vs.toList → ∀ H, SqT K H t (ks.map V.str) := fun h h3 r H => .inr ⟨_, _, _, h, rfl, rfl, Nat.le_trans h3 (by decide), r⟩
    by_cases e0 : z = "lay"
    · rw [if_pos e0] at e
      cases e
      rw [e0]
      exact ⟨tt_lay, ⟨esK, nK, _, lK, kL, v_lay, rfl⟩, tp t_lay (Nat.le_of_ble_eq_true rfl) (.cons ⟨_, rfl⟩ (.cons ⟨_, rfl⟩ (.cons ⟨_, rfl⟩ .nil)))⟩
    by_cases e1 : z = "wait"
    · rw [if_neg e0, if_pos e1] at e
      cases e
      rw [e1]
      exact ⟨tt_wait, ⟨esK, nK, _, lK, kL, v_wait, rfl⟩, tp t_wait (Nat.le_of_ble_eq_true rfl) (.cons ⟨_, rfl⟩ .nil)⟩
    by_cases e2 : z = "wash"
    · rw [if_neg e0, if_neg e1, if_pos e2] at e
      cases e
      rw [e2]
      exact ⟨tt_wash, ⟨esK, nK, _, lK, kL, v_wash, rfl⟩, tp t_wash (Nat.le_of_ble_eq_true rfl) (.cons ⟨_, rfl⟩ (.cons ⟨_, rfl⟩ .nil))⟩
    by_cases e3 : z = "warm"
    · rw [if_neg e0, if_neg e1, if_neg e2, if_pos e3] at e
      cases e
      rw [e3]
      exact ⟨tt_warm, ⟨esK, nK, _, lK, kL, v_warm, rfl⟩, tp t_warm (Nat.le_of_ble_eq_true rfl) (.cons ⟨_, rfl⟩ (.cons ⟨_, rfl⟩ .nil))⟩
    by_cases e4 : z = "scrape"
    · rw [if_neg e0, if_neg e1, if_neg e2, if_neg e3, if_pos e4] at e
      cases e
      rw [e4]
      exact ⟨tt_scrape, ⟨esK, nK, _, lK, kL, v_scrape, rfl⟩, tp t_scrape (Nat.le_of_ble_eq_true rfl) .nil⟩
    by_cases e5 : z = "rub"
    · rw [if_neg e0, if_neg e1, if_neg e2, if_neg e3, if_neg e4, if_pos e5] at e
      cases e
      rw [e5]
      exact ⟨tt_rub, ⟨esK, nK, _, lK, kL, v_rub, rfl⟩, tp t_rub (Nat.le_of_ble_eq_true rfl) (.cons ⟨_, rfl⟩ .nil)⟩
    rw [if_neg e0, if_neg e1, if_neg e2, if_neg e3, if_neg e4, if_neg e5] at e
    cases e
  have D3 : TKd3 K w mg kd := { toTKd := D, kdict := ⟨_, _, ⟨lK, kL, kN⟩⟩, none_ := ns_none lK kW }
  have F_is_whole := fun_mk (st := s_is_whole) l_is_whole c_is_whole k_is_whole
  have b_is_whole := F_is_whole.binds (ps := ["thing"]) fun _ _ _ _ _ _ us hl => match us, hl with | [_], _ => rfl
  have F_is_name := fun_mk (st := s_is_name) l_is_name c_is_name k_is_name
  have b_is_name := F_is_name.binds (ps := ["thing"]) fun _ _ _ _ _ _ us hl => match us, hl with | [_], _ => rfl
  have F_is_amount := fun_mk (st := s_is_amount) l_is_amount c_is_amount k_is_amount
  have b_is_amount := F_is_amount.binds (ps := ["thing"]) fun _ _ _ _ _ _ us hl => match us, hl with | [_], _ => rfl
  have F_is_ink := fun_mk (st := s_is_ink) l_is_ink c_is_ink k_is_ink
  have b_is_ink := F_is_ink.binds (ps := ["thing"]) fun _ _ _ _ _ _ us hl => match us, hl with | [_], _ => rfl
  have F_Palette_init := fun_mk (st := s_Palette_init) l_Palette_init c_Palette_init k_Palette_init
  have b_Palette_init := F_Palette_init.binds (ps := ["self", "inks"]) fun _ _ _ _ _ _ us hl => match us, hl with | [_, _], _ => rfl
  have F_Palette_names := fun_mk (st := s_Palette_names) l_Palette_names c_Palette_names k_Palette_names
  have b_Palette_names := F_Palette_names.binds (ps := ["self"]) fun _ _ _ _ _ _ us hl => match us, hl with | [_], _ => rfl
  have F_Palette_inks := fun_mk (st := s_Palette_inks) l_Palette_inks c_Palette_inks k_Palette_inks
  have b_Palette_inks := F_Palette_inks.binds (ps := ["self"]) fun _ _ _ _ _ _ us hl => match us, hl with | [_], _ => rfl
  have F_Palette_has := fun_mk (st := s_Palette_has) l_Palette_has c_Palette_has k_Palette_has
  have b_Palette_has := F_Palette_has.binds (ps := ["self", "name"]) fun _ _ _ _ _ _ us hl => match us, hl with | [_, _], _ => rfl
  have F_wears := fun_mk (st := s_wears) l_wears c_wears k_wears
  have b_wears := F_wears.binds (ps := ["deed"]) fun _ _ _ _ _ _ us hl => match us, hl with | [_], _ => rfl
  have F_is_kind := fun_mk (st := s_is_kind) l_is_kind c_is_kind k_is_kind
  have b_is_kind := F_is_kind.binds (ps := ["item", "kind", "palette"]) fun _ _ _ _ _ _ us hl => match us, hl with | [_, _, _], _ => rfl
  have F_is_deed := fun_mk (st := s_is_deed) l_is_deed c_is_deed k_is_deed
  have b_is_deed := F_is_deed.binds (ps := ["thing", "palette"]) fun _ _ _ _ _ _ us hl => match us, hl with | [_, _], _ => rfl
  have F_at := fun_mk (st := s_at) l_at c_at k_at
  have b_at := F_at.binds (ps := ["_law_script", "_law_k"]) fun _ _ _ _ _ _ us hl => match us, hl with | [_, _], _ => rfl
  have F_pot := fun_mk (st := s_pot) l_pot c_pot k_pot
  have b_pot := F_pot.binds (ps := ["_law_cell"]) fun _ _ _ _ _ _ us hl => match us, hl with | [_], _ => rfl
  have F_take := fun_mk (st := s_take) l_take c_take k_take
  have b_take := F_take.binds (ps := ["_law_pot_here", "_law_many"]) fun _ _ _ _ _ _ us hl => match us, hl with | [_, _], _ => rfl
  have F_word := fun_mk (st := s_word) l_word c_word k_word
  have b_word := F_word.binds (ps := ["_law_pot_here", "_law_found"]) fun _ _ _ _ _ _ us hl => match us, hl with | [_, _], _ => rfl
  have F_words := fun_mk (st := s_words) l_words c_words k_words
  have b_words := F_words.binds (ps := ["_law_pot_here", "_law_many"]) fun _ _ _ _ _ _ us hl => match us, hl with | [_, _], _ => rfl
  have F_amount := fun_mk (st := s_amount) l_amount c_amount k_amount
  have b_amount := F_amount.binds (ps := ["_law_pot_here"]) fun _ _ _ _ _ _ us hl => match us, hl with | [_], _ => rfl
  have F_inks := fun_mk (st := s_inks) l_inks c_inks k_inks
  have b_inks := F_inks.binds (ps := ["_law_pot_here", "_law_most"]) fun _ _ _ _ _ _ us hl => match us, hl with | [_, _], _ => rfl
  have F_deed := fun_mk (st := s_deed) l_deed c_deed k_deed
  have b_deed := F_deed.binds (ps := ["_law_pot_here", "_law_inks_here", "_law_tags"]) fun _ _ _ _ _ _ us hl => match us, hl with | [_, _, _], _ => rfl
  have F_no_name := fun_mk (st := s_no_name) l_no_name c_no_name k_no_name
  have b_no_name := F_no_name.binds (ps := ["_law_pot_here"]) fun _ _ _ _ _ _ us hl => match us, hl with | [_], _ => rfl
  have F_odd := fun_mk (st := s_odd) l_odd c_odd k_odd
  have b_odd := F_odd.binds (ps := ["_law_pot_here", "_law_inks_here"]) fun _ _ _ _ _ _ us hl => match us, hl with | [_, _], _ => rfl
  have F_drawn := fun_mk (st := s_drawn) l_drawn c_drawn k_drawn
  have b_drawn := F_drawn.binds (ps := ["_law_pot_here", "_law_inks_here"]) fun _ _ _ _ _ _ us hl => match us, hl with | [_, _], _ => rfl
  have F_lis_name := fun_mk (st := s_lis_name) l_lis_name c_lis_name k_lis_name
  have b_lis_name := F_lis_name.binds (ps := ["_law_one"]) fun _ _ _ _ _ _ us hl => match us, hl with | [_], _ => rfl
  have F_lis_amount := fun_mk (st := s_lis_amount) l_lis_amount c_lis_amount k_lis_amount
  have b_lis_amount := F_lis_amount.binds (ps := ["_law_one"]) fun _ _ _ _ _ _ us hl => match us, hl with | [_], _ => rfl
  have F_fits := fun_mk (st := s_fits) l_fits c_fits k_fits
  have b_fits := F_fits.binds (ps := ["_law_one", "_law_names"]) fun _ _ _ _ _ _ us hl => match us, hl with | [_, _], _ => rfl
  have F_law := fun_mk (st := s_law) l_law c_law k_law
  refine ⟨PySem.W.fnOf "law" "law" (defArgs s_law) (defBody s_law) (defScope s_law) .none kv_law dc_law pm_law an_law cd_law ct_law, fun s v => .of_eq rfl, fun base _ _ => ?_⟩
  have h_is_whole : Has l.prog w K mg base "is_whole" 1 ["thing"] _ := ⟨_, _, ok_is_whole F_is_whole M, PySem.W.mg_of X G a_is_whole, F_is_whole.kp, b_is_whole⟩
  have h_is_name : Has l.prog w K mg base "is_name" 1 ["thing"] _ := ⟨_, _, ok_is_name F_is_name M GS, PySem.W.mg_of X G a_is_name, F_is_name.kp, b_is_name⟩
  have h_is_amount : Has l.prog w K mg base "is_amount" 2 ["thing"] _ := ⟨_, _, ok_is_amount F_is_amount M ⟨h_is_whole⟩, PySem.W.mg_of X G a_is_amount, F_is_amount.kp, b_is_amount⟩
  have h_is_ink : Has l.prog w K mg base "is_ink" 2 ["thing"] _ := ⟨_, _, ok_is_ink F_is_ink M ⟨⟨h_is_whole⟩, h_is_name⟩, PySem.W.mg_of X G a_is_ink, F_is_ink.kp, b_is_ink⟩
  have h_Palette_init : HasI l.prog w K mg base "Palette" cP 3 ["self", "inks"] _ := ⟨_, _, ok_Palette_init F_Palette_init M GS TPalette ⟨h_is_ink⟩, ⟨mk_Palette, m_Palette_init, i_Palette_init, kc_Palette⟩, b_Palette_init, gPalette⟩
  have h_Palette_names : HasM l.prog w K mg base cP "names" 1 ["self"] _ := ⟨_, _, ok_Palette_names F_Palette_names M TPalette, ⟨m_Palette_names, i_Palette_names, k_Palette_names⟩, b_Palette_names⟩
  have h_Palette_inks : HasM l.prog w K mg base cP "inks" 1 ["self"] _ := ⟨_, _, ok_Palette_inks F_Palette_inks M TPalette, ⟨m_Palette_inks, i_Palette_inks, k_Palette_inks⟩, b_Palette_inks⟩
  have h_Palette_has : HasM l.prog w K mg base cP "has" 2 ["self", "name"] _ := ⟨_, _, ok_Palette_has F_Palette_has M TPalette ⟨⟨h_is_whole⟩, h_is_name⟩, ⟨m_Palette_has, i_Palette_has, k_Palette_has⟩, b_Palette_has⟩
  have h_wears : Has l.prog w K mg base "wears" 1 ["deed"] _ := ⟨_, _, ok_wears F_wears M, PySem.W.mg_of X G a_wears, F_wears.kp, b_wears⟩
  have h_is_kind : Has l.prog w K mg base "_is_kind" 3 ["item", "kind", "palette"] _ := ⟨_, _, ok_is_kind F_is_kind M TPalette ⟨⟨h_Palette_has⟩, ⟨⟨h_is_whole⟩, h_is_name⟩, h_is_amount⟩, PySem.W.mg_of X G a_is_kind, F_is_kind.kp, b_is_kind⟩
  have h_is_deed : Has l.prog w K mg base "is_deed" 4 ["thing", "palette"] _ := ⟨_, _, ok_is_deed F_is_deed M D3 ⟨h_is_kind⟩, PySem.W.mg_of X G a_is_deed, F_is_deed.kp, b_is_deed⟩
  have h_at : Has l.prog w K mg base "_law_at" 1 ["_law_script", "_law_k"] _ := ⟨_, _, ok_at F_at M, PySem.W.mg_of X G a_at, F_at.kp, b_at⟩
  have h_pot : Has l.prog w K mg base "_law_pot" 1 ["_law_cell"] _ := ⟨_, _, ok_pot F_pot M, PySem.W.mg_of X G a_pot, F_pot.kp, b_pot⟩
  have h_take : Has l.prog w K mg base "_law_take" 1 ["_law_pot_here", "_law_many"] _ := ⟨_, _, ok_take F_take M, PySem.W.mg_of X G a_take, F_take.kp, b_take⟩
  have h_word : Has l.prog w K mg base "_law_word" 2 ["_law_pot_here", "_law_found"] _ := ⟨_, _, ok_word F_word M ⟨h_take⟩, PySem.W.mg_of X G a_word, F_word.kp, b_word⟩
  have h_words : Has l.prog w K mg base "_law_words" 3 ["_law_pot_here", "_law_many"] _ := ⟨_, _, ok_words F_words M ⟨h_word⟩, PySem.W.mg_of X G a_words, F_words.kp, b_words⟩
  have h_amount : Has l.prog w K mg base "_law_amount" 2 ["_law_pot_here"] _ := ⟨_, _, ok_amount F_amount M ⟨h_take⟩, PySem.W.mg_of X G a_amount, F_amount.kp, b_amount⟩
  have h_inks : Has l.prog w K mg base "_law_inks" 4 ["_law_pot_here", "_law_most"] _ := ⟨_, _, ok_inks F_inks M ⟨⟨h_take⟩, h_words⟩, PySem.W.mg_of X G a_inks, F_inks.kp, b_inks⟩
  have h_deed : Has l.prog w K mg base "_law_deed" 3 ["_law_pot_here", "_law_inks_here", "_law_tags"] _ := ⟨_, _, ok_deed F_deed M ⟨⟨h_take⟩, h_amount⟩, PySem.W.mg_of X G a_deed, F_deed.kp, b_deed⟩
  have h_no_name : Has l.prog w K mg base "_law_no_name" 3 ["_law_pot_here"] _ := ⟨_, _, ok_no_name F_no_name M ⟨⟨h_take⟩, h_word⟩, PySem.W.mg_of X G a_no_name, F_no_name.kp, b_no_name⟩
  have h_odd : Has l.prog w K mg base "_law_odd" 4 ["_law_pot_here", "_law_inks_here"] _ := ⟨_, _, ok_odd F_odd M ⟨⟨h_take⟩, h_word, h_no_name⟩, PySem.W.mg_of X G a_odd, F_odd.kp, b_odd⟩
  have h_drawn : Has l.prog w K mg base "_law_drawn" 5 ["_law_pot_here", "_law_inks_here"] _ := ⟨_, _, ok_drawn F_drawn M ⟨⟨h_take⟩, h_words, h_deed, h_odd⟩, PySem.W.mg_of X G a_drawn, F_drawn.kp, b_drawn⟩
  have h_lis_name : Has l.prog w K mg base "_law_is_name" 1 ["_law_one"] _ := ⟨_, _, ok_lis_name F_lis_name M, PySem.W.mg_of X G a_lis_name, F_lis_name.kp, b_lis_name⟩
  have h_lis_amount : Has l.prog w K mg base "_law_is_amount" 1 ["_law_one"] _ := ⟨_, _, ok_lis_amount F_lis_amount M, PySem.W.mg_of X G a_lis_amount, F_lis_amount.kp, b_lis_amount⟩
  have h_fits : Has l.prog w K mg base "_law_fits" 2 ["_law_one", "_law_names"] _ := ⟨_, _, ok_fits F_fits M ⟨h_lis_name, h_lis_amount⟩, PySem.W.mg_of X G a_fits, F_fits.kp, b_fits⟩
  have hk_is_deed : HasKW l.prog w K mg base "is_deed" 4 ["thing", "palette"] ["palette", "thing"] kwG kwV _ := ⟨_, _, ok_is_deed F_is_deed M D3 ⟨h_is_kind⟩, PySem.W.mg_of X G a_is_deed, F_is_deed.kp,
    ⟨fun s us ws _ hl => match us, ws, hl with | [], [_, _], _ => .of_eq rfl | [], [], h => absurd h (by decide) | [], [_], h => absurd h (by simp [kwG]) | [], _ :: _ :: _ :: _, h => absurd h (by simp [kwG]) | _ :: _, _, h => absurd h (by simp [kwG]),
     fun r1 r2 => by cases r1 with | nil => (cases r2 with | nil => exact .nil | cons a r => (cases r with | nil => exact .nil | cons b r => (cases r with | nil => exact .cons b (.cons a .nil) | cons c r => exact .nil))) | cons a r => exact .nil⟩⟩
  exact ok_law F_law M TPalette ⟨h_at, h_pot, h_inks, h_drawn, h_fits, h_is_deed, hk_is_deed, h_wears, h_Palette_init, h_Palette_inks⟩
end Fl
open PySem PySem.W PyProof.Rows
set_option maxHeartbeats 0 in
theorem PySem.Challenge.cw_fadeleaf_k21_deeds_that_fit_holds : PySem.Challenge.rw_fadeleaf_k21_deeds_that_fit.Holds := by
  w_on; o_law; k_head; (case hw => w_witness2)
  k_fill
  refine Fd.walkG (l := PySem.Challenge.rw_fadeleaf_k21_deeds_that_fit) (n := 63) (k := 6) (x := "_law_script") (sp := Fl.spLaw) rfl (by decide) rfl ⟨rfl, by decide, by decide⟩ (fun w h Y => PySem.W.kIn_of Y) ?F (fun K H a ns hl _ hS => ⟨a, ns, rfl, hS, hl, fun _ => rfl⟩)
  case F =>
    intro w mg fa h KX G hmg
    refine' Fl.all_mk w KX G hmg ?aC_Palette ?pg_Palette ?hd_Palette ?po_Palette ?sa_Palette ?mk_Palette ?kc_Palette ?n_Palette_made ?n_Palette_fades ?iha_Palette ?ihn_Palette ?ihk_Palette ?ihm_Palette ?a_is_whole ?l_is_whole ?c_is_whole ?k_is_whole ?a_is_name ?l_is_name ?c_is_name ?k_is_name ?a_is_amount ?l_is_amount ?c_is_amount ?k_is_amount ?a_is_ink ?l_is_ink ?c_is_ink ?k_is_ink ?m_Palette_init ?i_Palette_init ?l_Palette_init ?c_Palette_init ?k_Palette_init ?m_Palette_names ?i_Palette_names ?l_Palette_names ?c_Palette_names ?k_Palette_names ?m_Palette_inks ?i_Palette_inks ?l_Palette_inks ?c_Palette_inks ?k_Palette_inks ?m_Palette_has ?i_Palette_has ?l_Palette_has ?c_Palette_has ?k_Palette_has ?a_wears ?l_wears ?c_wears ?k_wears ?a_is_kind ?l_is_kind ?c_is_kind ?k_is_kind ?a_is_deed ?l_is_deed ?c_is_deed ?k_is_deed ?a_at ?l_at ?c_at ?k_at ?a_pot ?l_pot ?c_pot ?k_pot ?a_take ?l_take ?c_take ?k_take ?a_word ?l_word ?c_word ?k_word ?a_words ?l_words ?c_words ?k_words ?a_amount ?l_amount ?c_amount ?k_amount ?a_inks ?l_inks ?c_inks ?k_inks ?a_deed ?l_deed ?c_deed ?k_deed ?a_no_name ?l_no_name ?c_no_name ?k_no_name ?a_odd ?l_odd ?c_odd ?k_odd ?a_drawn ?l_drawn ?c_drawn ?k_drawn ?a_lis_name ?l_lis_name ?c_lis_name ?k_lis_name ?a_lis_amount ?l_lis_amount ?c_lis_amount ?k_lis_amount ?a_fits ?l_fits ?c_fits ?k_fits ?a_law ?l_law ?c_law ?k_law ?z_len ?z_max ?z_min ?z_abs ?z_divmod ?z_range ?z_tuple ?z_list ?z_all ?z_repr ?z_sorted ?z_enumerate ?z_isinstance ?z_int ?z_str ?z_bool ?z_zip ?z_dict ?g_letters ?g_mostL ?g_inks ?aK ?lK ?kL ?kN ?kW ?v_lay ?t_lay ?v_wait ?t_wait ?v_wash ?t_wash ?v_warm ?t_warm ?v_scrape ?t_scrape ?v_rub ?t_rub
    (case aC_Palette => k_is)
    (case pg_Palette => k_is)
    (case hd_Palette => k_is)
    (case po_Palette => k_is)
    (case sa_Palette => k_is)
    (case mk_Palette => k_is)
    (case kc_Palette => k_is)
    (case n_Palette_made => k_is)
    (case n_Palette_fades => k_is)
    (case iha_Palette => k_is)
    (case ihn_Palette => k_is)
    (case ihk_Palette => k_is)
    (case ihm_Palette => k_is)
    (case a_is_whole => k_is)
    (case l_is_whole => k_is)
    (case c_is_whole => k_is)
    (case k_is_whole => k_is)
    (case a_is_name => k_is)
    (case l_is_name => k_is)
    (case c_is_name => k_is)
    (case k_is_name => k_is)
    (case a_is_amount => k_is)
    (case l_is_amount => k_is)
    (case c_is_amount => k_is)
    (case k_is_amount => k_is)
    (case a_is_ink => k_is)
    (case l_is_ink => k_is)
    (case c_is_ink => k_is)
    (case k_is_ink => k_is)
    (case m_Palette_init => k_is)
    (case i_Palette_init => k_is)
    (case l_Palette_init => k_is)
    (case c_Palette_init => k_is)
    (case k_Palette_init => k_is)
    (case m_Palette_names => k_is)
    (case i_Palette_names => k_is)
    (case l_Palette_names => k_is)
    (case c_Palette_names => k_is)
    (case k_Palette_names => k_is)
    (case m_Palette_inks => k_is)
    (case i_Palette_inks => k_is)
    (case l_Palette_inks => k_is)
    (case c_Palette_inks => k_is)
    (case k_Palette_inks => k_is)
    (case m_Palette_has => k_is)
    (case i_Palette_has => k_is)
    (case l_Palette_has => k_is)
    (case c_Palette_has => k_is)
    (case k_Palette_has => k_is)
    (case a_wears => k_is)
    (case l_wears => k_is)
    (case c_wears => k_is)
    (case k_wears => k_is)
    (case a_is_kind => k_is)
    (case l_is_kind => k_is)
    (case c_is_kind => k_is)
    (case k_is_kind => k_is)
    (case a_is_deed => k_is)
    (case l_is_deed => k_is)
    (case c_is_deed => k_is)
    (case k_is_deed => k_is)
    (case a_at => k_is)
    (case l_at => k_is)
    (case c_at => k_is)
    (case k_at => k_is)
    (case a_pot => k_is)
    (case l_pot => k_is)
    (case c_pot => k_is)
    (case k_pot => k_is)
    (case a_take => k_is)
    (case l_take => k_is)
    (case c_take => k_is)
    (case k_take => k_is)
    (case a_word => k_is)
    (case l_word => k_is)
    (case c_word => k_is)
    (case k_word => k_is)
    (case a_words => k_is)
    (case l_words => k_is)
    (case c_words => k_is)
    (case k_words => k_is)
    (case a_amount => k_is)
    (case l_amount => k_is)
    (case c_amount => k_is)
    (case k_amount => k_is)
    (case a_inks => k_is)
    (case l_inks => k_is)
    (case c_inks => k_is)
    (case k_inks => k_is)
    (case a_deed => k_is)
    (case l_deed => k_is)
    (case c_deed => k_is)
    (case k_deed => k_is)
    (case a_no_name => k_is)
    (case l_no_name => k_is)
    (case c_no_name => k_is)
    (case k_no_name => k_is)
    (case a_odd => k_is)
    (case l_odd => k_is)
    (case c_odd => k_is)
    (case k_odd => k_is)
    (case a_drawn => k_is)
    (case l_drawn => k_is)
    (case c_drawn => k_is)
    (case k_drawn => k_is)
    (case a_lis_name => k_is)
    (case l_lis_name => k_is)
    (case c_lis_name => k_is)
    (case k_lis_name => k_is)
    (case a_lis_amount => k_is)
    (case l_lis_amount => k_is)
    (case c_lis_amount => k_is)
    (case k_lis_amount => k_is)
    (case a_fits => k_is)
    (case l_fits => k_is)
    (case c_fits => k_is)
    (case k_fits => k_is)
    (case a_law => k_is)
    (case l_law => k_is)
    (case c_law => k_is)
    (case k_law => k_is)
    (case z_len => k_is)
    (case z_max => k_is)
    (case z_min => k_is)
    (case z_abs => k_is)
    (case z_divmod => k_is)
    (case z_range => k_is)
    (case z_tuple => k_is)
    (case z_list => k_is)
    (case z_all => k_is)
    (case z_repr => k_is)
    (case z_sorted => k_is)
    (case z_enumerate => k_is)
    (case z_isinstance => k_is)
    (case z_int => k_is)
    (case z_str => k_is)
    (case z_bool => k_is)
    (case z_zip => k_is)
    (case z_dict => k_is)
    (case g_letters => k_is)
    (case g_mostL => k_is)
    (case g_inks => k_is)
    (case aK => k_is)
    (case lK => k_is)
    (case kL => exact ⟨⟨_, _, rfl, rfl⟩, ⟨_, _, rfl, rfl⟩, ⟨_, _, rfl, rfl⟩, ⟨_, _, rfl, rfl⟩, ⟨_, _, rfl, rfl⟩, ⟨_, _, rfl, rfl⟩, True.intro⟩)
    (case kN => first | rfl | decide)
    (case kW => exact rfl)
    (case v_lay => k_is)
    (case t_lay => k_is)
    (case v_wait => k_is)
    (case t_wait => k_is)
    (case v_wash => k_is)
    (case t_wash => k_is)
    (case v_warm => k_is)
    (case t_warm => k_is)
    (case v_scrape => k_is)
    (case t_scrape => k_is)
    (case v_rub => k_is)
    (case t_rub => k_is)

