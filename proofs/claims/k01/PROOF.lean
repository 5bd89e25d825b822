import PyProof.Rows.All
import Wide.All
import OpenK.AllK
import Wide.FinOn
import HandS.ForMost
import HandS.Codes
import PyProof.ReprRoads
import PyProof.ListStr
import PyProof.StrOps2
import PyProof.NeKinds
import HandS.Zip
import HandS.IsInst
import PyProof.Rows.SetFrom
import PyProof.Rows.SortShellAny
import HandS.Set
import HandS.SetFor
import HandS.TupAny
import KE.KExcInit
import KE.OsGo
import PyProof.ExcBaseAll.LookupError
import HandS.Exc
import PyProof.EqAt
import PyProof.EqKinds
import PyProof.TupleCall
import Open.SpecLaws
import HandS.ForSpec
import HandS.ExcInit
import HandS.ExcValue
import KE.KTryMore
import HandS.TryMany
import KE.KExcIs
import KE.KIsAll
import HandS.ExcIs
import HandS.RaiseMore
import HandS.Sort
import PySem.Challenge.RW_whichwalks_k01_whole_errors
import HandS.Wide
import HandS.Style
import HandS.Dict
import HandS.NoneIn
import PyProof.ExcBaseAll.IndexError
import PyProof.ExcBaseAll.OverflowError
import PyProof.ExcBaseAll.ArithmeticError
set_option Elab.async false
set_option linter.all false
set_option maxRecDepth 100000
/-! WkG: promises of defs that are called where no text of a list is under way (the stack has no guard). -/
namespace Wk
open PySem PySem.Spec PyProof.Rows L2

/-- room, and no guard on the stack -/
structure RoomG (k : Nat) (A : Around) : Prop where
  room : Room k A
  bare : A.guards = some []
theorem RoomG.mono {j k : Nat} {A : Around} (r : RoomG k A) (h : j ≤ k) : RoomG j A := ⟨r.room.mono h, r.bare⟩
theorem RoomG.deeper {k : Nat} {A : Around} (r : RoomG (k + 1) A) (env : Env) : RoomG k (A.deeper env) := ⟨r.room.deeper env, r.bare⟩
theorem RoomG.u64 {k : Nat} {A : Around} (r : RoomG k A) : A.units + 64 < cLine := by have := r.room.un; omega
theorem RoomG.hu {k : Nat} {A : Around} (r : RoomG k A) : A.units + 1 < cLine := hu_of r.room

structure GFn (P : Program) (w : World) (K : PySem.W.Frag) (mg : Str → Option Value) (base : Heap) (CX : CXT) (k : Nat) (f : Addr)
    (fd : FuncData) (ps : List Str) (sp : Sp) : Prop where
  len : ∀ vs H Q E, sp vs H Q E → vs.length = ps.length
  run : ∀ (A : Around) (outer : List Env) (s : Shared) (H : Hp) (args : Args) (us : List Value) (vs : List V) (Q : VK) (E : XK),
    RoomG k A → Env0 P w K mg base A outer s H → BindsTo s fd args (ps.zip us) → Vals vs us → sp vs H Q E →
      codeAny (model P w) A (.call (.ref f) args) (CR CX outer P w H s Q E) s

section
variable {P : Program} {w : World} {K : PySem.W.Frag} {mg : Str → Option Value} {base : Heap} {CX : CXT}
theorem GFn.mono {j k : Nat} {f : Addr} {fd : FuncData} {ps : List Str} {sp : Sp} (F : GFn P w K mg base CX j f fd ps sp) (h : j ≤ k) : GFn P w K mg base CX k f fd ps sp :=
  ⟨F.len, fun A outer s H args us vs Q E hr => F.run A outer s H args us vs Q E (hr.mono h)⟩

/-- a def by its body -/
theorem gfn_of {k : Nat} {f : Addr} {name qual : Str} {params : Arguments} {body : List Stmt} {scope : Scope} {dV kV doc pm cdv ct oc : Value}
    {an od : Option Addr} {osl : Array (Option Value)} {N ps : List Str} {sp : Sp}
    (lk : K.lookup f = some ⟨oc, od, .func (PySem.W.fnOf name qual params body scope dV kV doc pm an cdv ct), osl⟩)
    (hcd : PySem.W.codeIn K cdv qual = true) (S : FnScope N ps scope)
    (len : ∀ vs H Q E, sp vs H Q E → vs.length = ps.length)
    (hbody : ∀ (A : Around) (outer : List Env) (s : Shared) (H : Hp) (vs : List V) (Q : VK) (E : XK),
      RoomG k (A.deeper (envOfC qual scope s.heap.objs.size f cdv)) → sp vs H Q E →
      ∃ t, PSs (cxOf CX P w K mg base N qual scope f cdv A outer s H E) body t ∧ t { nx := fun _ H' => Q .non H', rt := Q } (start N vs) H) :
    GFn P w K mg base CX (k + 1) f (PySem.W.fnOf name qual params body scope dV kV doc pm an cdv ct) ps sp := by
  constructor
  · exact len
  · intro A outer s H args us vs Q E hr e0 hb r hsp
    have kin : K.In s.heap := e0.mod.kin.keeps fun b o e => (e0.bs b o e).1
    have nolim : s.heap.NoLimit := e0.mod.nolimit.keeps fun b o e => (e0.bs b o e).1
    have kinds : ∀ y ∈ ps.zip us, scope.names.lookup y.1 = some .local ∨
        (scope.names.lookup y.1 = some .cell ∧ ((cellsFrom (s.heap.objs.size + 1) scope.names []).lookup y.1).isSome = true) := by
      rintro ⟨n, v⟩ hy
      rcases S.par n (List.of_mem_zip hy).1 with q | q
      · exact .inl q
      · exact .inr ⟨q, PySem.W.cellsFrom_some _ _ _ (.inl q)⟩
    refine codeAny_call_function hr.room.depth (kin _ _ lk) rfl S.co S.gen rfl (PySem.W.codeRec_of kin hcd) (hb _ _ _ _ ?_)
    refine wpAny_newFunctionEnv_cells S.kind kinds ?_
    intro env he s1 x
    subst he
    refine ⟨nolim.keeps x.toInCall.keep, codeAny_func ?_⟩
    obtain ⟨t, ht, hq⟩ := hbody A outer s H vs Q E (hr.deeper _) hsp
    have I := inv_start (CX := CX) (E := E) S hr.room.hd e0 (len _ _ _ _ hsp) r x
    refine wpAny_mono (ht.run [] s1 (start N vs) H _ I hq) ?_ (fun e s' hs => hs)
    intro fl s' hs
    cases fl with
    | ret u => obtain ⟨v, σ', H', J, rv, q⟩ := hs; exact ⟨v, H', J.os, J.bare, J.base, J.hok, rv, q⟩
    | next => obtain ⟨σ', H', J, q⟩ := hs; exact ⟨.non, H', J.os, J.bare, J.base, J.hok, rfl, q⟩
    | brk => obtain ⟨_, _, _, q⟩ := hs; exact False.elim q
    | cont => obtain ⟨_, _, _, q⟩ := hs; exact False.elim q
end

section
variable {X : Cx} {CX : CXT} {k j : Nat} {f : Addr} {fd : FuncData} {ps : List Str} {sp : Sp} {E : XK} {x : Str} {p pos : Pos} {e : Expr} {es : List Expr} {t : TA}
theorem run_gfn {pins : List (Addr × Obj)} {σ : L2.St} {H : Hp} {s : Shared} {Q : VK} {us : List Value} {vs : List V}
    (F : GFn X.prog X.w X.K X.mg X.base CX k f fd ps sp) (hr : RoomG k X.A) (hb : Binds X.K fd ps []) (hx : Passes CX X E)
    (I : Inv X pins σ H s) (r : Vals vs us) (h : sp vs H Q E) :
    wpAny (model X.prog X.w) X.A (call (.ref f) us) (EP X pins σ Q) X.xe s := by
  have hl : (us ++ ([] : List Value)).length = ps.length := by
    rw [List.append_nil, ← r.length]; exact F.len _ _ _ _ h
  have bnd := hb s us I.kIn hl
  rw [List.append_nil] at bnd
  refine wpAny_call (codeAny_mono (F.run X.A X.stack s H ⟨us, []⟩ us vs Q E hr I.env0 bnd r h) ?_)
  intro r s' hq
  cases r with
  | error e => exact hx pins σ H s e s' I hq
  | ok fl =>
    cases fl with
    | ret u => exact I.after hq
    | next => exact False.elim hq
    | brk => exact False.elim hq
    | cont => exact False.elim hq

/-- a def of the module, ready to be called by its name -/
structure Gc (P : Program) (w : World) (K : PySem.W.Frag) (mg : Str → Option Value) (base : Heap) (CX : CXT) (k : Nat) (x : Str) (sp : Sp) : Prop where
  ex : ∃ (f : Addr) (fd : FuncData) (ps : List Str), GFn P w K mg base CX k f fd ps sp ∧ mg x = some (.ref f) ∧ PySem.W.keepIn K (.ref f) = true ∧ Binds K fd ps []
theorem pe_g (c : Gc X.prog X.w X.K X.mg X.base CX k x sp) (hr : RoomG j X.A) (hk : k ≤ j) (hg : Gl X x) (hx : Passes CX X E) (ha : PA X (e :: es) t)
    (hdb : (x == ("__debug__" : Str)) = false := by decide) (he : starEach (e :: es) X.env = (false, eval e X.env) :: starEach es X.env := by rfl)
    (hpl : (backTo pos (starEach es X.env)).any (·.1) = false := by rfl) :
    PE X (.Call (.Name x p) (e :: es) [] pos) (tCall sp [] E t) := by
  obtain ⟨f, fd, ps, F, hm, kp, b⟩ := c.ex
  refine ⟨fun pins s σ H Q I h => ?_⟩
  refine wpAny_Call_Name_kw (ld_glob I hg hm ?_ hdb)
  refine PySem.W.callWith_K (h₀ := X.base) I.ok.mod.kin kp (thn (ha.run pos pins s σ H _ I h) fun us s1 hh => ?_) he hpl
  obtain ⟨vs, H1, I1, r, q⟩ := hh
  refine ⟨I1.kIn, run_gfn F (hr.mono hk) b hx I1 r ?_⟩
  rw [List.append_nil] at q
  exact q
end

/-- a def of the text, found in the written part -/
structure DefAt (K : PySem.W.Frag) (mg : Str → Option Value) (x : Str) (st : Stmt) : Prop where
  ex : ∃ (f : Addr) (oc : Value) (od : Option Addr) (kV doc pm : Value) (an : Option Addr) (cdv ct : Value) (osl : Array (Option Value)),
    K.lookup f = some ⟨oc, od, .func (PySem.W.fnOf x x (defArgs st) (defBody st) (defScope st) .none kV doc pm an cdv ct), osl⟩ ∧
      PySem.W.codeIn K cdv x = true ∧ PySem.W.keepIn K (.ref f) = true ∧ mg x = some (.ref f)
section
variable {P : Program} {w : World} {K : PySem.W.Frag} {mg : Str → Option Value} {base : Heap} {CX : CXT}
theorem DefAt.mk' {x : Str} {st : Stmt} {f : Addr} {oc : Value} {od an : Option Addr} {osl : Array (Option Value)} {kV doc pm cdv ct : Value}
    (hm : mg x = some (.ref f)) (l : K.lookup f = some ⟨oc, od, .func (PySem.W.fnOf x x (defArgs st) (defBody st) (defScope st) .none kV doc pm an cdv ct), osl⟩)
    (c : PySem.W.codeIn K cdv x = true) (k : PySem.W.keepIn K (.ref f) = true) : DefAt K mg x st :=
  ⟨f, oc, od, kV, doc, pm, an, cdv, ct, osl, l, c, k, hm⟩
/-- the promise of a def, by its body. bnd: how arguments bind -/
theorem DefAt.ok {x : Str} {st : Stmt} {N ps : List Str} {k : Nat} {sp : Sp} (D : DefAt K mg x st) (S : FnScope N ps (defScope st))
    (bnd : ∀ (kV doc pm : Value) (an : Option Addr) (cdv ct : Value) (us : List Value), us.length = ps.length →
      bindArgs (PySem.W.fnOf x x (defArgs st) (defBody st) (defScope st) .none kV doc pm an cdv ct) ⟨us, []⟩ = pure (ps.zip us))
    (len : ∀ vs H Q E, sp vs H Q E → vs.length = ps.length)
    (body : ∀ (f : Addr) (cdv : Value) (A : Around) (outer : List Env) (s : Shared) (H : Hp) (vs : List V) (Q : VK) (E : XK),
      RoomG k (A.deeper (envOfC x (defScope st) s.heap.objs.size f cdv)) → sp vs H Q E →
      ∃ t, PSs (cxOf CX P w K mg base N x (defScope st) f cdv A outer s H E) (defBody st) t ∧ t { nx := fun _ H' => Q .non H', rt := Q } (start N vs) H) :
    Gc P w K mg base CX (k + 1) x sp := by
  obtain ⟨f, oc, od, kV, doc, pm, an, cdv, ct, osl, l, c, kp, hm⟩ := D.ex
  exact ⟨f, _, ps, gfn_of l c S len fun A outer s H vs Q E hr h => body f cdv A outer s H vs Q E hr h, hm, kp, .all (bnd kV doc pm an cdv ct)⟩
/-- .. of a def that lets nothing out -/
theorem DefAt.ok0 {x : Str} {st : Stmt} {N ps : List Str} {k : Nat} {sp : Sp} (D : DefAt K mg x st) (S : FnScope N ps (defScope st))
    (bnd : ∀ (kV doc pm : Value) (an : Option Addr) (cdv ct : Value) (us : List Value), us.length = ps.length →
      bindArgs (PySem.W.fnOf x x (defArgs st) (defBody st) (defScope st) .none kV doc pm an cdv ct) ⟨us, []⟩ = pure (ps.zip us))
    (len : ∀ vs H Q E, sp vs H Q E → vs.length = ps.length)
    (body : ∀ (f : Addr) (cdv : Value) (A : Around) (outer : List Env) (s : Shared) (H : Hp) (vs : List V) (Q : VK) (E : XK),
      RoomG k (A.deeper (envOfC x (defScope st) s.heap.objs.size f cdv)) → sp vs H Q E →
      ∃ t, PSs (cxOf CX0 P w K mg base N x (defScope st) f cdv A outer s H E).nox (defBody st) t ∧ t { nx := fun _ H' => Q .non H', rt := Q } (start N vs) H) :
    Gc P w K mg base CX0 (k + 1) x sp :=
  D.ok S bnd len fun f cdv A outer s H vs Q E hr h => by
    obtain ⟨t, ht, q⟩ := body f cdv A outer s H vs Q E hr h
    exact ⟨t, ht.nox, q⟩
end
end Wk
set_option Elab.async false
set_option linter.all false
set_option maxRecDepth 100000
/-! WkTop: a law's end from a promise of WkG's kind. -/
namespace Wk
open PySem PySem.Spec PyProof.Rows L2

/-- what is wanted of the law's own call -/
def LawDone (s₁ : Shared) (r : Result) (s' : Shared) : Prop := r = .ok (.ret (.bool true)) ∧ OldK s₁.heap s'.heap ∧ s'.os = s₁.os ∧ AllBare s'.gens

theorem law_g {P : Program} {w : World} {K : PySem.W.Frag} {mg mb : Str → Option Value} {CX : CXT} {k : Nat} {fa a : Addr} {fd : FuncData} {x : Str}
    {sp : Sp} {s₁ : Shared} {vs : List Value} {ns : List Int}
    (KX : K.In s₁.heap) (hns : s₁.heap.Ns mainGlobals mg) (hb : s₁.heap.Ns builtinsNs mb)
    (hbb : ∀ x : Str, x ≠ "__name__" → mb x = bootBuiltins x) (hlim : s₁.heap.NoLimit) (hg : s₁.gens = #[])
    (ha : s₁.heap.get? a = some { cls := .type "list", data := .seq vs.toArray }) (hi : IntsAre vs ns) (hl : ns.length ≤ sizeLine)
    (hr : RoomG k callerA)
    (F : ∀ base : Heap, K.In base → base.Ns mainGlobals mg → GFn P w K mg base CX k fa fd [x] sp)
    (hbind : ∀ (s : Shared) (u : Value), BindsTo s fd ⟨[u], []⟩ [(x, u)])
    (hsp : ∀ H : Hp, Only H → SqL K H a (ns.map V.int) → sp [.ref a] H (fun v _ => v = .bl true) fun _ _ _ => False)
    (hCX : ∀ H e s', CX [] H s₁ (fun _ _ _ => False) e s' → False) :
    codeAny (model P w) callerA (.call (.ref fa) ⟨[.ref a], []⟩) (LawDone s₁) s₁ := by
  have rv := vals_ints hi
  -- from an abstract heap that tracks the script at most
  have main : ∀ H : Hp, Only H → SqL K H a (ns.map V.int) → HOk P w H s₁.heap → (∀ b, H b ≠ none → b = a) → (H a ≠ none → K.lookup a = none) →
      codeAny (model P w) callerA (.call (.ref fa) ⟨[.ref a], []⟩) (LawDone s₁) s₁ := by
    intro H only sq hok onlyA notK
    have dictFree : ∀ {b : Addr} {o : Obj} {es : Array DictEntry} {ep : Nat}, s₁.heap.get? b = some o → o.data = .dict es ep → H b = none := by
      intro b o es ep e d
      cases q : H b with
      | none => rfl
      | some u =>
        have eb : b = a := onlyA b (by rw [q]; simp)
        rw [eb, ha] at e
        have e' := Option.some.inj e
        rw [← e'] at d
        have d' : Data.seq vs.toArray _ = Data.dict es ep := d
        cases d'
    have keepNs : ∀ {b : Addr} {m : Str → Option Value}, s₁.heap.Ns b m → (hidT s₁.heap H).Ns b m := by
      rintro b m ⟨o, es, ep, e, d, r⟩
      exact ⟨o, es, ep, hidT_get e (dictFree e d), d, r⟩
    have kinB : K.In (hidT s₁.heap H) := by
      intro b o e
      refine hidT_get (KX b o e) ?_
      cases q : H b with
      | none => rfl
      | some u =>
        have eb : b = a := onlyA b (by rw [q]; simp)
        rw [eb] at q e
        rw [notK (by rw [q]; simp)] at e
        cases e
    have md : Mod K mg (hidT s₁.heap H) := by
      obtain ⟨mc, h1, h2⟩ := hlim
      exact ⟨kinB, keepNs hns, ⟨mb, keepNs hb, hbb⟩, ⟨mc, keepNs h1, h2⟩⟩
    have noFr : frs ([] : List Env) = [] := rfl
    have e0 : Env0 P w K mg (hidT s₁.heap H) callerA [] s₁ H := by
      refine ⟨rfl, md, fun b o e => of_hidT e, Nat.le_of_eq (hidT_size _ _), trivial, ?_, hok, .of_eq hg⟩
      intro b hb
      rw [noFr] at hb
      cases hb
    have G := F _ kinB (keepNs hns)
    refine codeAny_mono (G.run callerA [] s₁ H ⟨[.ref a], []⟩ [.ref a] [.ref a] _ _ hr e0 (hbind s₁ (.ref a)) (.cons rfl .nil) (hsp H only sq)) ?_
    intro r s' h
    cases r with
    | error e => exact (hCX H e s' h).elim
    | ok fl =>
      cases fl with
      | next => exact False.elim h
      | brk => exact False.elim h
      | cont => exact False.elim h
      | ret u =>
        obtain ⟨v, H', os, bare, un, hok', r', q⟩ := h
        have q' : v = .bl true := q
        rw [q'] at r'
        have eu : u = Value.bool true := r'
        refine ⟨by rw [eu], OldK.of_keep fun b o e => ?_, os, bare⟩
        cases q : H b with
        | none => exact un.keep b o e q (by rw [noFr]; exact List.not_mem_nil) List.not_mem_nil
        | some u =>
          rcases only b with z | ⟨ob, xs, z⟩
          · rw [q] at z; cases z
          · obtain ⟨e1, _⟩ := hok b _ z
            obtain ⟨e2, _⟩ := hok' b _ (un.frzs b ob _ z)
            rw [e] at e1
            rw [e2]
            exact e1.symm
  cases hk : K.lookup a with
  | some o =>
    have e := KX a o hk
    rw [ha] at e
    have eo := Option.some.inj e
    rw [← eo] at hk
    refine main (fun _ => none) (fun _ => .inl rfl) (.inr ⟨_, vs.toArray, _, hk, rfl, rfl, rfl, by rw [List.size_toArray, hi.length]; exact hl, by simpa using rv⟩)
      (fun b u z => nomatch (show (none : Option HO) = some u from z)) (fun b z => absurd rfl z) fun z => absurd rfl z
  | none =>
    let Hs : Hp := fun b => if b = a then some (.frz { cls := .type "list", data := .seq vs.toArray } (.lst (ns.map V.int))) else none
    have at_a : Hs a = some (.frz { cls := .type "list", data := .seq vs.toArray } (.lst (ns.map V.int))) := if_pos rfl
    have off : ∀ b, b ≠ a → Hs b = none := fun b hb => if_neg hb
    refine main Hs ?_ (.inl (.inr ⟨_, at_a⟩)) ?_ ?_ fun _ => hk
    · intro b
      by_cases hb : b = a
      · exact .inr ⟨_, _, if_pos hb⟩
      · exact .inl (off b hb)
    · intro b u z
      by_cases hb : b = a
      · rw [hb, at_a] at z
        have z' := Option.some.inj z
        rw [hb, ← z']
        exact ⟨ha, by rw [List.length_map]; exact hl, vs, _, rv, ha⟩
      · rw [off b hb] at z
        cases z
    · intro b z
      by_cases hb : b = a
      · exact hb
      · exact absurd (off b hb) z

theorem roomCaller : RoomG 40 callerA := ⟨⟨rfl, by decide, by decide⟩, rfl⟩

/-- the goal that k_head leaves, from the law's promise -/
theorem walk_g {l : PySem.W.OpenLaw} {n k : Nat} {q : Program} {loose : List Str} {XP : (Str → Option Value) → Heap → Prop} {YP : World → Heap → Prop}
    {d : DefRec} {K : Params → PySem.W.Frag} {CX : World → CXT} {sp : World → Sp} {x : Str}
    (hn : l.most = some n) (hn2 : n ≤ sizeLine) (hdf : d.params.defaults = []) (hk : k ≤ 40)
    (hY : ∀ (w : World) (h : Heap), YP w h → (K w.params).In h)
    (F : ∀ (w : World) (mg : Str → Option Value) (fa : Addr) (h : Heap), (K w.params).In h → h.Ns mainGlobals mg → mg d.name = some (.ref fa) →
      ∃ fd : FuncData, (∀ (s : Shared) (u : Value), BindsTo s fd ⟨[u], []⟩ [(x, u)]) ∧
        ∀ base : Heap, (K w.params).In base → base.Ns mainGlobals mg → GFn l.prog w (K w.params) mg base (CX w) k fa fd [x] (sp w))
    (hsp : ∀ (w : World) (H : Hp) (a : Addr) (ns : List Int), ns.length ≤ n → Only H → SqL (K w.params) H a (ns.map V.int) →
      sp w [.ref a] H (fun v _ => v = .bl true) fun _ _ _ => False)
    (hCX : ∀ (w : World) (H : Hp) (s : Shared) (e : Value) (s' : Shared), CX w [] H s (fun _ _ _ => False) e s' → False) :
    PySem.W.WalkO q loose XP YP l.row.toRowW d [] (fun f vs => PySem.call f vs) := by
  refine Att.attach_call hn hdf ?_
  intro w s₀ s₁ mg mb fa o pm cd doc a vs ns G Y ho hd hcd hmg hobj hints hlen hg
  have kin := hY w _ Y
  obtain ⟨fd, hb, hF⟩ := F w mg fa _ kin G.T.g hmg
  exact law_g kin G.T.g G.T.b G.T.builtins G.T.nolimit hg hobj hints (Nat.le_trans hlen hn2) (roomCaller.mono hk) hF hb
    (fun H only sq => hsp w H a ns hlen only sq) fun H e s' => hCX w H s₁ e s'
end Wk
set_option Elab.async false
set_option linter.all false
set_option maxRecDepth 100000
set_option maxHeartbeats 2000000
/-! WkR: rules for repr of data, powers of any size, list of a text, text * int. -/
namespace Wk
open PySem PySem.Spec PyProof.Rows L2

section
variable {X : Cx} {H : Hp}
mutual
theorem dp_nodict {K : PySem.W.Frag} : ∀ (d : PyData) (v : V), Dp K H v d → d.hasDict = false
  | .none, _, _ => by simp only [PyData.hasDict]
  | .bool _, _, _ => by simp only [PyData.hasDict]
  | .int _, _, _ => by simp only [PyData.hasDict]
  | .str _, _, _ => by simp only [PyData.hasDict]
  | .list ds, _, h => by
    cases h with
    | lst hs ha => simp only [PyData.hasDict]; exact dpAll_nodict ds _ ha
  | .tuple ds, _, h => by
    cases h with
    | tup hs ha => simp only [PyData.hasDict]; exact dpAll_nodict ds _ ha
  | .dict _, _, h => by cases h
theorem dpAll_nodict {K : PySem.W.Frag} : ∀ (ds : List PyData) (vs : List V), DpAll K H vs ds → PyData.hasDictAll ds = false
  | [], _, _ => by simp only [PyData.hasDictAll]
  | d :: ds, _, h => by
    cases h with
    | cons h1 h2 => simp only [PyData.hasDictAll, dp_nodict d _ h1, dpAll_nodict ds _ h2, Bool.or_false]
end

/-- repr of data: the text that the data shows -/
def rRepr (K : PySem.W.Frag) : List V → Hp → VK → Prop := fun xs H Q => ∃ x d, xs = [x] ∧ Dp K H x d ∧ d.showable = true ∧ d.depth ≤ 60 ∧ d.shown.length ≤ sizeLine ∧ Q (.str d.shown) H
theorem call_reprD {k : Nat} (hr : RoomG k X.A) : CallR X (.builtin "repr") (rRepr X.K) := by
  intro pins s σ H xs us Q I r h
  obtain ⟨x, d, rfl, hd, hs, hdep, hz, q⟩ := h
  obtain ⟨u, rfl, ru⟩ := vals1 r
  have nod := dp_nodict d x hd
  have hun := hr.room.un
  obtain ⟨as, rd⟩ := Dp.reads I d x u hd ru
  have fin : ∀ (tk : Tok), EP X pins σ Q (.str d.shown tk) { s with toks := s.toks + 1 } := fun tk => ⟨.str d.shown, H, I.tok _, ⟨_, rfl⟩, q⟩
  cases hd with
  | non =>
    cases ru
    refine PySem.P.repr_of_none ?_
    have q' := fin s.toks
    simp only [PyData.shown] at q'
    exact q'
  | bl b =>
    cases ru
    refine PySem.P.repr_of_bool ?_
    have q' := fin s.toks
    simp only [PyData.shown] at q'
    exact q'
  | int i =>
    obtain ⟨t, rfl⟩ := ru
    simp only [PyData.showable, decide_eq_true_eq] at hs
    refine PySem.P.repr_of_int hs ?_
    have q' := fin s.toks
    simp only [PyData.shown] at q'
    exact q'
  | str x =>
    obtain ⟨t, rfl⟩ := ru
    simp only [PyData.shown] at hz
    refine PySem.P.repr_of_str ?_ hz
    have q' := fin s.toks
    simp only [PyData.shown] at q'
    exact q'
  | lst h1 h2 =>
    cases ru
    exact repr_of_reads' rd hs (PyData.noDict_hsm nod) hr.bare (by omega) (fun b o e => e) (fun h' u tk kp => ⟨.str _, H, I.kept (t' := tk) kp, ⟨_, rfl⟩, q⟩) hz
  | tup h1 h2 =>
    cases ru
    exact repr_of_reads' rd hs (PyData.noDict_hsm nod) hr.bare (by omega) (fun b o e => e) (fun h' u tk kp => ⟨.str _, H, I.kept (t' := tk) kp, ⟨_, rfl⟩, q⟩) hz

/-! ### powers -/
def CPowW (i j : Int) : Prop := 0 ≤ j ∧ (Builtin.Int.intBits i : Int) * j ≤ 2 ^ 27
theorem op_powW : OpR X (binaryOp .Pow) (rI CPowW fun i j => .int (i ^ j.toNat)) := opI fun _ _ _ _ _ _ _ hc q => pow_int hc.1 hc.2 q

/-! ### list(text) -/
def signsV (x : Str) : List V := x.cps.toList.map fun c => V.str ⟨#[c]⟩
theorem call_listS : CallR X (.type "list") (fun xs H Q => ∃ x, xs = [.str x] ∧ x.length ≤ sizeLine ∧ X.calm = true ∧ ∀ l, H l = none → Q (.ref l) (upd H l (.lst (signsV x)))) := by
  intro pins s σ H xs us Q I r h
  obtain ⟨x, rfl, hz, hc, q⟩ := h
  obtain ⟨u, rfl, ru⟩ := vals1 r
  obtain ⟨t, rfl⟩ := ru
  have hsz : x.cps.size ≤ sizeLine := hz
  refine call_list_str (I.ok.hd hc) x t (fun h' tk acc c kp e items => ?_) hsz
  obtain ⟨n1, n2⟩ := items
  have rv : Vals (signsV x) acc.toList := by
    have ex : ∀ (l : List Nat) (us : List Value), us.length = l.length → (∀ (i : Nat) (v : Value) (c : Nat), us[i]? = some v → l[i]? = some c → ∃ t, v = .str ⟨#[c]⟩ t) →
        Vals (l.map fun c => V.str ⟨#[c]⟩) us := by
      intro l
      induction l with
      | nil =>
        intro us hl _
        cases us with
        | nil => exact .nil
        | cons a b => cases hl
      | cons c l ih =>
        intro us hl hh
        cases us with
        | nil => cases hl
        | cons a b =>
          obtain ⟨t, e⟩ := hh 0 a c rfl rfl
          exact .cons ⟨t, e⟩ (ih b (Nat.succ.inj hl) fun i v c' h1 h2 => hh (i + 1) v c' (by simpa using h1) (by simpa using h2))
    refine ex x.cps.toList acc.toList (by rw [Array.length_toList, Array.length_toList]; exact n1) ?_
    intro i v c h1 h2
    have hi : acc[i]? = some v := by rw [← Array.getElem?_toList]; exact h1
    have at' := n2 i v hi
    obtain ⟨c', t', hc', ev⟩ := at'
    rw [Array.getElem?_toList] at h2
    rw [h2] at hc'
    have ec := Option.some.inj hc'
    subst ec
    exact ⟨t', ev⟩
  refine ⟨.ref s.heap.objs.size, _, I.laid (t' := tk) (o := .lst (signsV x)) kp (Nat.le_refl _) ?_, rfl, q _ (I.hok.fresh (Nat.le_refl _))⟩
  refine ⟨?_, acc.toList, c, rv, by simpa using e⟩
  show (signsV x).length ≤ sizeLine
  unfold signsV
  rw [List.length_map, Array.length_toList]
  exact hsz

/-! ### text * int -/
def timesS (x : Str) (n : Nat) : Str := ⟨(List.replicate n x.cps).foldl (· ++ ·) #[]⟩
theorem times_size (c : Array Nat) : ∀ (n : Nat) (acc : Array Nat), ((List.replicate n c).foldl (· ++ ·) acc).size = acc.size + n * c.size
  | 0, acc => by simp
  | n + 1, acc => by
    rw [List.replicate_succ, List.foldl_cons, times_size c n, Array.size_append, Nat.succ_mul]
    omega
theorem times_length (x : Str) (n : Nat) : (timesS x n).length = n * x.length := by
  show ((List.replicate n x.cps).foldl (· ++ ·) #[]).size = n * x.cps.size
  rw [times_size]
  simp
theorem op_repS : OpR X (binaryOp .Mult) (fun x y H Q => ∃ (a : Str) (n : Int), x = .str a ∧ y = .int n ∧ 2 ≤ n ∧ n ≤ 1000 ∧ 1 ≤ a.length ∧ a.length ≤ 1000 ∧ Q (.str (timesS a n.toNat)) H) := by
  intro pins s σ H x y v u Q I rx ry h
  obtain ⟨a, n, rfl, rfl, h2, h1000, l1, l2, q⟩ := h
  obtain ⟨t, rfl⟩ := rx
  obtain ⟨t', rfl⟩ := ry
  have n1 : ¬ n < 1 := by omega
  have nn : (n == 1 || a.length == 0) = false := by
    have e1 : (n == 1) = false := by
      apply beq_eq_false_iff_ne.mpr
      omega
    have e2 : (a.length == 0) = false := by
      apply beq_eq_false_iff_ne.mpr
      omega
    rw [e1, e2]; rfl
  have lt : a.length * n.toNat ≤ 1000 * 1000 := Nat.mul_le_mul l2 (by omega)
  refine PySem.P.mul_str ?_ (fun _ _ => ?_) (fun _ _ => ?_) ?_
  · have e1 : ¬ n < -(2 ^ 63 : Int) := by omega
    have e2 : ¬ n ≥ 2 ^ 63 := by omega
    rw [decide_eq_false e1, decide_eq_false e2]; rfl
  · have hd : (1000 : Int) ≤ (2 ^ 63 - 1) / n := by
      apply (Int.le_ediv_iff_mul_le (by omega)).mpr
      omega
    omega
  · show Builtin.Str.tooLong _ = false
    unfold Builtin.Str.tooLong
    first
      | (apply decide_eq_false; rw [sizeLine_eq]; omega)
      | (simp [sizeLine_eq]; omega)
      | (simp; omega)
  · rw [if_neg n1, nn]
    show (Made.str _).post _ s
    refine ⟨?_, ⟨.str _, H, I.tok _, ⟨_, rfl⟩, q⟩⟩
    show (timesS a n.toNat).length ≤ sizeLine
    rw [times_length, sizeLine_eq, Nat.mul_comm]
    omega

/-! ### xs == [], xs != [] -/
def rEqE (K : PySem.W.Frag) (neg : Bool) : R2 := fun x y H Q => ∃ p q xs, x = .ref p ∧ y = .ref q ∧ SqL K H p xs ∧ SqL K H q [] ∧ Q (.bl (if neg then !xs.isEmpty else xs.isEmpty)) H
theorem emptyV {its : List Value} {xs : List V} (r : Vals xs its) : its.isEmpty = xs.isEmpty := by cases r <;> rfl
theorem op_eqE {k : Nat} (hr : RoomG k X.A) : OpR X (compareOp .Eq) (rEqE X.K false) := by
  intro pins s σ H x y v u Q I rx ry h
  obtain ⟨p, q, xs, rfl, rfl, hp, hq, f⟩ := h
  cases rx
  cases ry
  obtain ⟨its, rv, l1, _⟩ := I.list hp
  obtain ⟨its2, rv2, l2, _⟩ := I.list hq
  cases rv2
  have hu : X.A.units < cLine := hr.room.units0
  cases rv with
  | nil => exact SeqAt.eq_listAt (e := fun _ => true) l1.isList l2.isList rfl hu (fun j h1 => absurd h1 (by simp)) ⟨.bl true, H, I, rfl, f⟩
  | cons a b => exact SeqAt.eq_list_lengthsAt l1.isList l2.isList (by simp) hu ⟨.bl false, H, I, rfl, f⟩
theorem op_neE {k : Nat} (hr : RoomG k X.A) : OpR X (compareOp .NotEq) (rEqE X.K true) := by
  intro pins s σ H x y v u Q I rx ry h
  obtain ⟨p, q, xs, rfl, rfl, hp, hq, f⟩ := h
  cases rx
  cases ry
  obtain ⟨its, rv, l1, _⟩ := I.list hp
  obtain ⟨its2, rv2, l2, _⟩ := I.list hq
  cases rv2
  have hu : X.A.units < cLine := hr.room.units0
  cases rv with
  | nil => exact SeqAt.RcNeAt.lists (e := fun _ => true) l1.isList l2.isList rfl hu (fun j h1 => absurd h1 (by simp)) X.prog X.w _ _ ⟨.bl false, H, I, rfl, f⟩
  | cons a b => exact SeqAt.RcNeAt.lists_lengths l1.isList l2.isList (by simp) hu X.prog X.w _ _ ⟨.bl true, H, I, rfl, f⟩
end
end Wk
set_option Elab.async false
set_option linter.all false
set_option maxRecDepth 100000
/-! WkS: the mill (three ints in a list) and what stays beside it. -/
namespace Wk
open PySem PySem.Spec PyProof.Rows L2

/-- the mill at m -/
def Ml (H : Hp) (m : Addr) : Prop := ∃ x y z : Int, H m = some (.lst [.int x, .int y, .int z]) ∧ 0 ≤ x
/-- all but the mill stays -/
structure Kp (m : Addr) (H H' : Hp) : Prop where
  keep : ∀ b o, b ≠ m → H b = some o → H' b = some o
  ml : Ml H' m
theorem Kp.refl {m : Addr} {H : Hp} (h : Ml H m) : Kp m H H := ⟨fun _ _ _ e => e, h⟩
theorem Kp.trans {m : Addr} {H H1 H2 : Hp} (a : Kp m H H1) (b : Kp m H1 H2) : Kp m H H2 := ⟨fun c o n e => b.keep c o n (a.keep c o n e), b.ml⟩
theorem Ml.ne {H : Hp} {m p : Addr} (h : Ml H m) (e : H p = none) : p ≠ m := by
  obtain ⟨x, y, z, q, _⟩ := h
  intro z
  rw [z, q] at e
  cases e
theorem Kp.free {m p : Addr} {H H' : Hp} (k : Kp m H H') (e : H' p = none) : H p = none := by
  have n := k.ml.ne e
  cases q : H p with
  | none => rfl
  | some o =>
    rw [k.keep p o n q] at e
    cases e
theorem Kp.new {m p : Addr} {H H' : Hp} {o : HO} (k : Kp m H H') (e : H' p = none) : Kp m H (upd H' p o) := by
  refine ⟨fun b u n q => ?_, ?_⟩
  · rw [upd_ne (ne_of_none (k.keep b u n q) e)]
    exact k.keep b u n q
  · obtain ⟨x, y, z, q, h⟩ := k.ml
    exact ⟨x, y, z, by rw [upd_ne (k.ml.ne e).symm]; exact q, h⟩
/-- an object that H did not have is changed -/
theorem Kp.mut {m p : Addr} {H H' : Hp} {o : HO} (k : Kp m H H') (e : H p = none) (n : p ≠ m) : Kp m H (upd H' p o) := by
  refine ⟨fun b u nb q => ?_, ?_⟩
  · rw [upd_ne (ne_of_none q e)]
    exact k.keep b u nb q
  · obtain ⟨x, y, z, q, h⟩ := k.ml
    exact ⟨x, y, z, by rw [upd_ne n.symm]; exact q, h⟩
/-- the mill itself is changed -/
theorem Kp.turn {m : Addr} {H H' : Hp} {x y z : Int} (k : Kp m H H') (h : 0 ≤ x) : Kp m H (upd H' m (.lst [.int x, .int y, .int z])) :=
  ⟨fun b u nb q => by rw [upd_ne nb]; exact k.keep b u nb q, ⟨x, y, z, upd_same, h⟩⟩
/-- the script: read only -/
def Scr (K : PySem.W.Frag) (H : Hp) (a : Addr) (ns : List Int) : Prop := SqL K H a (ns.map V.int) ∧ ∀ ys, H a ≠ some (.lst ys)
theorem Scr.ne {K : PySem.W.Frag} {H : Hp} {a m : Addr} {ns : List Int} (s : Scr K H a ns) (h : Ml H m) : a ≠ m := by
  intro e
  obtain ⟨x, y, z, q, _⟩ := h
  exact s.2 _ (by rw [e]; exact q)
theorem SqL.kept {K : PySem.W.Frag} {H H' : Hp} {a : Addr} {xs : List V} (h : SqL K H a xs) (k : ∀ o, H a = some o → H' a = some o) : SqL K H' a xs := by
  rcases h with (h | ⟨o, h⟩) | h
  · exact .inl (.inl (k _ h))
  · exact .inl (.inr ⟨o, k _ h⟩)
  · exact .inr h
theorem SqT.kept {K : PySem.W.Frag} {H H' : Hp} {a : Addr} {xs : List V} (h : SqT K H a xs) (k : ∀ o, H a = some o → H' a = some o) : SqT K H' a xs := by
  rcases h with (h | ⟨o, h⟩) | h
  · exact .inl (.inl (k _ h))
  · exact .inl (.inr ⟨o, k _ h⟩)
  · exact .inr h
end Wk
set_option Elab.async false
set_option linter.all false
set_option maxRecDepth 100000
/-! WkC: comprehensions over texts and zipped tuples; isinstance by kinds. -/
namespace Wk
open PySem PySem.Spec PyProof.Rows L2

/-- what a turn of a comprehension has to bring -/
def Turn1 (D : Addr) (g : TG) (tt : TT) (te : TE) (vs : List Nat) (σ : L2.St) (x : V) (H : Hp) (Nx : Hp → Prop) : Prop :=
  g x (wipe σ vs) H fun σ2 H2 => wipe σ2 vs = wipe σ vs ∧ tt σ2 H2 fun b H3 =>
    if b = true then te σ2 H3 fun y H4 => ∃ acc, H4 D = some (.lst acc) ∧ acc.length < sizeLine ∧ Nx (upd H4 D (.lst (acc ++ [y]))) else Nx H3
theorem turn_yes {D : Addr} {te : TE} {vs : List Nat} {σ : L2.St} {x : V} {H : Hp} {Nx : Hp → Prop} {i : Nat}
    (hw : wipe ((wipe σ vs).set i (some x)) vs = wipe σ vs)
    (he : te ((wipe σ vs).set i (some x)) H fun y H4 => ∃ acc, H4 D = some (.lst acc) ∧ acc.length < sizeLine ∧ Nx (upd H4 D (.lst (acc ++ [y])))) :
    Turn1 D (gName i) tYes te vs σ x H Nx := by
  refine ⟨hw, ?_⟩
  unfold tYes
  dsimp only
  rw [if_pos rfl]
  exact he
/-- over any walk whose turns are told -/
theorem lc_any {J : It} {n : Nat} {g : TG} {tt : TT} {te : TE} {vs : List Nat} {σ : L2.St} {H1 : Hp} {D : Addr} {Qd : Hp → Prop} (Pv : Nat → Hp → Prop)
    (h0 : Pv 0 (upd H1 D (.lst []))) (go : ∀ i H, i < n → Pv i H → J.go i H) (stop : ∀ H, Pv n H → J.stop n H)
    (hs : ∀ i x H H', i < n → Pv i H → J.yld i H x H' → Turn1 D g tt te vs σ x H' (Pv (i + 1))) (hd : ∀ H, Pv n H → Qd H) :
    ∃ W : Nat → Nat → Hp → Prop, (∃ m, W 0 m (upd H1 D (.lst []))) ∧ ∀ i m H, W i m H →
      (J.stop i H ∧ Qd H) ∨ (J.go i H ∧ ∃ Nx : Hp → Prop, (∀ H', Nx H' → ∃ m', m' < m ∧ W (i + 1) m' H') ∧ ∀ x H', J.yld i H x H' → g x (wipe σ vs) H' fun σ2 H2 => wipe σ2 vs = wipe σ vs ∧ tt σ2 H2 fun b H3 =>
        if b = true then te σ2 H3 fun y H4 => ∃ acc, H4 D = some (.lst acc) ∧ acc.length < sizeLine ∧ Nx (upd H4 D (.lst (acc ++ [y]))) else Nx H3) := by
  refine ⟨fun i m H => m = n - i ∧ i ≤ n ∧ Pv i H, ⟨n, rfl, Nat.zero_le _, h0⟩, ?_⟩
  rintro i m H ⟨em, hi, p⟩
  by_cases lt : i < n
  · exact .inr ⟨go i H lt p, Pv (i + 1), fun H' p' => ⟨n - (i + 1), by omega, rfl, lt, p'⟩, fun x H' y => hs i x H H' lt p y⟩
  · have ei : i = n := by omega
    subst ei
    exact .inl ⟨stop H p, hd H p⟩
theorem lc_str {x : Str} {g : TG} {tt : TT} {te : TE} {vs : List Nat} {σ : L2.St} {H1 : Hp} {D : Addr} {Qd : Hp → Prop} (Pv : Nat → Hp → Prop)
    (h0 : Pv 0 (upd H1 D (.lst []))) (hs : ∀ i c H, x.cps.toList[i]? = some c → Pv i H → Turn1 D g tt te vs σ (.str ⟨#[c]⟩) H (Pv (i + 1)))
    (hd : ∀ H, Pv x.cps.toList.length H → Qd H) :
    ∃ W : Nat → Nat → Hp → Prop, (∃ m, W 0 m (upd H1 D (.lst []))) ∧ ∀ i m H, W i m H →
      ((Its x).stop i H ∧ Qd H) ∨ ((Its x).go i H ∧ ∃ Nx : Hp → Prop, (∀ H', Nx H' → ∃ m', m' < m ∧ W (i + 1) m' H') ∧ ∀ y H', (Its x).yld i H y H' → g y (wipe σ vs) H' fun σ2 H2 => wipe σ2 vs = wipe σ vs ∧ tt σ2 H2 fun b H3 =>
        if b = true then te σ2 H3 fun y H4 => ∃ acc, H4 D = some (.lst acc) ∧ acc.length < sizeLine ∧ Nx (upd H4 D (.lst (acc ++ [y]))) else Nx H3) := by
  have en : x.cps.toList.length = x.cps.size := Array.length_toList
  refine lc_any (n := x.cps.toList.length) Pv h0 (fun i H lt p => (by rw [en] at lt; exact lt)) (fun H p => (by rw [en]; exact Nat.le_refl _)) (fun i v H H' lt p y => ?_) hd
  obtain ⟨rfl, c, hc, rfl⟩ := y
  exact hs i c _ (by rw [Array.getElem?_toList]; exact hc) p
theorem lc_zipT {K : PySem.W.Frag} {a b : Addr} {xs ys : List V} {g : TG} {tt : TT} {te : TE} {vs : List Nat} {σ : L2.St} {H1 : Hp} {D : Addr} {Qd : Hp → Prop} (Pv : Nat → Hp → Prop)
    (h0 : Pv 0 (upd H1 D (.lst []))) (hq : ∀ i H, Pv i H → SqT K H a xs ∧ SqT K H b ys)
    (hs : ∀ i x y H T, xs[i]? = some x → ys[i]? = some y → Pv i H → H T = none → Turn1 D g tt te vs σ (.ref T) (upd H T (.tup [x, y])) (Pv (i + 1)))
    (hd : ∀ H, Pv (min xs.length ys.length) H → Qd H) :
    ∃ W : Nat → Nat → Hp → Prop, (∃ m, W 0 m (upd H1 D (.lst []))) ∧ ∀ i m H, W i m H →
      ((RZ.ItzT K a b).stop i H ∧ Qd H) ∨ ((RZ.ItzT K a b).go i H ∧ ∃ Nx : Hp → Prop, (∀ H', Nx H' → ∃ m', m' < m ∧ W (i + 1) m' H') ∧ ∀ y H', (RZ.ItzT K a b).yld i H y H' → g y (wipe σ vs) H' fun σ2 H2 => wipe σ2 vs = wipe σ vs ∧ tt σ2 H2 fun b H3 =>
        if b = true then te σ2 H3 fun y H4 => ∃ acc, H4 D = some (.lst acc) ∧ acc.length < sizeLine ∧ Nx (upd H4 D (.lst (acc ++ [y]))) else Nx H3) := by
  refine lc_any (n := min xs.length ys.length) Pv h0 (fun i H lt p => ?_) (fun H p => ?_) (fun i v H H' lt p y => ?_) hd
  · obtain ⟨q1, q2⟩ := hq i H p
    have l1 : i < xs.length := by omega
    have l2 : i < ys.length := by omega
    exact ⟨xs, ys, xs[i], ys[i], q1, q2, List.getElem?_eq_getElem l1, List.getElem?_eq_getElem l2⟩
  · obtain ⟨q1, q2⟩ := hq _ H p
    exact ⟨xs, ys, q1, q2, by omega⟩
  · obtain ⟨q1, q2⟩ := hq i H p
    obtain ⟨T, x, y, rfl, nT, rfl, f1, f2⟩ := y
    exact hs i x y H T (f1 _ q1) (f2 _ q2) p nT

/-! ### all that was there stays -/
theorem same_new {H H' : Hp} {p : Addr} {o : HO} (s : Same H H') (e : H' p = none) : Same H (upd H' p o) := fun b u q => by
  rw [upd_ne (ne_of_none (s b u q) e)]
  exact s b u q
theorem same_mut {H H' : Hp} {p : Addr} {o : HO} (s : Same H H') (e : H p = none) : Same H (upd H' p o) := fun b u q => by
  rw [upd_ne (ne_of_none q e)]
  exact s b u q
theorem same_sqt {K : PySem.W.Frag} {H H' : Hp} {a : Addr} {xs : List V} (e : Same H H') (h : SqT K H a xs) : SqT K H' a xs := SqT.kept h (e a)

/-! ### kinds of values -/
/-- the value's built-in class -/
def Kd (K : PySem.W.Frag) (H : Hp) (v : V) (t : String) : Prop := TyOf K H v (.type t) ∧ t ∈ ["NoneType", "bool", "int", "str", "list", "tuple", "dict"]
theorem Kd.same {K : PySem.W.Frag} {H H' : Hp} {v : V} {t : String} (s : Same H H') (h : Kd K H v t) : Kd K H' v t := by
  obtain ⟨h, m⟩ := h
  refine ⟨?_, m⟩
  generalize ec : Value.type t = c at h
  cases h with
  | non => exact .non
  | bl x => exact .bl x
  | int i => exact .int i
  | str x => exact .str x
  | flt x => exact .flt x
  | lst e => exact .lst (s _ _ e)
  | frz e => exact .frz (s _ _ e)
  | tup e => exact .tup (s _ _ e)
  | dK e => exact .dK (s _ _ e)
  | dT e => exact .dT (s _ _ e)
  | ins e => cases ec
/-- what isinstance says of a kind -/
def isaB (t n : String) : Bool := decide (t = n) || (decide (t = "bool") && decide (n = "int"))
theorem kit_isa : ∀ t ∈ ["NoneType", "bool", "int", "str", "list", "tuple", "dict"], ∀ n ∈ ["bool", "int", "str", "list", "tuple", "dict"], kitB t n = some (isaB t n) := by decide +kernel
/-- isinstance(x, n) -/
def rIsa (K : PySem.W.Frag) : List V → Hp → VK → Prop := fun xs H Q => ∃ (x : V) (t n : String), xs = [x, .ty n] ∧ n ∈ ["bool", "int", "str", "list", "tuple", "dict"] ∧ Kd K H x t ∧ Q (.bl (isaB t n)) H
theorem call_isa {X : Cx} : CallR X (.builtin "isinstance") (rIsa X.K) := by
  intro pins s σ H xs us Q I r h
  obtain ⟨x, t, n, rfl, hn, hk, q⟩ := h
  exact call_isi pins s σ H _ us Q I r ⟨x, .ty n, .type t, .type n, isaB t n, rfl, .ty n, .base hk.1, kit_ty (kit_isa t hk.2 n hn), q⟩
end Wk
set_option Elab.async false
set_option linter.all false
set_option maxRecDepth 100000
set_option maxHeartbeats 4000000
/-! WkSet: set(tuple of texts), sorted(set of texts). -/
namespace Wk
open PySem PySem.Spec PyProof.Rows L2

/-! ### what a set of texts is -/
def txtOf (e : Int × Value) : Str := match e.2 with
  | .str x _ => x
  | _ => Str.empty
def GoodT (w : World) (e : Int × Value) : Prop := ∃ x tk, e.2 = Value.str x tk ∧ e.1 = hashStr w x
/-- the set of texts at a, its members those of S, its size n; its table can be walked -/
structure SetTAt (w : World) (o : Obj) (es : Array (Int × Value)) (t : SetTable) (S : Str → Bool) (n : Nat) : Prop where
  exact' : o.ExactSet
  good : ∀ e ∈ es.toList, GoodT w e
  nd : (es.toList.map txtOf).Nodup
  mem : ∀ k, S k = true ↔ k ∈ es.toList.map txtOf
  bound : es.size < scanBound
  fits : t.fits es.size = true
  size : es.size = n
  rises : Ris t.place.toList
  led : w.params.followText "set-order" = true ∨ t.led = true
def SetT (w : World) (h : Heap) (a : Addr) (S : Str → Bool) (n : Nat) : Prop :=
  ∃ o es ep t, h.get? a = some o ∧ o.data = .set es ep t ∧ SetTAt w o es t S n

section
variable {P : Program} {w : World} {h h' : Heap} {a : Addr} {S : Str → Bool} {n : Nat}
theorem SetT.at (R : SetT w h a S n) (k : ∀ o, h.get? a = some o → h'.get? a = some o) : SetT w h' a S n := by
  obtain ⟨o, es, ep, t, ho, r⟩ := R
  exact ⟨o, es, ep, t, k o ho, r⟩
theorem SetT.congr {S' : Str → Bool} (R : SetT w h a S n) (e : ∀ k, S' k = S k) : SetT w h a S' n := by
  have q : S' = S := funext e
  rw [q]; exact R
theorem goodT_elems {l : List (Int × Value)} (g : ∀ e ∈ l, GoodT w e) : ElemsOf (strKind P w) l := by
  intro e he
  obtain ⟨k, tk, h1, h2⟩ := g e he
  refine ⟨⟨k, ?_, h2⟩, ?_⟩
  · rw [h1]; show Value.isStrOf k (.str k tk) = true; simp [Value.isStrOf]
  · rw [h1] <;> rfl
theorem goodT_is {e : Int × Value} (g : GoodT w e) (k : Str) : (strKind P w).is k e.2 = true ↔ txtOf e = k := by
  obtain ⟨k0, tk, h1, _⟩ := g
  unfold txtOf
  rw [h1]
  show Value.isStrOf k (.str k0 tk) = true ↔ k0 = k
  constructor
  · intro q
    obtain ⟨t, e⟩ := Value.isStrOf_shape q
    injection e
  · intro q
    rw [q]; simp [Value.isStrOf]
theorem goodT_mem {l : List (Int × Value)} (g : ∀ e ∈ l, GoodT w e) (k : Str) :
    k ∈ l.map txtOf ↔ ∃ e ∈ l, (strKind P w).is k e.2 = true := by
  rw [List.mem_map]
  constructor
  · rintro ⟨e, he, q⟩; exact ⟨e, he, (goodT_is (g e he) k).2 q⟩
  · rintro ⟨e, he, q⟩; exact ⟨e, he, (goodT_is (g e he) k).1 q⟩
end

section
variable {P : Program} {w : World} {A : Around} {E : Value → Shared → Prop} {s : Shared} {a : Addr} {S : Str → Bool} {n : Nat}

/-- behind the table has taken the new member -/
theorem setT_tail {g : Bool → Sem Unit} (hg : ∀ (b : Bool) (s₁ : Shared) (Q' : Unit → Shared → Prop), Q' () s₁ → wpAny (model P w) A (g b) Q' E s₁)
    {o : Obj} {es : Array (Int × Value)} {ep : Nat} {t : SetTable} (ho : s.heap.get? a = some o) (hd : o.data = .set es ep t)
    {es1 : Array (Int × Value)} {t2 : SetTable} {S' : Str → Bool} (at1 : SetTAt w o es1 t2 S' es1.size)
    {wasDummy : Bool} {R : Option Bool → Shared → Prop}
    (hR : ∀ h', Heap.SameBut a s.heap h' → SetT w h' a S' es1.size → R (some true) { s with heap := h' }) :
    wpAny (model P w) A (do
        storeSet a es1 t2
        if (!wasDummy && t2.tooFull) = true then do
            g (relayAll t2 es1 (SetTable.grown es1.size)).2.2
            storeSet a (relayAll t2 es1 (SetTable.grown es1.size)).1 (relayAll t2 es1 (SetTable.grown es1.size)).2.1
            pure (some true)
          else pure (some true)) R E s := by
  refine wpAny_bind (wpAny_storeSet_of ho hd ?_ (fits_of_scanBound at1.bound))
  have stored := store_at (es' := es1) (t' := t2) ho hd
  have same1 := Heap.SameBut.update s.heap a (Obj.putSet es1 t2)
  split
  · have pm := relayAll_perm t2 es1 (SetTable.grown es1.size)
    have ft := relayAll_fits t2 es1 (SetTable.grown es1.size)
    have rs := relayAll_ris t2 es1 (SetTable.grown es1.size)
    have ld := relayAll_led t2 es1 (SetTable.grown es1.size)
    generalize relayAll t2 es1 (SetTable.grown es1.size) = Z at pm ft rs ld ⊢
    obtain ⟨es2, t3, gave⟩ := Z
    dsimp only at pm ft rs ld ⊢
    have size2 : es2.size = es1.size := by rw [← Array.length_toList, pm.length_eq, Array.length_toList]
    have bound2 : es2.size < scanBound := by rw [size2]; exact at1.bound
    refine wpAny_bind (hg _ _ _ ?_)
    refine wpAny_bind (wpAny_storeSet_of stored rfl ?_ (fits_of_scanBound bound2))
    have stored2 := store_at (es' := es2) (t' := t3) stored rfl
    refine wpAny_pure (hR _ (same1.trans (Heap.SameBut.update _ a _)) ⟨_, es2, _, t3, stored2, rfl, ?_⟩)
    exact {
      exact' := at1.exact'
      good := fun e he => at1.good e (pm.mem_iff.mp he)
      nd := (pm.map txtOf).nodup_iff.mpr at1.nd
      mem := fun k => (at1.mem k).trans (pm.map txtOf).mem_iff.symm
      bound := bound2
      fits := ft
      size := size2
      rises := rs
      led := at1.led.imp id fun z => by rw [ld]; exact z }
  · refine wpAny_pure (hR _ same1 ⟨_, es1, _, t2, stored, rfl, ?_⟩)
    exact ⟨at1.exact', at1.good, at1.nd, at1.mem, at1.bound, at1.fits, rfl, at1.rises, at1.led⟩

theorem setT_add {k : Str} {tk : Tok} {Q : Bool → Shared → Prop} (R : SetT w s.heap a S n) (room : n + 1 < scanBound)
    (hQ : ∀ h', Heap.SameBut a s.heap h' → SetT w h' a (fun j => S j || decide (j = k)) (if S k = true then n else n + 1) → Q (!S k) { s with heap := h' }) :
    wpAny (model P w) A (setAddHashed a (.str k tk) ((strKind P w).hash k)) Q E s := by
  obtain ⟨o, es, ep, t, ho, hd, T⟩ := R
  have isk : (strKind P w).is k (.str k tk) = true := by show Value.isStrOf k (.str k tk) = true; simp [Value.isStrOf]
  have scan : (Value.str k tk).scannable = true := rfl
  have elems : ElemsOf (strKind P w) es.toList := goodT_elems T.good
  unfold setAddHashed setAddHashedIn
  refine wpAny_holding (wpAny_bind (wpAny_setState_of ho hd T.fits ?_))
  dsimp only
  rw [byScan_of scan T.bound elems]
  simp only [↓reduceIte]
  unfold setAddByScan
  refine wpAny_bind ?_
  refine wpAny_bind (wpAny_rule ?_)
  refine wpAny_bind (wpAny_setScan_of isk ho hd T.fits elems ?_)
  cases found : List.findIdx? (fun e => (strKind P w).is k e.2) es.toList with
  | some j =>
    dsimp only
    obtain ⟨hj, pj, _⟩ := List.findIdx?_eq_some_iff_getElem.mp found
    have inS : S k = true := (T.mem k).2 ((goodT_mem (P := P) (w := w) T.good k).2 ⟨es.toList[j], List.getElem_mem hj, pj⟩)
    refine wpAny_pure (wpAny_pure ?_)
    have q := hQ s.heap (Heap.SameBut.refl a s.heap) ⟨o, es, ep, t, ho, hd, {
      exact' := T.exact', good := T.good, nd := T.nd, bound := T.bound, fits := T.fits, rises := T.rises, led := T.led
      size := by rw [if_pos inS]; exact T.size
      mem := fun i => by
        rw [Bool.or_eq_true, decide_eq_true_eq, ← T.mem i]
        exact ⟨fun z => z.elim id (fun e => e ▸ inS), .inl⟩ }⟩
    rw [inS] at q
    exact q
  | none =>
    dsimp only
    have notIn : k ∉ es.toList.map txtOf := by
      intro z
      obtain ⟨e, he, q⟩ := (goodT_mem (P := P) (w := w) T.good k).1 z
      have c := List.findIdx?_eq_none_iff.mp found e he
      rw [q] at c
      cases c
    have outS : S k = false := by
      cases q : S k with
      | false => rfl
      | true => exact absurd ((T.mem k).1 q) notIn
    have gave : ∀ (b : Bool) {s₁ : Shared} {Q' : Unit → Shared → Prop}, Q' () s₁ →
        wpAny (model P w) A (match b with | true => rule "set.scan.the-table-gave-way" | false => pure ()) Q' E s₁ := by
      intro b s₁ Q' q
      cases b <;> first | exact wpAny_pure q | exact wpAny_rule q
    have pm := layNew_perm t es ((strKind P w).hash k) (.str k tk)
    have ft := layNew_fits t es ((strKind P w).hash k) (.str k tk)
    have rs := layNew_ris t es ((strKind P w).hash k) (.str k tk) T.rises
    have ld := layNew_led t es ((strKind P w).hash k) (.str k tk)
    generalize layNew t es ((strKind P w).hash k) (.str k tk) = Z at pm ft rs ld ⊢
    obtain ⟨es1, t1, wasDummy, gv⟩ := Z
    dsimp only at pm ft rs ld ⊢
    rw [Array.toList_push] at pm
    have pc : es1.toList.Perm (((strKind P w).hash k, Value.str k tk) :: es.toList) := pm.trans (List.perm_append_singleton _ _)
    have pk : (es1.toList.map txtOf).Perm (k :: es.toList.map txtOf) := pc.map txtOf
    have size1 : es1.size = n + 1 := by rw [← Array.length_toList, pc.length_eq, List.length_cons, Array.length_toList, T.size]
    have led1 : w.params.followText "set-order" = true ∨ t1.led = true := T.led.imp id fun z => by rw [ld]; exact z
    have mk : ∀ t2 : SetTable, t2.fits es1.size = true → Ris t2.place.toList → (w.params.followText "set-order" = true ∨ t2.led = true) →
        SetTAt w o es1 t2 (fun j => S j || decide (j = k)) es1.size := fun t2 f2 r2 l2 => {
      exact' := T.exact'
      good := fun e he => by
        rcases List.mem_cons.mp (pc.mem_iff.mp he) with z | z
        · rw [z]; exact ⟨k, tk, rfl, rfl⟩
        · exact T.good e z
      nd := pk.nodup_iff.mpr (List.nodup_cons.mpr ⟨notIn, T.nd⟩)
      mem := fun i => by
        rw [Bool.or_eq_true, decide_eq_true_eq, T.mem i, pk.mem_iff, List.mem_cons]
        exact Or.comm
      bound := by rw [size1]; exact room
      fits := f2
      size := rfl
      rises := r2
      led := l2 }
    have fin : ∀ h', Heap.SameBut a s.heap h' → SetT w h' a (fun j => S j || decide (j = k)) es1.size → Q true { s with heap := h' } := by
      intro h' sb r
      have q := hQ h' sb
      rw [outS] at q
      rw [size1] at r
      exact q r
    refine wpAny_bind (gave _ ?_)
    split
    · refine wpAny_bind ?_
      rw [hashByValue_scannable 8 scan]
      refine wpAny_pure ?_
      refine setT_tail ?_ ho hd (mk _ ?_ ?_ ?_) ?_
      · intro b s₁ Q' q
        cases b <;> first | exact wpAny_pure q | exact wpAny_rule q
      · first | (split <;> first | exact ft | exact SetTable.fits_plain_off ft) | exact ft
      · first | (split <;> exact rs) | exact rs
      · first | (split <;> exact led1) | exact led1
      · intro h' sb r
        dsimp only
        exact wpAny_pure (fin h' sb r)
    · refine wpAny_bind (wpAny_pure ?_)
      simp only [↓reduceIte]
      refine setT_tail ?_ ho hd (mk _ ft rs led1) ?_
      · intro b s₁ Q' q
        cases b <;> first | exact wpAny_pure q | exact wpAny_rule q
      · intro h' sb r
        dsimp only
        exact wpAny_pure (fin h' sb r)

/-! ### set(tuple of texts) -/
theorem setT_begin {h : Heap} {ys : List Str} {led : Bool} (el : led = !w.params.followText "set-order")
    (ho : h.get? a = some { cls := .type "set", dict := none, data := .set #[] 0 (.fresh 0 0 led) }) : SetT w h a (fun j => decide (j ∈ ys.take 0)) 0 := by
  refine ⟨_, #[], 0, _, ho, rfl, ?_⟩
  exact {
    exact' := ⟨rfl, rfl, rfl⟩
    good := fun e he => by simp at he
    nd := by simp
    mem := fun k => by simp
    bound := by decide
    fits := by rfl
    size := rfl
    rises := List.Pairwise.nil
    led := by
      show _ ∨ led = true
      rw [el]
      cases w.params.followText "set-order" with
      | false => exact .inr rfl
      | true => exact .inl rfl }

theorem setT_update {I : Addr} {fp wr : List Addr} {G : Array GenState → Array GenState → Prop} {Pv : Nat → Value → Prop} {St : Nat → Shared → Prop}
    {R : Result → Shared → Prop} (ys : List Str)
    (W : WalksS P w A.in1 I fp wr G ys.length Pv St) (T : Addr) (outside : T ∉ fp) (small : ys.length + 1 < scanBound)
    (vals : ∀ i v, Pv i v → ∃ k t, ys[i]? = some k ∧ v = .str k t) :
    ∀ (left i : Nat) (s : Shared), ys.length - i = left → i ≤ ys.length → St i s → (∃ c, c ≤ i ∧ SetT w s.heap T (fun j => decide (j ∈ ys.take i)) c) →
      (∀ s' c, Moved (T :: wr) G s s' → c ≤ ys.length → SetT w s'.heap T (fun j => decide (j ∈ ys)) c → R (.ok (.ret .none)) s') →
      codeAny (model P w) A (.builtin "set.update.loop" ⟨[.ref T, .ref I], []⟩) R s := by
  have outside' : T ∉ wr := fun h => outside (W.sub _ h)
  have more : ∀ b ∈ wr, b ∈ T :: wr := fun b hb => List.mem_cons_of_mem _ hb
  intro left
  induction left with
  | zero =>
    intro i s el hi st ⟨c, hc, hS⟩ fin
    have ei : i = ys.length := by omega
    subst ei
    refine codeAny_builtin F.entry_set_update_loop ?_
    rw [Around.under_plainId F.plain_set_update_loop _]
    show wpAny _ A.in1 (pyNext (.ref I) >>= _) _ _ s
    refine wpAny_bind (W.done s _ _ st fun s' hm => ?_)
    show wpAny _ A.in1 (ret Value.none) _ _ s'
    rw [List.take_length] at hS
    exact wpAny_pure (fin s' c (hm.mono more) hc (hS.at fun o e => hm.heap T o outside' e))
  | succ left ih =>
    intro i s el hi st ⟨c, hc, hS⟩ fin
    have lt : i < ys.length := by omega
    refine codeAny_builtin F.entry_set_update_loop ?_
    rw [Around.under_plainId F.plain_set_update_loop _]
    show wpAny _ A.in1 (pyNext (.ref I) >>= _) _ _ s
    refine wpAny_bind (W.item i s _ _ lt st fun v s' hP st' hm => ?_)
    obtain ⟨z, t, hz, rfl⟩ := vals i v hP
    have hS' : SetT w s'.heap T (fun j => decide (j ∈ ys.take i)) c := hS.at fun o e => hm.heap T o outside' e
    show wpAny _ A.in1 (holding [Value.str z t] (setAdd T (.str z t)) >>= _) _ _ s'
    refine wpAny_bind (wpAny_holding ?_)
    unfold setAdd
    refine wpAny_holding ?_
    refine wpAny_bind ((strKind P w).pyHash (k := z) (by show Value.isStrOf z (.str z t) = true; simp [Value.isStrOf]) ?_)
    refine setT_add (s := { s' with toks := s'.toks + 1 }) hS' (by omega) fun h' sb hS2 => ?_
    have next : SetT w h' T (fun j => decide (j ∈ ys.take (i + 1))) (if decide (z ∈ ys.take i) = true then c else c + 1) := hS2.congr fun j => by
      rw [List.take_add_one, hz]
      simp [List.mem_append]
    have few : (if decide (z ∈ ys.take i) = true then c else c + 1) ≤ i + 1 := by
      split <;> omega
    refine wpAny_pure ⟨plainId_quiet F.plain_set_update_loop _,
      ih (i + 1) _ (by omega) lt (W.frame _ s' _ _ st' (Nat.le_succ _) fun b hb o e => ?_) ⟨_, few, next⟩ fun s'' c2 hm'' hc'' hS'' => ?_⟩
    · rw [sb.2 b (fun h : b = T => outside (by rw [← h]; exact hb))]
      exact e
    refine fin s'' c2 (Moved.trans W.gtrans ((hm.mono more).then_heap (Nat.le_succ _) fun b o hb e => ?_) hm'') hc'' hS''
    rw [sb.2 b (fun h : b = T => hb (by rw [h]; exact List.mem_cons_self))]
    exact e

theorem call_setT {l : Addr} {items : Array Value} (ys : List Str) {Q : Value → Shared → Prop} (calm : A.handled = none) (hl : s.heap.IsTuple l items)
    (hit : StrsAre items.toList ys) (small : ys.length + 1 < scanBound)
    (h : ∀ (h' : Heap) (tk c : Nat), SetT w h' s.heap.objs.size (fun j => decide (j ∈ ys)) c → c ≤ ys.length →
      (∀ b o, s.heap.get? b = some o → h'.get? b = some o) → Q (.ref s.heap.objs.size) { s with heap := h', toks := tk }) :
    wpAny (model P w) A (call (.type "set") [.ref l]) Q E s := by
  have at_i : ∀ {us : List Value} {zs : List Str}, StrsAre us zs → ∀ (i : Nat) (v : Value), us[i]? = some v → ∃ k t, zs[i]? = some k ∧ v = .str k t := by
    intro us zs r
    induction r with
    | nil => intro i v e; simp at e
    | cons y t r ih =>
      intro i v e
      cases i with
      | zero => exact ⟨y, t, rfl, (Option.some.inj e).symm⟩
      | succ i => exact ih i v (by simpa using e)
  have len_i : ∀ {us : List Value} {zs : List Str}, StrsAre us zs → us.length = zs.length := by
    intro us zs r
    induction r with
    | nil => rfl
    | cons y t r ih => rw [List.length_cons, List.length_cons, ih]
  have sizeI : items.size = ys.length := by rw [← Array.length_toList]; exact len_i hit
  generalize eLed : (!w.params.followText "set-order") = led at *
  obtain ⟨c, tl, hmro⟩ := F.called_set.mro
  have hmade := F.called_set.made
  have hsub := F.called_set.sub
  refine wpAny_call (codeAny_of_tree ?_)
  show wpAny _ _ (callAny (.type "set") _) _ _ _
  refine wpAny_pure ⟨Code.quiet_builtin _ (by decide +kernel), codeAny_builtin F.entry_type_call ?_⟩
  rw [Around.under_plain (weight_type_call_type "set" [.ref l] []) rfl]
  have h1 := F.called_set.notType
  have h2 := F.called_set.canCreate
  have hct := F.typeCall_set_1 (.ref l)
  repeat (any_goals (first | assumption | wp_step))
  have fresh := code_set_led1 (P := P) (w := w) (A := A.in1) (s := s) (.ref l) (E := E)
    (Q₁ := fun obj s₁ => obj = .ref s.heap.objs.size ∧ s₁ = { s with heap := s.heap.push { cls := .type "set", dict := none, data := .set #[] 0 (.fresh 0 0 led) } })
    (by rw [eLed]; exact ⟨rfl, rfl⟩)
  refine codeAny_mono fresh fun r s₁ hr => ?_
  cases r with
  | error e => exact hr
  | ok fl =>
  cases fl with
  | ret obj =>
    obtain ⟨rfl, rfl⟩ := hr
    have atS : (s.heap.push { cls := .type "set", dict := none, data := .set #[] 0 (.fresh 0 0 led) }).get? s.heap.objs.size
        = some { cls := .type "set", dict := none, data := .set #[] 0 (.fresh 0 0 led) } := Heap.get?_push_size _ rfl
    have isSet : Shared.TypeIs { s with heap := s.heap.push { cls := .type "set", dict := none, data := .set #[] 0 (.fresh 0 0 led) } } (.ref s.heap.objs.size) "set" := ⟨_, atS, rfl⟩
    have hli := F.called_set.init.lookup
    have hbi := F.called_set.init.bind (.ref s.heap.objs.size)
    repeat (any_goals (first | assumption | wp_step))
    refine codeAny_mono (codeAny_call_builtin (R := wants (fun r s₂ => r = .none ∧ ∃ h' tk c, s₂ = { s with heap := h', toks := tk } ∧
        SetT w h' s.heap.objs.size (fun j => decide (j ∈ ys)) c ∧ c ≤ ys.length ∧ (∀ b o, s.heap.get? b = some o → h'.get? b = some o)) E)
        F.called_set.init.plain F.entry_set_init (check_set_init_1 isSet ?_)) fun r₂ s₂ hr₂ => ?_
    · obtain ⟨ol, hol, hcl, nl, hdl⟩ := hl
      obtain ⟨ocls, odict, odata, oslots⟩ := ol
      simp only at hcl hdl
      subst hcl
      subst hdl
      have lS : l < s.heap.objs.size := Heap.lt_size hol
      have tupl : (s.heap.push { cls := .type "set", dict := none, data := .set #[] 0 (.fresh 0 0 led) }).IsTuple l items := ⟨_, Heap.get?_push_of_some _ hol, rfl, nl, rfl⟩
      have hol' := Heap.get?_push_of_some { cls := .type "set", dict := none, data := .set #[] 0 (.fresh 0 0 led) } hol
      have hsls := F.sub_tuple_set
      have hslf := F.sub_tuple_frozenset
      have notDict : (Value.type "tuple" == Value.type "dict") = false := by decide
      unfold Builtin.«set.__init__» noKeywords Builtin.Frozenset.updateFrom
      generalize hPI : pyIter = PI
      wp_walk
      subst hPI
      refine wpAny_pyIter_tuple tupl ?_
      refine wpAny_bind (wpAny_runValue ?_)
      have calm3 : A.in1.in1.in1.handled = none := by simp [calm]
      have pushSize : (s.heap.push { cls := .type "set", dict := none, data := .set #[] 0 (.fresh 0 0 led) }).objs.size = s.heap.objs.size + 1 := Heap.size_push ..
      have itNe : l ≠ (s.heap.push { cls := .type "set", dict := none, data := .set #[] 0 (.fresh 0 0 led) }).objs.size := by
        rw [pushSize]; exact Nat.ne_of_lt (Nat.lt_succ_of_lt lS)
      have out : s.heap.objs.size ∉ [(s.heap.push { cls := .type "set", dict := none, data := .set #[] 0 (.fresh 0 0 led) }).objs.size, l] := by
        rw [pushSize]
        simp only [List.mem_cons, List.mem_singleton, List.not_mem_nil, or_false, not_or]
        exact ⟨Nat.ne_of_lt (Nat.lt_succ_self _), Nat.ne_of_gt lS⟩
      have W0 := (Walks.tuple (prog := P) (w := w) calm3 (s.heap.push { cls := .type "set", dict := none, data := .set #[] 0 (.fresh 0 0 led) }).objs.size l itNe items).toS
      rw [sizeI] at W0
      refine setT_update ys W0 s.heap.objs.size out small (fun i v hv => at_i hit i v (by rw [Array.getElem?_toList]; exact hv)) (ys.length - 0) 0 _ (by omega) (Nat.zero_le _)
        ⟨⟨_, Heap.get?_push_size _ rfl, rfl, rfl⟩, tupl.push _⟩ ?begin ?fin
      case begin =>
        exact ⟨0, Nat.le_refl 0, setT_begin eLed.symm (Heap.get?_push_of_some _ atS)⟩
      case fin =>
        intro s' c' hm hc' hS'
        obtain ⟨h', g2, d', tk', os'⟩ := s'
        have eg : g2 = s.gens := hm.gens
        have ed : d' = s.drawn := hm.drawn
        have eo : os' = s.os := hm.os
        subst eg
        subst ed
        subst eo
        show wpAny _ _ _ _ _ _
        refine wpAny_pure ?_
        show wpAny _ _ (ret Value.none) _ _ _
        refine wpAny_pure ⟨rfl, h', tk', c', rfl, hS', hc', fun b o e => ?_⟩
        have lb : b < s.heap.objs.size := Heap.lt_size e
        refine hm.heap b o ?_ (Heap.get?_push_of_some _ (Heap.get?_push_of_some _ e))
        rw [pushSize]
        simp only [List.mem_cons, List.mem_singleton, List.not_mem_nil, or_false, not_or]
        exact ⟨Nat.ne_of_lt lb, Nat.ne_of_lt (Nat.lt_succ_of_lt lb)⟩
    · cases r₂ with
      | error e => exact hr₂
      | ok fl₂ =>
        cases fl₂ with
        | ret r =>
          obtain ⟨rfl, h', tk, c', rfl, hS', hc', hk'⟩ := hr₂
          repeat (any_goals (first | assumption | wp_step))
          exact h _ _ _ hS' hc' hk'
        | _ => exact hr₂.elim
  | _ => exact hr.elim
end
end Wk
set_option Elab.async false
set_option linter.all false
set_option maxRecDepth 100000
set_option maxHeartbeats 4000000
/-! WkSet2: sorted(set of texts), and both as rules of the layer. -/
namespace Wk
open PySem PySem.Spec PyProof.Rows L2

theorem strsOf : ∀ (l : List Value), (∀ v ∈ l, ∃ k tk, v = Value.str k tk) → ∃ ys, StrsAre l ys
  | [], _ => ⟨[], .nil⟩
  | v :: l, h => by
    obtain ⟨k, tk, e⟩ := h v List.mem_cons_self
    obtain ⟨ys, r⟩ := strsOf l fun u hu => h u (List.mem_cons_of_mem _ hu)
    rw [e]
    exact ⟨k :: ys, .cons k tk r⟩
theorem strsOf_map : ∀ {l : List (Int × Value)} {w : World} {ys : List Str}, (∀ e ∈ l, GoodT w e) → StrsAre (l.map (·.2)) ys → ys = l.map txtOf
  | [], _, _, _, r => by
    cases r
    rfl
  | e :: l, w, ys, g, r => by
    obtain ⟨x, tk, h1, _⟩ := g e List.mem_cons_self
    rw [List.map_cons, h1] at r
    cases r with
    | cons y t r' =>
      have ih := strsOf_map (fun e' he => g e' (List.mem_cons_of_mem _ he)) r'
      rw [List.map_cons, ← ih]
      unfold txtOf
      rw [h1]
theorem strs_vals : ∀ {us : List Value} {ys : List Str}, StrsAre us ys → Vals (ys.map V.str) us
  | _, _, .nil => .nil
  | _, _, .cons y t r => .cons ⟨t, rfl⟩ (strs_vals r)
theorem vals_strsAre : ∀ {us : List Value} {ys : List Str}, Vals (ys.map V.str) us → StrsAre us ys
  | us, [], r => by
    cases r
    exact .nil
  | us, y :: ys, r => by
    cases r with
    | cons r1 r2 =>
      obtain ⟨t, rfl⟩ := r1
      exact .cons y t (vals_strsAre r2)
theorem strs_len : ∀ {us : List Value} {ys : List Str}, StrsAre us ys → us.length = ys.length
  | _, _, .nil => rfl
  | _, _, .cons y t r => by rw [List.length_cons, List.length_cons, strs_len r]
theorem strs_perm_txt {us vs : List Value} {ys zs : List Str} (ru : StrsAre us ys) (rv : StrsAre vs zs) (p : us.Perm vs) : ys.Perm zs := by
  let f : Value → Str := fun v => match v with | .str x _ => x | _ => Str.empty
  have e : ∀ {us : List Value} {ys : List Str}, StrsAre us ys → us.map f = ys := by
    intro us ys r
    induction r with
    | nil => rfl
    | cons y t r ih => rw [List.map_cons, ih]
  rw [← e ru, ← e rv]
  exact p.map f

section
variable {P : Program} {w : World} {A : Around} {E : Value → Shared → Prop} {s : Shared} {a : Addr} {S : Str → Bool} {n : Nat}
theorem sorted_setT {Q : Value → Shared → Prop} (R : SetT w s.heap a S n) (calm : A.handled = none) (few : n ≤ 1000)
    (hQ : ∀ s' p (out : Array Value) (c : Nat) (ys : List Str), (∀ b o, s.heap.get? b = some o → s'.heap.get? b = some o) → s'.gens = s.gens → s'.os = s.os →
      s.heap.objs.size ≤ p → s'.heap.get? p = some (seqObj "list" out c) → StrsAre out.toList ys → ys.Nodup → sortedS ys = true →
      (∀ k, k ∈ ys ↔ S k = true) → ys.length = n → Q (.ref p) s') :
    wpAny (model P w) A (call (.builtin "sorted") [.ref a]) Q E s := by
  obtain ⟨o, es, ep, t, ho, hd, T⟩ := R
  refine Calls.call_function_entry kind_sorted plain_sorted entry_sorted (args_sorted1 _) ?_
  unfold Builtin.«sorted»
  refine wpAny_bind (m := checkCount "sorted" 1 1 _) (wpAny_pure ?_)
  refine wpAny_bind (collect_set (A := A.in1) calm ⟨o, ho, T.exact'.1, hd⟩ T.fits T.bound T.rises T.led fun s1 vs k1 hz g1 o1 pm => ?_)
  obtain ⟨zs, rz⟩ := strsOf (es.toList.map (·.2)) (fun v hv => by
    obtain ⟨e, he, q⟩ := List.mem_map.mp hv
    obtain ⟨k, tk, h1, _⟩ := T.good e he
    exact ⟨k, tk, by rw [← q]; exact h1⟩)
  have ez := strsOf_map T.good rz
  obtain ⟨ys, ry⟩ := strsOf vs (fun v hv => by
    obtain ⟨e, he, q⟩ := List.mem_map.mp (pm.mem_iff.mp hv)
    obtain ⟨k, tk, h1, _⟩ := T.good e he
    exact ⟨k, tk, by rw [← q]; exact h1⟩)
  have py : ys.Perm (es.toList.map txtOf) := by
    rw [← ez]
    exact strs_perm_txt ry rz pm
  have lenV : vs.length = n := by rw [pm.length_eq, List.length_map, Array.length_toList]; exact T.size
  refine wpAny_bind (wpAny_newList ?_ (by rw [lenV, sizeLine_eq]; omega))
  have atL : (s1.heap.push (seqObj "list" vs.toArray 0)).get? s1.heap.objs.size = some (seqObj "list" vs.toArray 0) := Heap.get?_push_size _ rfl
  have small : vs.length ≤ sizeLine := by rw [lenV, sizeLine_eq]; omega
  refine wpAny_bind (wpAny_holding (wpAny_call_entry slot_list_sort ⟨_, atL, rfl⟩ entry_list_sort
    (list_sort_treeKAny strKind_oneLt atL ry.keysOf (fun v₁ v₂ rest e => keyKind_strs (by rw [← e]; exact ry)) small fun st' hp hs => ⟨_, rfl, ?_⟩) (args_list_sort _)))
  obtain ⟨ss, r1, r2, r3⟩ := sorted_out_str ry hp hs
  obtain ⟨c, hc⟩ := sortedHeap_at (vs := vs) (out := (arrOf st').map (·.2)) atL
  have pn : ss.Perm (es.toList.map txtOf) := r2.trans py
  refine wpAny_pure ⟨_, rfl, hQ _ s1.heap.objs.size _ c ss (fun b u e => ?_) g1 o1 hz hc r1 (pn.nodup_iff.mpr T.nd) r3 (fun k => ?_) ?_⟩
  · have q := k1 b u e
    have lt := Heap.lt_size q
    show (sortedHeap (s1.heap.push (seqObj "list" vs.toArray 0)) s1.heap.objs.size vs _).get? b = some u
    rw [sortedHeap_old (Nat.ne_of_lt lt) (by rw [size_push']; exact Nat.lt_succ_of_lt lt)]
    exact Heap.get?_push_of_some _ q
  · rw [pn.mem_iff, ← T.mem k]
  · rw [pn.length_eq, List.length_map, Array.length_toList]
    exact T.size
end

/-! ### as rules -/
def SetTO (w : World) (a : Addr) (S : Str → Bool) (n : Nat) : HO := .ext fun h => SetT w h a S n
section
variable {X : Cx}
theorem setTO_new {w : World} {P : Program} {H : Hp} {h : Heap} {a : Addr} {S : Str → Bool} {n : Nat} (R : SetT w h a S n) : ObjOk P w H h a (SetTO w a S n) := by
  have R0 := R
  obtain ⟨o, es, ep, t, ho, r⟩ := R0
  exact ⟨R, ⟨o, ho⟩, fun h1 h2 p k => SetT.at p k⟩
/-- set(t), t a tuple of texts -/
def rSetT (K : PySem.W.Frag) (w : World) : List V → Hp → VK → Prop := fun xs H Q => ∃ (l : Addr) (ys : List Str), xs = [.ref l] ∧ SqT K H l (ys.map V.str) ∧ ys.length ≤ 1000 ∧
  ∀ p n, H p = none → n ≤ ys.length → Q (.ref p) (upd H p (SetTO w p (fun j => decide (j ∈ ys)) n))
theorem call_setTup (hc : X.calm = true) : CallR X (.type "set") (rSetT X.K X.w) := by
  intro pins s σ H xs us Q I r h
  obtain ⟨l, ys, rfl, hs, few, q⟩ := h
  obtain ⟨u, rfl, ru⟩ := vals1 r
  cases ru
  obtain ⟨its, rv, tup, _⟩ := I.tuple hs
  refine call_setT ys (I.ok.hd hc) tup (by simpa using vals_strsAre rv) (Nat.lt_of_le_of_lt (Nat.succ_le_succ few) (by decide)) fun h' tk c R le kp => ?_
  exact ⟨.ref s.heap.objs.size, _, I.laid (t' := tk) kp (Nat.le_refl _) (setTO_new R), rfl, q _ c (I.hok.fresh (Nat.le_refl _)) le⟩
/-- sorted(S), S a set of texts -/
def rSortSetT (w : World) : List V → Hp → VK → Prop := fun xs H Q => ∃ (a : Addr) (S : Str → Bool) (n : Nat), xs = [.ref a] ∧ H a = some (SetTO w a S n) ∧ n ≤ 1000 ∧
  ∀ (ys : List Str) (p : Addr), ys.Nodup → sortedS ys = true → (∀ k, k ∈ ys ↔ S k = true) → ys.length = n → H p = none → Q (.ref p) (upd H p (.lst (ys.map V.str)))
theorem call_sortedSetT (hc : X.calm = true) : CallR X (.builtin "sorted") (rSortSetT X.w) := by
  intro pins s σ H xs us Q I r h
  obtain ⟨a, S, n, rfl, ha, few, q⟩ := h
  have R : SetT X.w s.heap a S n := (I.hok a _ ha).1
  obtain ⟨u, rfl, ru⟩ := vals1 r
  cases ru
  refine sorted_setT R (I.ok.hd hc) few fun s' p out c ys k g o hp hg rs nd srt mem len => ?_
  have lenOk : (ys.map V.str).length ≤ sizeLine := by rw [List.length_map, len, sizeLine_eq]; omega
  have fresh : H p = none := I.hok.fresh hp
  have rv : Vals (ys.map V.str) out.toList := strs_vals rs
  obtain ⟨hp', gs', dr', tk', os'⟩ := s'
  have eo : os' = s.os := o
  subst eo
  have J : Inv X pins σ (upd H p (.lst (ys.map V.str))) { s with heap := hp', gens := gs', drawn := dr', toks := tk' } :=
    I.call (ch := []) (Un.laid k hp fresh) (I.hok.laid k hp ⟨lenOk, out.toList, c, rv, by simpa using hg⟩) (by rw [show gs' = s.gens from g]; exact I.bare) (fun _ z => nomatch z)
  exact ⟨.ref p, _, J, rfl, q ys p nd srt mem len fresh⟩
end
end Wk
set_option Elab.async false
set_option linter.all false
set_option maxRecDepth 100000
/-! WkK: rules with the written part by its own name (a comprehension's block has another context of the same written part). -/
namespace Wk
open PySem PySem.Spec PyProof.Rows L2
section
variable {X : Cx} {K : PySem.W.Frag} {k : Nat}
def rLenSeq (K : PySem.W.Frag) : List V → Hp → VK → Prop := fun xs H Q => ∃ p ys, xs = [.ref p] ∧ (SqL K H p ys ∨ SqT K H p ys) ∧ Q (.int ys.length) H
def rLenStr : List V → Hp → VK → Prop := fun xs H Q => ∃ z : Str, xs = [.str z] ∧ z.length ≤ sizeLine ∧ Q (.int z.length) H
def rListOf (K : PySem.W.Frag) : List V → Hp → VK → Prop := fun xs H Q => ∃ p ys, xs = [.ref p] ∧ (SqL K H p ys ∨ SqT K H p ys) ∧ ∀ l, H l = none → Q (.ref l) (upd H l (.lst ys))
theorem call_len_seqK (e : X.K = K) : CallR X (.builtin "len") (rLenSeq K) := by subst e; exact call_len_seq
theorem call_len_strK (e : X.K = K) : CallR X (.builtin "len") rLenStr := by subst e; exact call_len_str
theorem call_list_ofK (e : X.K = K) : CallR X (.type "list") (rListOf K) := by subst e; exact call_list_of
theorem ix_listK (e : X.K = K) : IxR X (rIxL K) := by subst e; exact ix_list
theorem ix_tupK (e : X.K = K) : IxR X (rIxT K) := by subst e; exact ix_tup
theorem sl_listK (e : X.K = K) : SlR X (rSlL K) := by subst e; exact sl_list
theorem sl_tupAK (e : X.K = K) : SlR X (rSlA K) := by subst e; exact sl_tupA
theorem op_in_seqK (e : X.K = K) : OpR X (compareOp .In) (rIn K false) := by subst e; exact op_in_seq
theorem op_notIn_seqK (e : X.K = K) : OpR X (compareOp .NotIn) (rIn K true) := by subst e; exact op_notIn_seq
theorem op_eqDK (e : X.K = K) (hr : RoomG k X.A) : OpR X (compareOp .Eq) (rEqD K) := by subst e; exact op_eqD hr.u64
theorem op_neDK (e : X.K = K) (hr : RoomG k X.A) : OpR X (compareOp .NotEq) (rNeD K) := by subst e; exact op_neD hr.u64
theorem op_eqEK (e : X.K = K) (hr : RoomG k X.A) : OpR X (compareOp .Eq) (rEqE K false) := by subst e; exact op_eqE hr
theorem op_neEK (e : X.K = K) (hr : RoomG k X.A) : OpR X (compareOp .NotEq) (rEqE K true) := by subst e; exact op_neE hr
theorem cr_allK (e : X.K = K) (hc : X.calm = true) : CallR X (.builtin "all") (rAll K) := by subst e; exact cr_all hc
theorem cr_anyK (e : X.K = K) (hc : X.calm = true) : CallR X (.builtin "any") (rAny K) := by subst e; exact cr_any hc
theorem call_isaK (e : X.K = K) : CallR X (.builtin "isinstance") (rIsa K) := by subst e; exact call_isa
theorem cr_sortedSK (e : X.K = K) : CallR X (.builtin "sorted") (rSortedS K) := by subst e; exact cr_sortedS
theorem call_reprK (e : X.K = K) (hr : RoomG k X.A) : CallR X (.builtin "repr") (rRepr K) := by subst e; exact call_reprD hr
theorem op_catTK (e : X.K = K) : OpR X (binaryOp .Add) (rCatT K) := by subst e; exact op_catT
section
variable {o ee : Expr} {es : List Expr} {to : TE} {t : TA} {name : Str} {apos cpos : Pos} {T id : String} {r : V → List V → Hp → VK → Prop} {te : TE}
theorem pe_bmK (eK : X.K = K) (pa : PlainAttrs T) (slot : Slot T name id) (hty : typeOf (.builtin id) = pure (.type "method_descriptor")) (hm : MtR X id r) (ho : PE X o to) (ha : PA X (ee :: es) t)
    (hbase : attributeBase o name X.env (eval o X.env) = eval o X.env := by rfl)
    (hfew : ((backTo cpos (starEach (ee :: es) X.env)).all (fun x => !x.1) && (backToKw cpos (keywordEach [] X.env)).all (fun x => x.1.isSome)
      && decide ((ee :: es).length + ([] : List Keyword).length + (if ([] : List Keyword).isEmpty then 0 else 1) < 30)) = true := by rfl)
    (hline : (apos.endLine == cpos.line) = true := by rfl) (hs : starEach (ee :: es) X.env = (false, eval ee X.env) :: starEach es X.env := by rfl)
    (hplain : (backTo cpos (starEach es X.env)).any (·.1) = false := by rfl) :
    PE X (.Call (.Attribute o name apos) (ee :: es) [] cpos) (tBM K T r to t) := by
  subst eK
  exact pe_bm pa slot hty hm ho ha hbase hfew hline hs hplain
def rJoin (K : PySem.W.Frag) : V → List V → Hp → VK → Prop := fun x xs H Q => ∃ a p, ∃ ys : List Str, x = .str a ∧ xs = [.ref p] ∧ (SqL K H p (ys.map V.str) ∨ SqT K H p (ys.map V.str)) ∧
  (ys.map (·.length)).sum + ys.length * a.length ≤ 16777216 ∧ Q (.str (Txt.join a ys)) H
theorem pe_joinK {apos pos : Pos} (eK : X.K = K) (ho : PE X o to) (he : PE X ee te) (hs : starEach [ee] X.env = [(false, eval ee X.env)] := by rfl)
    (hbase : attributeBase o "join" X.env (eval o X.env) = eval o X.env := by rfl) (hline : (apos.endLine == pos.line) = true := by rfl) :
    PE X (.Call (.Attribute o "join" apos) [ee] [] pos) (tM1 (rJoin K) to te) := by
  subst eK
  exact pe_join ho he hs hbase hline
end
end
end Wk
set_option linter.all false
set_option maxRecDepth 100000
set_option maxHeartbeats 4000000
open PySem PySem.W PySem.HandSPX
namespace Wk
section
variable {M : Model} {prog : Program} {w : World} {A : Around} {E : Value → Shared → Prop} {R : Result → Shared → Prop} {h : Heap} {g : Array GenState} {d : Drawn} {t : Nat} {os : OsState} {nm q : Str} {C N : Addr} {bs bm bmB : List Value} {hdct : Bool} {sn : List Str} {sub : List Value} {ab : Bool} {col : Option Bool} {dd : Option Addr} {k0 k1 k2 k3 k5 : Option Value} {B newId initId : String}

theorem ck_new (F : ExcBaseFacts B newId initId bmB) (hB : bm.contains (.type B) = true) {rest : List Value} {Q : Unit → Shared → Prop}
    (hC : h.get? C = some (excClassObj nm q C N bs bm hdct sn sub ab col dd k0 k1 k2 k3 k5 newId)) (hq : Q () ⟨h, g, d, t, os⟩) :
    wpAny M A (checkBuiltinCall newId ⟨.ref C :: rest, []⟩) Q E ⟨h, g, d, t, os⟩ := by
  have hsub : (Value.ref C :: bm).contains (.type B) = true := by
    rw [List.contains_cons, hB, Bool.or_true]
  unfold checkBuiltinCall
  simp only [F.newKind, F.newSplit, F.newRow]
  refine wpAny_ite_true (by decide) ?_
  refine wpAny_bind ?_
  show wpAny _ _ (loadHead C >>= _) _ _ _
  refine wpAny_bind (wpAny_loadPart_at hC ?_)
  refine wpAny_pure ?_
  refine wpAny_ite_false (by rfl) ?_
  refine wpAny_bind (wpAny_isSubtype_exc hC ?_)
  rw [hsub]
  refine wpAny_ite_false (by decide) ?_
  refine wpAny_bind (wpAny_staticBase_exc hC ?_)
  refine wpAny_bind (wpAny_madeBy_exc hC ?_)
  refine wpAny_ite_false (by simp only [bne_self_eq_false]; decide) ?_
  have z : (B == "*") = false := by
    have := F.noStar
    simpa using this
  unfold Bind.checkArgs
  have y : decide ((B != "*") = true) = true := by rw [F.noStar]; rfl
  refine wpAny_bind ?_
  unfold Bind.printed
  refine wpAny_ite_true y (wpAny_pure ?_)
  refine wpAny_bind ?_
  refine wpAny_ite_true y (wpAny_pure ?_)
  exact wpAny_pure hq

theorem mk_new (F : ExcBaseFacts B newId initId bmB) (hB : bm.contains (.type B) = true) (hA : bm.contains (.type "AttributeError") = false) (hN : bm.contains (.type "NameError") = false) {rest : List Value}
    (hC : h.get? C = some (excClassObj nm q C N bs bm hdct sn sub ab col dd k0 k1 k2 k3 k5 newId))
    (hq : R (.ok (.ret (.ref (h.objs.size + 1)))) { heap := (h.push { cls := .type "tuple", data := .seq rest.toArray }).push { cls := .ref C, data := .fields #[.ref h.objs.size, .none, .none, .none, .bool false, .none] }, gens := g, drawn := d, toks := t, os := os })
    (hl : rest.length ≤ sizeLine) :
    codeAny (model prog w) A (.builtin newId ⟨.ref C :: rest, []⟩) R ⟨h, g, d, t, os⟩ := by
  have hsub : ∀ x, (Value.ref C :: bm).contains (.type x) = bm.contains (.type x) := by
    intro x
    rw [List.contains_cons]
    rfl
  refine codeAny_builtinAt F.entry ?_
  unfold Builtin.«BaseException.__new__»
  refine wpAt_bind ?_
  refine wpAt_bind ?_
  refine wpAt_stack fun p below => ?_
  refine wpAt_of_wpAny ?_
  refine wpAny_ite_true (by simp only [F.ends]; rfl) ?_
  refine wpAny_pure ?_
  refine wpAt_of_wpAny ?_
  simp only [F.owner]
  show wpAny _ _ (isType (.ref C) >>= _) _ _ _
  refine wpAny_bind ?_
  show wpAny _ _ (loadHead C >>= _) _ _ _
  refine wpAny_bind (wpAny_loadPart_at hC ?_)
  refine wpAny_pure ?_
  refine wpAny_ite_false (by rfl) ?_
  refine wpAny_bind (wpAny_isSubtype_exc hC ?_)
  rw [hsub, hB]
  refine wpAny_ite_false (by decide) ?_
  refine wpAny_bind (wpAny_madeHere_exc F.canon hC ?_)
  refine wpAny_bind ?_
  show wpAny _ _ (isSubtype (.ref C) (.type "AttributeError") >>= _) _ _ _
  refine wpAny_bind (wpAny_isSubtype_exc hC ?_)
  rw [hsub, hA]
  refine wpAny_ite_false (by decide) ?_
  refine wpAny_bind (wpAny_isSubtype_exc hC ?_)
  rw [hsub, hN]
  refine wpAny_ite_false (by decide) ?_
  refine wpAny_pure ?_
  refine wpAny_bind (wpAny_newTuple ?_ hl)
  refine wpAny_bind ?_
  show wpAny _ _ (newObj (.ref C) (.fields #[.ref h.objs.size, .none, .none, .none, .bool false, .none])) _ _ _
  unfold newObj
  refine wpAny_ite_false (decide_eq_false fun z => ?_) ?_
  · have z' : 6 > sizeLine + 2 := z
    rw [sizeLine_eq] at z'
    exact absurd z' (by decide)
  show wpAny _ _ (alloc _ >>= _) _ _ _
  refine wpAny_bind (wpAny_alloc' ?_)
  show wpAny _ _ (classHasDel C >>= _) _ _ _
  refine wpAny_bind ?_
  show wpAny _ _ (load C >>= _) _ _ _
  refine wpAny_bind (wpAny_load' (Heap.get?_push_of_some _ (Heap.get?_push_of_some _ hC)) ?_)
  refine wpAny_pure ?_
  refine wpAny_ite_false (by rfl) ?_
  refine wpAny_pure ?_
  refine wpAny_pure ?_
  have z : (h.push { cls := .type "tuple", data := .seq rest.toArray }).objs.size = h.objs.size + 1 := Heap.size_push ..
  rw [z]
  exact hq
theorem ty_call (F : ExcBaseFacts B newId initId bmB) (hB : bm.contains (.type B) = true) (hA : bm.contains (.type "AttributeError") = false) (hN : bm.contains (.type "NameError") = false) {rest : List Value} {fI : Addr} {Q : PySem.Fin → Shared → Prop}
    (hC : h.get? C = some (excClassObj nm q C N bs bm hdct sn sub ab col dd k0 k1 k2 k3 k5 newId))
    (hi : W.Looks (model prog w) h (typeLookup (.ref C) "__init__") (some (.ref fI))) (hb : ∀ self, W.Looks (model prog w) h (bindSpecial (.ref fI) self) (.ref fI, [self])) (hl : rest.length ≤ sizeLine)
    (hq : codeAny (model prog w) A (.call (.ref fI) ⟨.ref (h.objs.size + 1) :: rest, []⟩) (fun r s' => match r with
        | .ok (.ret v) => v = .none ∧ Q (.done (.ret (.ref (h.objs.size + 1)))) s'
        | .ok _ => False
        | .error e => E e s') { heap := (h.push (W.kdv_tup rest)).push (excO C h.objs.size), gens := g, drawn := d, toks := t, os := os }) :
    wpAny (model prog w) A (Builtin.«type.__call__» ⟨.ref C :: rest, []⟩) Q E ⟨h, g, d, t, os⟩ := by
  unfold Builtin.«type.__call__»
  refine wpAny_ite_false (by rfl) ?_
  refine wpAny_bind ?_
  show wpAny _ _ (classData C >>= _) _ _ _
  refine wpAny_bind ?_
  show wpAny _ _ (load C >>= _) _ _ _
  refine wpAny_bind (wpAny_load' hC ?_)
  refine wpAny_pure ?_
  refine wpAny_pure ?_
  refine wpAny_ite_false (by rfl) ?_
  refine wpAny_bind (wpAny_madeBy_exc hC ?_)
  refine wpAny_bind (wpAny_pure ?_)
  refine wpAny_bind ?_
  show wpAny _ _ (call (.builtin newId) (.ref C :: rest)) _ _ _
  refine wpAny_call (codeAny_call_builtin_code (Code.quiet_builtin _ F.quiet) (ck_new F hB hC (mk_new F hB hA hN hC ?_ hl)))
  show wpAny _ _ _ _ _ _
  generalize hh : (h.push { cls := .type "tuple", data := .seq rest.toArray }).push { cls := .ref C, data := .fields #[.ref h.objs.size, .none, .none, .none, .bool false, .none] } = h2
  have k : ∀ b o, h.get? b = some o → h2.get? b = some o := fun b o e => by rw [← hh]; exact Heap.get?_push_of_some _ (Heap.get?_push_of_some _ e)
  have hx : h2.get? (h.objs.size + 1) = some (excO C h.objs.size) := by rw [← hh]; heap_get
  refine wpAny_bind ?_
  show wpAny _ _ (typeOf (.ref (h.objs.size + 1)) >>= _) _ _ _
  refine wpAny_bind ?_
  show wpAny _ _ (loadHead (h.objs.size + 1) >>= _) _ _ _
  refine wpAny_bind (wpAny_loadPart_at hx ?_)
  refine wpAny_pure ?_
  refine wpAny_isSubtype_exc (k _ _ hC) ?_
  rw [show (Value.ref C :: bm).contains (.ref C) = true by rw [List.contains_cons]; simp]
  refine wpAny_ite_false (by decide) ?_
  refine wpAny_bind ?_
  refine wpAny_holding ?_
  show wpAny _ _ (specialOf (.ref (h.objs.size + 1)) "__init__" >>= _) _ _ _
  refine wpAny_bind ?_
  show wpAny _ _ (typeOf (.ref (h.objs.size + 1)) >>= _) _ _ _
  refine wpAny_bind ?_
  show wpAny _ _ (loadHead (h.objs.size + 1) >>= _) _ _ _
  refine wpAny_bind (wpAny_loadPart_at hx ?_)
  refine wpAny_pure ?_
  refine (hi.keeps k).at ?_
  refine wpAny_holding ?_
  refine wpAny_bind (((hb _).keeps k).at ?_)
  subst hh
  refine wpAny_bind (wpAny_call (codeAny_mono hq fun r s' hr => ?_))
  match r, hr with
  | .ok (.ret v), hr =>
    obtain ⟨e, hr⟩ := hr
    subst e
    exact wpAny_pure (wpAny_ite_false (by decide) (wpAny_pure hr))
  | .ok .next, hr => exact hr.elim
  | .ok .brk, hr => exact hr.elim
  | .ok .cont, hr => exact hr.elim
  | .error e, hr => exact hr

theorem call_own2 (F : ExcBaseFacts B newId initId bmB) (hB : bm.contains (.type B) = true) (hA : bm.contains (.type "AttributeError") = false) (hN : bm.contains (.type "NameError") = false) {rest : List Value} {fI : Addr}
    (hC : h.get? C = some (excClassObj nm q C N bs bm hdct sn sub ab col dd k0 k1 k2 k3 k5 newId))
    (hi : W.Looks (model prog w) h (typeLookup (.ref C) "__init__") (some (.ref fI))) (hb : ∀ self, W.Looks (model prog w) h (bindSpecial (.ref fI) self) (.ref fI, [self])) (hl : rest.length ≤ sizeLine)
    (hq : codeAny (model prog w) (A.under (.builtin "type.__call__" ⟨.ref C :: rest, []⟩)) (.call (.ref fI) ⟨.ref (h.objs.size + 1) :: rest, []⟩) (W.InitBack (h.objs.size + 1) R)
      { heap := (h.push (W.kdv_tup rest)).push (excO C h.objs.size), gens := g, drawn := d, toks := t, os := os }) :
    codeAny (model prog w) A (.call (.ref C) ⟨rest, []⟩) R ⟨h, g, d, t, os⟩ := by
  refine codeAny_of_tree ?_
  show wpAny (model prog w) (A.under (.call (.ref C) ⟨rest, []⟩)) (callAny (.ref C) ⟨rest, []⟩) _ _ _
  unfold callAny
  refine wpAny_bind (wpAny_load' hC ?_)
  show wpAny _ _ (callAny.viaDunder (.ref C) ⟨rest, []⟩) _ _ _
  unfold callAny.viaDunder
  refine wpAny_bind (wpAny_specialOf (T := "type") ⟨_, hC, rfl⟩ tc_lookup ?_)
  refine wpAny_bind ?_
  rw [tc_bind]
  refine wpAny_pure ?_
  refine wpAny_bind (wpAny_pure ?_)
  refine wpAny_ite_true (by decide) ?_
  refine wpAny_pure ⟨rfl, ?_⟩
  refine codeAny_call_builtin_at (Code.quiet_builtin _ (by decide +kernel)) entry_typeCall (wpAny_check_type_call_sub hC ?_)
  refine ty_call F hB hA hN hC hi hb hl (codeAny_mono hq fun r s' hr => ?_)
  match r, hr with
  | .ok (.ret v), hr => exact hr
  | .ok .next, hr => exact hr.elim
  | .ok .brk, hr => exact hr.elim
  | .ok .cont, hr => exact hr.elim
  | .error e, hr => exact hr
theorem osa_any {K : Frag} (SF : StoreFacts B bmB "object.__setattr__" "object") {name : Str} {tk : Tok} {v : Value} {x : Addr} {t0 : Addr}
    (X : K.In h) (hx : h.get? x = some (excO C t0)) (ho : W.excOver K C bmB = true) (hd : W.hasDictIn K C = true) (hf : W.findIn K (.ref C) name = some none)
    (hq : ∀ h' tk' dx, (∀ b o, b ≠ x → h.get? b = some o → h'.get? b = some o) → h.objs.size ≤ dx → dx ≠ x →
        h'.get? x = some { cls := .ref C, dict := some dx, data := .fields #[.ref t0, .none, .none, .none, .bool false, .none] } →
        (h'.Ns1 dx fun y => if y = name then some v else none) → R (.ok (.ret .none)) { heap := h', gens := g, drawn := d, toks := tk', os := os }) :
    codeAny (model prog w) A (.call (.builtin "object.__setattr__") ⟨[.ref x, .str name tk, v], []⟩) R ⟨h, g, d, t, os⟩ := by
  have htk : W.takerIn K C name = some none := by unfold W.takerIn; rw [hf]; rfl
  obtain ⟨cd, hcd, hdd⟩ := W.any_some (p := fun (cd : ClassData) => cd.hasDict) (x := W.clsIn K C) hd
  refine W.osa_openX SF X (od := none) ⟨hx, rfl, rfl, trivial⟩ ho htk fun b => ?_
  show wpAny _ _ (Builtin.ObjectAttr.storeInOwnDict (.ref x) (.ref C) (.str name tk) name v b) _ _ _
  unfold Builtin.ObjectAttr.storeInOwnDict
  refine wpAny_bind (wpAny_pure ?_)
  refine wpAny_ite_false (by rfl) ?_
  refine wpAny_bind ?_
  show wpAny _ _ (instanceDict x true) _ _ _
  refine W.instanceDict_exc hx (W.looks_clsIn X hcd) hdd ?_
  have lt : x < h.objs.size := Heap.lt_size hx
  have px : (h.push (W.dictOf [] 0)).get? x = some (excO C t0) := Heap.get?_push_of_some _ hx
  have pd : (h.push (W.dictOf [] 0)).get? h.objs.size = some (W.dictOf [] 0) := by heap_get
  refine HandSPX.store_in_new ⟨_, #[], 0, (Heap.get?_update_ne _ _ _ _ (Nat.ne_of_gt lt)).trans pd, rfl, ?_, fun _ => rfl⟩ fun h' tk' n k => ?_
  · intro e he
    exact absurd he (by simp)
  · refine hq h' tk' h.objs.size ?_ (Nat.le_refl _) (Nat.ne_of_gt lt) ?_ n
    · intro b o ne e
      have lb : b ≠ h.objs.size := Nat.ne_of_lt (Heap.lt_size e)
      rw [k.2 b lb, Heap.get?_update_ne _ _ _ _ ne]
      exact Heap.get?_push_of_some _ e
    · rw [k.2 x (Nat.ne_of_lt lt)]
      exact Heap.get?_update_self _ px rfl
end
end Wk
set_option linter.all false
set_option maxRecDepth 100000
set_option maxHeartbeats 4000000
namespace Wk
open PySem
theorem key_store : StoreFacts "KeyError" [.type "KeyError", .type "LookupError", .type "Exception", .type "BaseException", .type "object"] "object.__setattr__" "object" where
  mro := by rw [mroOf_type] <;> rfl
  slot := Slot.of (by rw [typeLookup_type, builtinLookup_eq_fast] <;> rfl) F.store_LookupError.split (by decide +kernel) (by decide +kernel) (.inl (by decide +kernel)) (by rw [isSubtype_type] <;> rfl) (by decide +kernel)
  entry := F.entry_object_sa
  kind := F.store_LookupError.kind
  split := F.store_LookupError.split
  hasOwner := by decide +kernel
  args := F.store_LookupError.args
  passes := fun self => by rfl
end Wk
set_option Elab.async false
set_option linter.all false
set_option maxRecDepth 100000
set_option maxHeartbeats 2000000
/-! Errors of one's own whose __init__ keeps one value, over any base: made, kept, read. -/
namespace PySem
namespace WkX
open PySem.W PySem.Calls PyProof.Rows PySem.HandSPX
/-- the parameters self and f -/
def prm (f : Str) (p1 p2 : Pos) : Arguments := ⟨[], [⟨"self", none, p1⟩, ⟨f, none, p2⟩], none, [], [], none, []⟩
/-- self.f = f -/
def sto (f : Str) (q1 q2 q3 q4 : Pos) : List Stmt := [.Assign [.Attribute (.Name "self" q1) f q2] (.Name f q3) q4]
def scp (f : Str) : Scope := { kind := .function, names := [("self", .local), (f, .local)], isGenerator := false, isCoroutine := false, more := [] }
/-- what the written part says of an error's class at C, called cn, with an __init__ at fI that keeps its value as f -/
structure Kept (K : Frag) (mg : Str → Option Value) (cn : Str) (C fI : Addr) (f : Str) : Prop where
  gC : mg cn = some (.ref C)
  cls : ∃ B newId initId bmN bm nm q N bs sn sub ab col dd k0 k1 k2 k3 k5, ExcBaseFacts B newId initId bmN ∧ bm.contains (.type B) = true ∧ bm.contains (.type "AttributeError") = false ∧ bm.contains (.type "NameError") = false ∧
    K.lookup C = some (excClassObj nm q C N bs bm true sn sub ab col dd k0 k1 k2 k3 k5 newId)
  over : ∃ B bmB, StoreFacts B bmB "object.__setattr__" "object" ∧ excOver K C bmB = true
  sa : findIn K (.ref C) "__setattr__" = some (some (.builtin "object.__setattr__"))
  ga : findIn K (.ref C) "__getattribute__" = some (some (.builtin "BaseException.__getattribute__"))
  gg : findIn K (.ref C) "__getattr__" = some none
  noN : findIn K (.ref C) f = some none
  iC : findIn K (.ref C) "__init__" = some (some (.ref fI))
  tC : typeIn K (.ref fI) = some (.type "function")
  kC : keepIn K (.ref C) = true
  exC : subIn K (.ref C) (.type "BaseException") = some true
  tyC : typeIn K (.ref C) = some (.type "type")
  hdC : hasDictIn K C = true
  fn : ∃ (qn : Str) (oc : Value) (od : Option Addr) (doc pm : Value) (an : Option Addr) (cdv ct : Value) (osl : Array (Option Value)) (p1 p2 q1 q2 q3 q4 : Pos),
    K.lookup fI = some ⟨oc, od, .func (fnOf "__init__" qn (prm f p1 p2) (sto f q1 q2 q3 q4) (scp f) .none .none doc pm an cdv ct), osl⟩ ∧ codeIn K cdv qn = true
theorem ldN {M : Model} {s : Shared} {name : Str} {scope : Scope} {L a : Addr} {cd : Value} {m : Str → Option Value} {x : Str} {pos : Pos} {v : Value} {Q : Value → Shared → Prop} {A : Around} {E : Value → Shared → Prop} (hn : s.heap.Ns L m) (hv : m x = some v) (h : Q v s)
    (hk : scope.kind = .function := by rfl) (hl : (envOfC name scope L a cd).kindOf x = some .local := by rfl) (hd : (x == ("__debug__" : Str)) = false := by decide) :
    wpAny M A (eval (.Name x pos) (envOfC name scope L a cd)) Q E s := wpAny_Name (wpAny_loadName_local hk hl hn hv h) hd
/-- behind __init__: all else stands, x has a dict of its own with f alone -/
structure Laid (h h' : Heap) (x C dx t1 : Addr) (f : Str) (v : Value) : Prop where
  keep : ∀ b o, b ≠ x → h.get? b = some o → h'.get? b = some o
  obj : h'.get? x = some { cls := .ref C, dict := some dx, data := .fields #[.ref t1, .none, .none, .none, .bool false, .none] }
  dbig : h.objs.size ≤ dx
  dne : dx ≠ x
  ns : h'.Ns1 dx (fun y => if y = f then some v else none)
/-- an error that has been made -/
structure Made (h h' : Heap) (e C d : Addr) (f : Str) (v : Value) : Prop where
  keep : ∀ b o, h.get? b = some o → h'.get? b = some o
  new : h.objs.size ≤ e
  obj : ∃ t1, h'.get? e = some { cls := .ref C, dict := some d, data := .fields #[.ref t1, .none, .none, .none, .bool false, .none] }
  dbig : h.objs.size ≤ d
  dne : d ≠ e
  ns : h'.Ns1 d (fun y => if y = f then some v else none)
/-- what the call of __init__ does -/
def InitOk (prog : Program) (w : World) (K : Frag) (C fI : Addr) (f : Str) : Prop := ∀ (A : Around) (R : Result → Shared → Prop) (s : Shared) (x t0 : Addr) (v : Value), K.In s.heap → s.heap.NoLimit → s.heap.get? x = some (excO C t0) → A.depth < recursionLimit →
    (∀ h' tk dx, Laid s.heap h' x C dx t0 f v → R (.ok (.ret .none)) { s with heap := h', toks := tk }) → codeAny (model prog w) A (.call (.ref fI) ⟨[.ref x, v], []⟩) R s
theorem init_index {prog : Program} {w : World} {K : Frag} {mg : Str → Option Value} {cn : Str} {C fI : Addr} (T : Kept K mg cn C fI "index") : InitOk prog w K C fI "index" := by
  intro A R s x t0 v X hlim hx hroom hq
  obtain ⟨qn, oc, od, doc, pm, an, cdv, ct, osl, p1, p2, q1, q2, q3, q4, ho, hcd⟩ := T.fn
  obtain ⟨B, bmB, SF, hov⟩ := T.over
  refine Att.call_fn (binds := [("self", .ref x), ("index", v)]) X hlim ho hcd hroom (BindsTo.of_eq (by first | rfl | with_unfolding_all rfl)) (by first | rfl | decide | with_unfolding_all rfl) (fun s₁ IC => ?_) rfl rfl rfl
  obtain ⟨h₁, tk₁, rfl⟩ := IC.toInCall.same
  have k : ∀ b o, s.heap.get? b = some o → h₁.get? b = some o := IC.toInCall.keep
  have hn := IC.toInCall.ns
  have X₁ : K.In h₁ := X.keeps k
  have hx₁ := k _ _ hx
  show wpAny _ _ (execs _ _) _ _ _
  refine wpAny_execs_cons (plainObj_wpAny_Assign_Attribute ?_)
  refine ldN (v := v) hn (by first | rfl | with_unfolding_all rfl | kernel_rfl) (ldN (v := .ref x) hn (by first | rfl | with_unfolding_all rfl | kernel_rfl) ?_)
  refine set_plain X₁ (ox := excO C t0) (od := none) ⟨hx₁, rfl, rfl, trivial⟩ T.sa ?_
  refine Wk.osa_any SF X₁ hx₁ hov T.hdC T.noN (fun h₃ tk₃ dx k₃ dn dne hx₃ hn₃ => ?_)
  show wpAny _ _ (execs _ _) _ _ _
  have z : s.heap.objs.size < h₁.objs.size := hn.lt
  exact wpAny_execs_nil (hq h₃ tk₃ dx ⟨fun b o hb e => k₃ b o hb (k b o e), hx₃, Nat.le_of_lt (Nat.lt_of_lt_of_le z dn), dne, hn₃⟩)
theorem init_value {prog : Program} {w : World} {K : Frag} {mg : Str → Option Value} {cn : Str} {C fI : Addr} (T : Kept K mg cn C fI "value") : InitOk prog w K C fI "value" := by
  intro A R s x t0 v X hlim hx hroom hq
  obtain ⟨qn, oc, od, doc, pm, an, cdv, ct, osl, p1, p2, q1, q2, q3, q4, ho, hcd⟩ := T.fn
  obtain ⟨B, bmB, SF, hov⟩ := T.over
  refine Att.call_fn (binds := [("self", .ref x), ("value", v)]) X hlim ho hcd hroom (BindsTo.of_eq (by first | rfl | with_unfolding_all rfl)) (by first | rfl | decide | with_unfolding_all rfl) (fun s₁ IC => ?_) rfl rfl rfl
  obtain ⟨h₁, tk₁, rfl⟩ := IC.toInCall.same
  have k : ∀ b o, s.heap.get? b = some o → h₁.get? b = some o := IC.toInCall.keep
  have hn := IC.toInCall.ns
  have X₁ : K.In h₁ := X.keeps k
  have hx₁ := k _ _ hx
  show wpAny _ _ (execs _ _) _ _ _
  refine wpAny_execs_cons (plainObj_wpAny_Assign_Attribute ?_)
  refine ldN (v := v) hn (by first | rfl | with_unfolding_all rfl | kernel_rfl) (ldN (v := .ref x) hn (by first | rfl | with_unfolding_all rfl | kernel_rfl) ?_)
  refine set_plain X₁ (ox := excO C t0) (od := none) ⟨hx₁, rfl, rfl, trivial⟩ T.sa ?_
  refine Wk.osa_any SF X₁ hx₁ hov T.hdC T.noN (fun h₃ tk₃ dx k₃ dn dne hx₃ hn₃ => ?_)
  show wpAny _ _ (execs _ _) _ _ _
  have z : s.heap.objs.size < h₁.objs.size := hn.lt
  exact wpAny_execs_nil (hq h₃ tk₃ dx ⟨fun b o hb e => k₃ b o hb (k b o e), hx₃, Nat.le_of_lt (Nat.lt_of_lt_of_le z dn), dne, hn₃⟩)
theorem init_name {prog : Program} {w : World} {K : Frag} {mg : Str → Option Value} {cn : Str} {C fI : Addr} (T : Kept K mg cn C fI "name") : InitOk prog w K C fI "name" := by
  intro A R s x t0 v X hlim hx hroom hq
  obtain ⟨qn, oc, od, doc, pm, an, cdv, ct, osl, p1, p2, q1, q2, q3, q4, ho, hcd⟩ := T.fn
  obtain ⟨B, bmB, SF, hov⟩ := T.over
  refine Att.call_fn (binds := [("self", .ref x), ("name", v)]) X hlim ho hcd hroom (BindsTo.of_eq (by first | rfl | with_unfolding_all rfl)) (by first | rfl | decide | with_unfolding_all rfl) (fun s₁ IC => ?_) rfl rfl rfl
  obtain ⟨h₁, tk₁, rfl⟩ := IC.toInCall.same
  have k : ∀ b o, s.heap.get? b = some o → h₁.get? b = some o := IC.toInCall.keep
  have hn := IC.toInCall.ns
  have X₁ : K.In h₁ := X.keeps k
  have hx₁ := k _ _ hx
  show wpAny _ _ (execs _ _) _ _ _
  refine wpAny_execs_cons (plainObj_wpAny_Assign_Attribute ?_)
  refine ldN (v := v) hn (by first | rfl | with_unfolding_all rfl | kernel_rfl) (ldN (v := .ref x) hn (by first | rfl | with_unfolding_all rfl | kernel_rfl) ?_)
  refine set_plain X₁ (ox := excO C t0) (od := none) ⟨hx₁, rfl, rfl, trivial⟩ T.sa ?_
  refine Wk.osa_any SF X₁ hx₁ hov T.hdC T.noN (fun h₃ tk₃ dx k₃ dn dne hx₃ hn₃ => ?_)
  show wpAny _ _ (execs _ _) _ _ _
  have z : s.heap.objs.size < h₁.objs.size := hn.lt
  exact wpAny_execs_nil (hq h₃ tk₃ dx ⟨fun b o hb e => k₃ b o hb (k b o e), hx₃, Nat.le_of_lt (Nat.lt_of_lt_of_le z dn), dne, hn₃⟩)
theorem init_limit {prog : Program} {w : World} {K : Frag} {mg : Str → Option Value} {cn : Str} {C fI : Addr} (T : Kept K mg cn C fI "limit") : InitOk prog w K C fI "limit" := by
  intro A R s x t0 v X hlim hx hroom hq
  obtain ⟨qn, oc, od, doc, pm, an, cdv, ct, osl, p1, p2, q1, q2, q3, q4, ho, hcd⟩ := T.fn
  obtain ⟨B, bmB, SF, hov⟩ := T.over
  refine Att.call_fn (binds := [("self", .ref x), ("limit", v)]) X hlim ho hcd hroom (BindsTo.of_eq (by first | rfl | with_unfolding_all rfl)) (by first | rfl | decide | with_unfolding_all rfl) (fun s₁ IC => ?_) rfl rfl rfl
  obtain ⟨h₁, tk₁, rfl⟩ := IC.toInCall.same
  have k : ∀ b o, s.heap.get? b = some o → h₁.get? b = some o := IC.toInCall.keep
  have hn := IC.toInCall.ns
  have X₁ : K.In h₁ := X.keeps k
  have hx₁ := k _ _ hx
  show wpAny _ _ (execs _ _) _ _ _
  refine wpAny_execs_cons (plainObj_wpAny_Assign_Attribute ?_)
  refine ldN (v := v) hn (by first | rfl | with_unfolding_all rfl | kernel_rfl) (ldN (v := .ref x) hn (by first | rfl | with_unfolding_all rfl | kernel_rfl) ?_)
  refine set_plain X₁ (ox := excO C t0) (od := none) ⟨hx₁, rfl, rfl, trivial⟩ T.sa ?_
  refine Wk.osa_any SF X₁ hx₁ hov T.hdC T.noN (fun h₃ tk₃ dx k₃ dn dne hx₃ hn₃ => ?_)
  show wpAny _ _ (execs _ _) _ _ _
  have z : s.heap.objs.size < h₁.objs.size := hn.lt
  exact wpAny_execs_nil (hq h₃ tk₃ dx ⟨fun b o hb e => k₃ b o hb (k b o e), hx₃, Nat.le_of_lt (Nat.lt_of_lt_of_le z dn), dne, hn₃⟩)
theorem init_many {prog : Program} {w : World} {K : Frag} {mg : Str → Option Value} {cn : Str} {C fI : Addr} (T : Kept K mg cn C fI "many") : InitOk prog w K C fI "many" := by
  intro A R s x t0 v X hlim hx hroom hq
  obtain ⟨qn, oc, od, doc, pm, an, cdv, ct, osl, p1, p2, q1, q2, q3, q4, ho, hcd⟩ := T.fn
  obtain ⟨B, bmB, SF, hov⟩ := T.over
  refine Att.call_fn (binds := [("self", .ref x), ("many", v)]) X hlim ho hcd hroom (BindsTo.of_eq (by first | rfl | with_unfolding_all rfl)) (by first | rfl | decide | with_unfolding_all rfl) (fun s₁ IC => ?_) rfl rfl rfl
  obtain ⟨h₁, tk₁, rfl⟩ := IC.toInCall.same
  have k : ∀ b o, s.heap.get? b = some o → h₁.get? b = some o := IC.toInCall.keep
  have hn := IC.toInCall.ns
  have X₁ : K.In h₁ := X.keeps k
  have hx₁ := k _ _ hx
  show wpAny _ _ (execs _ _) _ _ _
  refine wpAny_execs_cons (plainObj_wpAny_Assign_Attribute ?_)
  refine ldN (v := v) hn (by first | rfl | with_unfolding_all rfl | kernel_rfl) (ldN (v := .ref x) hn (by first | rfl | with_unfolding_all rfl | kernel_rfl) ?_)
  refine set_plain X₁ (ox := excO C t0) (od := none) ⟨hx₁, rfl, rfl, trivial⟩ T.sa ?_
  refine Wk.osa_any SF X₁ hx₁ hov T.hdC T.noN (fun h₃ tk₃ dx k₃ dn dne hx₃ hn₃ => ?_)
  show wpAny _ _ (execs _ _) _ _ _
  have z : s.heap.objs.size < h₁.objs.size := hn.lt
  exact wpAny_execs_nil (hq h₃ tk₃ dx ⟨fun b o hb e => k₃ b o hb (k b o e), hx₃, Nat.le_of_lt (Nat.lt_of_lt_of_le z dn), dne, hn₃⟩)
theorem init_edge {prog : Program} {w : World} {K : Frag} {mg : Str → Option Value} {cn : Str} {C fI : Addr} (T : Kept K mg cn C fI "edge") : InitOk prog w K C fI "edge" := by
  intro A R s x t0 v X hlim hx hroom hq
  obtain ⟨qn, oc, od, doc, pm, an, cdv, ct, osl, p1, p2, q1, q2, q3, q4, ho, hcd⟩ := T.fn
  obtain ⟨B, bmB, SF, hov⟩ := T.over
  refine Att.call_fn (binds := [("self", .ref x), ("edge", v)]) X hlim ho hcd hroom (BindsTo.of_eq (by first | rfl | with_unfolding_all rfl)) (by first | rfl | decide | with_unfolding_all rfl) (fun s₁ IC => ?_) rfl rfl rfl
  obtain ⟨h₁, tk₁, rfl⟩ := IC.toInCall.same
  have k : ∀ b o, s.heap.get? b = some o → h₁.get? b = some o := IC.toInCall.keep
  have hn := IC.toInCall.ns
  have X₁ : K.In h₁ := X.keeps k
  have hx₁ := k _ _ hx
  show wpAny _ _ (execs _ _) _ _ _
  refine wpAny_execs_cons (plainObj_wpAny_Assign_Attribute ?_)
  refine ldN (v := v) hn (by first | rfl | with_unfolding_all rfl | kernel_rfl) (ldN (v := .ref x) hn (by first | rfl | with_unfolding_all rfl | kernel_rfl) ?_)
  refine set_plain X₁ (ox := excO C t0) (od := none) ⟨hx₁, rfl, rfl, trivial⟩ T.sa ?_
  refine Wk.osa_any SF X₁ hx₁ hov T.hdC T.noN (fun h₃ tk₃ dx k₃ dn dne hx₃ hn₃ => ?_)
  show wpAny _ _ (execs _ _) _ _ _
  have z : s.heap.objs.size < h₁.objs.size := hn.lt
  exact wpAny_execs_nil (hq h₃ tk₃ dx ⟨fun b o hb e => k₃ b o hb (k b o e), hx₃, Nat.le_of_lt (Nat.lt_of_lt_of_le z dn), dne, hn₃⟩)
theorem made {prog : Program} {w : World} {A : Around} {R : Result → Shared → Prop} {s : Shared} {K : Frag} {mg : Str → Option Value} {cn : Str} {C fI : Addr} {f : Str} (T : Kept K mg cn C fI f) (IO : InitOk prog w K C fI f) {v : Value}
    (X : K.In s.heap) (hlim : s.heap.NoLimit) (hroom : A.depth + 1 < recursionLimit) (hq : ∀ h' tk e d, Made s.heap h' e C d f v → R (.ok (.ret (.ref e))) { s with heap := h', toks := tk }) :
    codeAny (model prog w) A (.call (.ref C) ⟨[v], []⟩) R s := by
  obtain ⟨B, newId, initId, bmN, bm, nm, q, N, bs, sn, sub, ab, col, dd, k0, k1, k2, k3, k5, F, hB, hA, hN, hC⟩ := T.cls
  obtain ⟨hp, g, dr, tk, os⟩ := s
  have k : ∀ b o, hp.get? b = some o → ((hp.push (kdv_tup [v])).push (excO C hp.objs.size)).get? b = some o := fun b o e => Heap.get?_push_of_some _ (Heap.get?_push_of_some _ e)
  have hget : ((hp.push (kdv_tup [v])).push (excO C hp.objs.size)).get? (hp.objs.size + 1) = some (excO C hp.objs.size) := by heap_get
  refine Wk.call_own2 F hB hA hN (X _ _ hC) (looks_findIn X T.iC) (fun self => bind_fn X self T.tC) (by rw [sizeLine_eq]; exact (by decide : 1 ≤ 16777216)) ?_
  refine IO _ _ ⟨(hp.push (kdv_tup [v])).push (excO C hp.objs.size), g, dr, tk, os⟩ _ _ v (X.keeps k) (hlim.keeps k) hget hroom fun h' tk' dx ⟨k', hx, dn, dne, hns⟩ => ?_
  have old : ∀ b o, hp.get? b = some o → h'.get? b = some o := fun b o e => k' b o (Nat.ne_of_lt (Nat.lt_succ_of_lt (Heap.lt_size e))) (k b o e)
  have z : hp.objs.size + 1 + 1 ≤ dx := by
    have q := dn
    first
      | exact q
      | (simpa only [Heap.size_push] using q)
  exact ⟨rfl, hq h' tk' (hp.objs.size + 1) dx ⟨old, Nat.le_succ _, ⟨_, hx⟩, Nat.le_trans (Nat.le_trans (Nat.le_succ _) (Nat.le_succ _)) z, dne, hns⟩⟩
end WkX
end PySem
namespace Wk
open PySem PySem.Spec PyProof.Rows L2 PySem.WkX
theorem relO_one {f : Str} {v : V} {v' : Value} (r : RelV v v') (y : Str) : RelO (List.lookup y [(f, v)]) (if y = f then some v' else none) := by
  by_cases hw : y = f
  · subst hw
    rw [if_pos rfl]
    have q : List.lookup y [(y, v)] = some v := by simp [List.lookup]
    rw [q]
    exact r
  · rw [if_neg hw]
    have qw : (y == f) = false := by simpa using hw
    have q2 : List.lookup y [(f, v)] = none := by simp [List.lookup, qw]
    rw [q2]
    trivial
section
variable {X : Cx} {C fI : Addr} {x f : Str}
/-- an error made with one value, to be raised -/
def tMkK (C : Addr) (f : Str) (ta : TA) : L2.St → Hp → XK → Prop := fun σ H Q => ta σ H fun vs H1 => ∃ v, vs = [v] ∧ ∀ d, H1 d = none → Q (.ref C) (some d) (upd H1 d (.xd [(f, v)]))
/-- an error made with one value, as a value -/
def tValK (C : Addr) (f : Str) (ta : TA) : TE := fun σ H Q => ta σ H fun vs H1 => ∃ v, vs = [v] ∧ ∀ d e, H1 d = none → H1 e = none → e ≠ d → Q (.ref e) (upd (upd H1 d (.xd [(f, v)])) e (exo e C (some d)))
theorem pmk_kept {a : Expr} {ta : TA} {p pos : Pos} {k : Nat} (T : Kept X.K X.mg x C fI f) (IO : InitOk X.prog X.w X.K C fI f) (hr : Room k X.A) (hg : Gl X x) (ha : PA X [a] ta) (hx : (x == ("__debug__" : Str)) = false := by decide)
    (he : starEach (a :: []) X.env = (false, eval a X.env) :: starEach [] X.env := by rfl) (hpl : (backTo pos (starEach [] X.env)).any (·.1) = false := by rfl) :
    PMk X (.Call (.Name x p) [a] [] pos) (tMkK C f ta) := by
  intro pins s σ H Q I h
  refine wpAny_Call_Name_kw (ld_glob I hg T.gC ?_ hx)
  refine PySem.W.callWith_K (h₀ := X.base) I.ok.mod.kin T.kC (thn (ha.run pos pins s σ H _ I h) fun us s1 hh => ?_) he hpl
  obtain ⟨vs, H1, I1, r1, v, ev, q1⟩ := hh
  subst ev
  refine ⟨I1.kIn, ?_⟩
  cases r1 with
  | cons rv rn =>
    rename_i v' us'
    cases rn
    show wpAny _ _ (call (.ref C) [v']) _ _ _
    have hlim := I1.nolimit
    obtain ⟨hp, g, dr, tk, os⟩ := s1
    refine wpAny_call (WkX.made T IO I1.kIn hlim (by have := hr.dp; omega) fun h' tk' e d M => ?_)
    show MkP X pins σ Q (.ref e) ⟨h', g, dr, tk', os⟩
    obtain ⟨t1, hoe⟩ := M.obj
    have hns := M.ns
    obtain ⟨G', g1, g2⟩ := restrict h' fun b => decide (b ≠ e)
    have gk : ∀ b, b ≠ e → G'.get? b = h'.get? b := fun b hb => g1 b (decide_eq_true hb)
    have ge : G'.get? e = none := g2 e (by simp)
    have old : ∀ b o, hp.get? b = some o → G'.get? b = some o := fun b o q => (gk b (Nat.ne_of_lt (Nat.lt_of_lt_of_le (Heap.lt_size q) M.new))).trans (M.keep b o q)
    have ob : ObjOk X.prog X.w (upd H1 d (.xd [(f, v)])) G' d (.xd [(f, v)]) := ⟨_, hns.at (fun o q => (gk d M.dne).trans q), fun y => relO_one rv y⟩
    have J : Inv X pins σ (upd H1 d (.xd [(f, v)])) ⟨G', g, dr, tk', os⟩ := I1.laid (t' := tk') old M.dbig ob
    refine ⟨e, _, _, ⟨G', g, dr, tk', os⟩, _, .ref C, some d, rfl, J, fun b o q => ?_, ge, hoe, ⟨rfl, rfl⟩, rfl, rfl, ?_, rfl, I1.bare, raises_own T.exC T.tyC, q1 d (I1.hok.fresh M.dbig)⟩
    · by_cases hb : b = e
      · have q' : G'.get? b = some o := q
        rw [hb, ge] at q'; cases q'
      · exact (gk b hb).symm.trans q
    · rw [upd_ne (Ne.symm M.dne)]
      exact I1.hok.fresh M.new
theorem pe_kept {a : Expr} {ta : TA} {p pos : Pos} {k : Nat} (T : Kept X.K X.mg x C fI f) (IO : InitOk X.prog X.w X.K C fI f) (hr : Room k X.A) (hg : Gl X x) (ha : PA X [a] ta) (hx : (x == ("__debug__" : Str)) = false := by decide)
    (he : starEach (a :: []) X.env = (false, eval a X.env) :: starEach [] X.env := by rfl) (hpl : (backTo pos (starEach [] X.env)).any (·.1) = false := by rfl) :
    PE X (.Call (.Name x p) [a] [] pos) (tValK C f ta) := by
  refine ⟨fun pins s σ H Q I h => ?_⟩
  refine wpAny_Call_Name_kw (ld_glob I hg T.gC ?_ hx)
  refine PySem.W.callWith_K (h₀ := X.base) I.ok.mod.kin T.kC (thn (ha.run pos pins s σ H _ I h) fun us s1 hh => ?_) he hpl
  obtain ⟨vs, H1, I1, r1, v, ev, q1⟩ := hh
  subst ev
  refine ⟨I1.kIn, ?_⟩
  cases r1 with
  | cons rv rn =>
    rename_i v' us'
    cases rn
    show wpAny _ _ (call (.ref C) [v']) _ _ _
    have hlim := I1.nolimit
    obtain ⟨hp, g, dr, tk, os⟩ := s1
    refine wpAny_call (WkX.made T IO I1.kIn hlim (by have := hr.dp; omega) fun h' tk' e d M => ?_)
    obtain ⟨t1, hoe⟩ := M.obj
    have hns := M.ns
    obtain ⟨G', g1, g2⟩ := restrict h' fun b => decide (b ≠ e)
    have gk : ∀ b, b ≠ e → G'.get? b = h'.get? b := fun b hb => g1 b (decide_eq_true hb)
    have ge : G'.get? e = none := g2 e (by simp)
    have old : ∀ b o, hp.get? b = some o → G'.get? b = some o := fun b o q => (gk b (Nat.ne_of_lt (Nat.lt_of_lt_of_le (Heap.lt_size q) M.new))).trans (M.keep b o q)
    have ob : ObjOk X.prog X.w (upd H1 d (.xd [(f, v)])) G' d (.xd [(f, v)]) := ⟨_, hns.at (fun o q => (gk d M.dne).trans q), fun y => relO_one rv y⟩
    have J : Inv X pins σ (upd H1 d (.xd [(f, v)])) ⟨G', g, dr, tk', os⟩ := I1.laid (t' := tk') old M.dbig ob
    have hd0 : H1 d = none := I1.hok.fresh M.dbig
    have he0 : H1 e = none := I1.hok.fresh M.new
    have he1 : upd H1 d (.xd [(f, v)]) e = none := by rw [upd_ne (Ne.symm M.dne)]; exact he0
    have J2 : Inv X pins σ (upd (upd H1 d (.xd [(f, v)])) e (exo e C (some d))) ⟨h', g, dr, tk', os⟩ := by
      refine J.laidN (t' := tk') (fun b o q => ?_) ge he1 ⟨⟨t1, hoe⟩, ⟨_, hoe⟩, fun h1 h2 ⟨u, hu⟩ kk => ⟨u, kk _ hu⟩⟩
      by_cases hb : b = e
      · have q' : G'.get? b = some o := q
        rw [hb, ge] at q'; cases q'
      · exact (gk b hb).symm.trans q
    exact ⟨.ref e, _, J2, rfl, q1 d e hd0 he0 (Ne.symm M.dne)⟩
/-- e.f, e an error as a value -/
def tKeptF (C : Addr) (n : Str) (te : TE) : TE := fun σ H Q => te σ H fun x H1 => ∃ (a d : Addr) (fs : List (Str × V)) (v : V), x = .ref a ∧ H1 a = some (exo a C (some d)) ∧ H1 d = some (.xd fs) ∧ List.lookup n fs = some v ∧ Q v H1
theorem pe_keptF {e : Expr} {te : TE} {pos : Pos} (T : Kept X.K X.mg x C fI f) (he : PE X e te) (hb : attributeBase e f X.env (eval e X.env) = eval e X.env := by rfl) :
    PE X (.Attribute e f pos) (tKeptF C f te) := by
  refine ⟨fun pins s σ H Q I h => ?_⟩
  refine attr_of hb (thn (he.run pins s σ H _ I h) fun u s1 hh => ?_)
  obtain ⟨x, H1, I1, rx, a, d, fs, v, ex, ea, ed, el, q⟩ := hh
  subst ex
  obtain rfl : u = Value.ref a := rx
  obtain ⟨⟨t1, ha⟩, _⟩ := I1.hok a _ ea
  obtain ⟨mA, hns, hr⟩ : ObjOk X.prog X.w H1 s1.heap d (.xd fs) := I1.hok d _ ed
  obtain ⟨od, ho, hl⟩ := lookIn_ns hns
  obtain ⟨u, hu, ru⟩ := RelO.some_of (v := v) (o := mA f) (by rw [← el]; exact hr f)
  have J : PySem.W.InstAt s1.heap a _ C (some od) := ⟨ha, rfl, rfl, ho⟩
  exact HandSPX.exc_get I1.kIn J T.ga T.gg T.exC (PySem.W.findObj_own T.hdC T.noN rfl (by rw [hl, hu])) (handed_of ru) ⟨v, H1, I1.tok _, ru, q⟩
end
end Wk
set_option Elab.async false
set_option linter.all false
set_option maxRecDepth 100000
set_option maxHeartbeats 2000000
/-! several except clauses, of one class or of some, with and without a name -/
namespace Wk
open PySem PySem.Spec PyProof.Rows L2
theorem exmAny_nil {K : PySem.W.Frag} {cls : Value} {b : Bool} (h : PySem.W.exmAny K cls [] = some b) : b = false := by
  cases h; rfl
theorem loop_classes {M : Model} {K : PySem.W.Frag} {cls : Value} {h : Heap} (X : K.In h) {A : Around} {E : Value → Shared → Prop} {g : Array GenState} {d : Drawn} {t : Nat} {os : OsState} {Q : PUnit → Shared → Prop} {f : Value → PUnit → Sem (ForInStep PUnit)}
    (hf : ∀ c, PySem.W.Looks M h (isExcClass c) true → ∀ (Q' : ForInStep PUnit → Shared → Prop), Q' (.yield .unit) ⟨h, g, d, t, os⟩ → wpAny M A (f c .unit) Q' E ⟨h, g, d, t, os⟩) :
    ∀ (cs : List Value) (b : Bool), PySem.W.exmAny K cls cs = some b → Q .unit ⟨h, g, d, t, os⟩ → wpAny M A (forIn cs PUnit.unit f) Q E ⟨h, g, d, t, os⟩
  | [], _, _, q => by
    rw [List.forIn_nil]
    exact wpAny_pure q
  | c :: r, b, e, q => by
    obtain ⟨b1, d1, e1, e2, _⟩ := PySem.W.exmAny_cons e
    rw [List.forIn_cons]
    refine wpAny_bind (hf c (PySem.W.exm_cls X e1).1 _ ?_)
    exact loop_classes X hf r d1 e2 q
theorem loop_sub {M : Model} {K : PySem.W.Frag} {cls : Value} {h : Heap} (X : K.In h) {A : Around} {E : Value → Shared → Prop} {g : Array GenState} {d : Drawn} {t : Nat} {os : OsState} {Q : (Option Bool × Unit) → Shared → Prop} {f : Value → (Option Bool × Unit) → Sem (ForInStep (Option Bool × Unit))}
    (hf : ∀ c v, PySem.W.Looks M h (isSubtype cls c) v → ∀ (Q' : ForInStep (Option Bool × Unit) → Shared → Prop), Q' (if v then .done (some true, ()) else .yield (none, ())) ⟨h, g, d, t, os⟩ → wpAny M A (f c (none, ())) Q' E ⟨h, g, d, t, os⟩) :
    ∀ (cs : List Value) (b : Bool), PySem.W.exmAny K cls cs = some b → Q (if b then some true else none, ()) ⟨h, g, d, t, os⟩ → wpAny M A (forIn cs (none, ()) f) Q E ⟨h, g, d, t, os⟩
  | [], b, e, q => by
    rw [List.forIn_nil]
    rw [exmAny_nil e] at q
    exact wpAny_pure q
  | c :: r, b, e, q => by
    obtain ⟨b1, d1, e1, e2, e3⟩ := PySem.W.exmAny_cons e
    rw [List.forIn_cons]
    refine wpAny_bind (hf c b1 (PySem.W.exm_cls X e1).2 _ ?_)
    cases b1 with
    | true =>
      rw [e3] at q
      exact wpAny_pure q
    | false =>
      rw [e3] at q
      exact loop_sub X hf r d1 e2 q
theorem exm_tup {M : Model} {K : PySem.W.Frag} {cs : List Value} {cls : Value} {tp e : Addr} {b : Bool} {h : Heap} (X : K.In h) (ht : PySem.W.Looks M h (typeOf (.ref e)) cls)
    (hp : h.get? tp = some { cls := .type "tuple", data := .seq cs.toArray }) (hb : PySem.W.exmAny K cls cs = some b) : PySem.W.Looks M h (excMatches (.ref e) (.ref tp)) b := by
  intro A Q E s k q
  obtain ⟨hh, g, d, t, os⟩ := s
  have X' : K.In hh := X.keeps k
  have hp' := k _ _ hp
  have ht' := ht.keeps k
  unfold excMatches
  refine wpAny_bind ?_
  show wpAny _ _ (typeOf (.ref tp) >>= _) _ _ _
  refine wpAny_bind ?_
  show wpAny _ _ (loadHead tp >>= _) _ _ _
  refine wpAny_bind (wpAny_loadPart_at hp' ?_)
  refine wpAny_pure ?_
  show wpAny _ _ (isSubtype (.type "tuple") (.type "tuple")) _ _ _
  rw [isSubtype_tuple_tuple]
  refine wpAny_pure ?_
  refine wpAny_ite_true (by decide) ?_
  refine wpAny_bind (wpAny_seqItems hp' rfl ?_)
  refine wpAny_bind (wpAny_pure ?_)
  show wpAny _ _ (forIn cs PUnit.unit _ >>= _) _ _ _
  refine wpAny_bind (loop_classes X' (fun c hc Q' q' => ?_) cs b hb ?_)
  · refine wpAny_bind (hc.at ?_)
    exact wpAny_ite_false (by decide) (wpAny_pure q')
  refine wpAny_bind (ht'.at ?_)
  refine wpAny_bind (loop_sub X' (fun c v hc Q' q' => ?_) cs b hb ?_)
  · refine wpAny_bind (hc.at ?_)
    cases v with
    | true => exact wpAny_ite_true (by decide) (wpAny_pure q')
    | false => exact wpAny_ite_false (by decide) (wpAny_pure q')
  cases b with
  | true => exact wpAny_pure q
  | false => exact wpAny_pure q

/-- what the test of a clause does where an error of class cls is handled -/
def TestOk (X : Cx) (t : Expr) (m : Value → Option Bool) : Prop := ∀ (pins : List (Addr × Obj)) (a : Addr) (oe : Obj) (pn : List (Addr × Obj)) (σ : L2.St) (H : Hp) (s : Shared) (E : Value → Shared → Prop) (Q : Value → Shared → Prop) (b : Bool),
  Inv (X.suite a pn) pins σ H s → s.heap.get? a = some oe → m oe.cls = some b →
    (∀ c h', (∀ b o, s.heap.get? b = some o → h'.get? b = some o) → PySem.W.Looks (model X.prog X.w) h' (excMatches (.ref a) c) b → Q c { s with heap := h' }) →
      wpAny (model X.prog X.w) (X.A.mark (some (.ref a))) (eval t X.env) Q E s
theorem looks_type {M : Model} {h : Heap} {a : Addr} {oe : Obj} (ha : h.get? a = some oe) : PySem.W.Looks M h (typeOf (.ref a)) oe.cls :=
  fun _ _ _ _ k q => wpAny_typeOf_ref (k _ _ ha) q
theorem ld_any {X : Cx} {E : Value → Shared → Prop} {pins : List (Addr × Obj)} {s : Shared} {σ : L2.St} {H : Hp} {x : Str} {c : Value} {pos : Pos} {Q : Value → Shared → Prop} (I : Inv X pins σ H s) (hn : Names X x c) (q : Q c s) :
    wpAny (model X.prog X.w) X.A (eval (.Name x pos) X.env) Q E s := by
  obtain ⟨hg, hd, hm | ⟨hm, hv, hnn⟩⟩ := hn
  · exact ld_glob I hg hm q hd
  · exact ld_blt I hg hm hv q hnn hd
theorem test_one {X : Cx} {x : Str} {c : Value} {np : Pos} (hn : Names X x c) : TestOk X (.Name x np) (fun cls => PySem.W.exmOne X.K cls c) := by
  intro pins a oe pn σ H s E Q b I ha hb q
  exact ld_any (X := X.suite a pn) I hn (q c s.heap (fun _ _ e => e) (PySem.W.exm_one I.kIn (looks_type ha) hb))
/-- a row of names of classes -/
inductive NamesL (X : Cx) : List Expr → List Value → Prop
  | nil : NamesL X [] []
  | cons {x c p es cs} : Names X x c → NamesL X es cs → NamesL X (.Name x p :: es) (c :: cs)
theorem load_row {X : Cx} {E : Value → Shared → Prop} {pins : List (Addr × Obj)} {s : Shared} {σ : L2.St} {H : Hp} {pos : Pos} (I : Inv X pins σ H s) : ∀ {es : List Expr} {cs : List Value} {Q : List Value → Shared → Prop}, NamesL X es cs → Q cs s →
    wpAny (model X.prog X.w) X.A (spliced (backTo pos (starEach es X.env))) Q E s
  | _, _, _, .nil, q => spliced_none q
  | _, _, _, .cons hn r, q => spliced_more (ld_any I hn (load_row I r q)) rfl
theorem test_row {X : Cx} {es : List Expr} {cs : List Value} {k : Nat} {pos : Pos} (hn : NamesL X es cs) (hl : cs.length ≤ sizeLine) : TestOk X (.Tuple es k pos) (fun cls => PySem.W.exmAny X.K cls cs) := by
  intro pins a oe pn σ H s E Q b I ha hb q
  have hn' : NamesL (X.suite a pn) es cs := by
    clear hl hb
    induction hn with
    | nil => exact .nil
    | cons h r ih => exact .cons h ih
  refine wpAny_Tuple_spliced (load_row (X := X.suite a pn) I hn' ⟨hl, ?_⟩)
  have k : ∀ b o, s.heap.get? b = some o → (s.heap.push { cls := .type "tuple", data := .seq cs.toArray }).get? b = some o := fun b o e => Heap.get?_push_of_some _ e
  refine q _ _ k (exm_tup (I.kIn.keeps k) (looks_type (k _ _ ha)) ?_ hb)
  exact Heap.get?_push_at rfl rfl

/-- a clause: which classes it takes, what it does -/
structure Cls where
  m : Value → Option Bool
  go : Ends → Value → Option Addr → L2.St → Hp → Prop
/-- the clauses, one after another -/
def wCls (Wout : WX) (D : Ends) : List Cls → WX
  | [], cls, d, σ, H => Wout cls d σ H
  | c :: r, cls, d, σ, H => ∃ b, c.m cls = some b ∧ (b = true → c.go D cls d σ H) ∧ (b = false → wCls Wout D r cls d σ H)
def goOnly (ts : Addr → Value → Option Addr → TS) : Ends → Value → Option Addr → L2.St → Hp → Prop := fun D cls d σ H => ∀ a, H a = none → ts a cls d D σ H
def goAs (i : Nat) (ts : Addr → Value → Option Addr → TS) : Ends → Value → Option Addr → L2.St → Hp → Prop := fun D cls d σ H => ∀ a, H a = none →
  ts a cls d { nx := fun σ' H' => D.nx (σ'.set i none) H', rt := D.rt, bk := fun σ' H' => D.bk (σ'.set i none) H', ct := fun σ' H' => D.ct (σ'.set i none) H' } (σ.set i (some (.ref a))) H
inductive ClsOk (X : Cx) : List ExceptHandler → List Cls → Prop
  | nil : ClsOk X [] []
  | only {t m ts b₀ suite pos' hds l} : TestOk X t m →
      (∀ (a : Addr) (oe : Obj) (cls : Value) (d : Option Addr) (pn : List (Addr × Obj)), Zc cls d oe → (∃ vs, oe.data = .fields vs) → PSs (X.suite a ((a, oe) :: pn)) (b₀ :: suite) (ts a cls d)) →
      ClsOk X hds l → ClsOk X (.ExceptHandler (some t) none (b₀ :: suite) pos' :: hds) (⟨m, goOnly ts⟩ :: l)
  | named {t m ts n i b₀ suite pos' hds l} : TestOk X t m → X.N.Nodup → X.N[i]? = some n → X.env.kindOf n = some .local →
      (∀ (a : Addr) (oe : Obj) (cls : Value) (d : Option Addr) (pn : List (Addr × Obj)), Zc cls d oe → (∃ vs, oe.data = .fields vs) → PSs (X.suite a ((a, oe) :: pn)) (b₀ :: suite) (ts a cls d)) →
      ClsOk X hds l → ClsOk X (.ExceptHandler (some t) (some n) (b₀ :: suite) pos' :: hds) (⟨m, goAs i ts⟩ :: l)
theorem flying_keeps {B : Heap} {l : List Env} {a : Addr} {Z : Obj → Prop} {h h' : Heap} (fl : HandSPX.FlyingZ B l a Z h) (k : ∀ b o, h.get? b = some o → h'.get? b = some o) : HandSPX.FlyingZ B l a Z h' := by
  obtain ⟨k1, k2, k3, oe, vs, T, oT, ts, he, hz, hd, h1, hT, hne, hgT, hdT, h3⟩ := fl
  exact ⟨fun b o e => k _ _ (k1 b o e), k2, Heap.FunFrames.of_keeps (fun b o e _ => ⟨o, k _ _ e, rfl⟩) k3, oe, vs, T, oT, ts, k _ _ he, hz, hd, h1, hT, hne, k _ _ hgT, hdT, h3⟩
theorem suite_end {X : Cx} {pins : List (Addr × Obj)} {a : Addr} {q : Addr × Obj} {D : Ends} {f : Flow} {s : Shared} (ok : X.Ok) (h : SP (X.suite a (q :: (X.pn ++ pins))) [] D f s) : SP X pins D f s := by
  cases f with
  | next => obtain ⟨σ, H, I, q⟩ := h; exact ⟨σ, H, I.unsuite ok, q⟩
  | brk => obtain ⟨σ, H, I, q⟩ := h; exact ⟨σ, H, I.unsuite ok, q⟩
  | cont => obtain ⟨σ, H, I, q⟩ := h; exact ⟨σ, H, I.unsuite ok, q⟩
  | ret u => obtain ⟨v, σ, H, I, r, q⟩ := h; exact ⟨v, σ, H, I.unsuite ok, r, q⟩
section
variable {X : Cx} {Wout : WX} {D : Ends} {pins : List (Addr × Obj)} {a : Addr} {B : Heap} {sI : Shared} {σ' : L2.St} {H' : Hp} {cls : Value} {d : Option Addr}
theorem not_frame {b : Heap} {h : Heap} {o : Obj} {vs : Array Value} {l : List Env} (ff : h.FunFrames b l) (e : h.get? a = some o) (dd : o.data = .fields vs) (hm : a ∈ frs l) : False := by
  obtain ⟨_, o', e', hnf⟩ := Heap.FunFrames.mem ff hm
  rw [e] at e'
  cases e'
  exact hnf vs dd
/-- the clauses of a try whose body has let an error out -/
theorem clauses (hs : X.stack = X.env :: X.outer) (hf : X.env.frame = some X.env.locals) (tk : Takes X Wout) (ok : X.Ok) (J : Inv X pins σ' H' sI) (nb : ∀ b o, sI.heap.get? b = some o → b ∉ frs X.stack → B.get? b = some o) (na : H' a = none) :
    ∀ {hds : List ExceptHandler} {l : List Cls} {s : Shared}, ClsOk X hds l → HandSPX.FlyingZ B (X.env :: X.outer) a (Zc cls d) s.heap → sI.heap.UpToSlots s.heap → s.os = sI.os → AllBare s.gens → wCls Wout D l cls d σ' H' →
      wpAny (model X.prog X.w) X.A (handleBy (.ref a) X.env hds) (SP X pins D) X.xe s := by
  intro hds l s hk
  induction hk generalizing s with
  | nil =>
    intro fl up os ag w
    refine wpAny_handleBy_nil ?_
    obtain ⟨k1, k2, k3, oe, vs, T, oT, ts, he, hz, hd, h1, hr⟩ := id fl
    unfold PySem.passOn
    refine wpAny_bind (wpAny_field he hd h1 ?_)
    rw [if_neg (by simp)]
    refine wpAny_bind ?_
    rw [hf]
    refine HandSPX.setFlight_upZ fl fun h4 hh4 up4 => wpAny_throw (tk _ _ ?_)
    exact ⟨a, B, sI, pins, σ', H', cls, d, rfl, J, nb, up.trans up4, .inr (.inr (by rw [hs]; exact hh4)), na, os, ag, w⟩
  | only ht hsu r ih =>
    intro fl up os ag w
    obtain ⟨b, hb, hyes, hno⟩ := w
    have J3 := J.landed nb fl.1 up os ag
    obtain ⟨oe3, vs3, he3, hz3, hd3⟩ := fl.there
    have nfr : a ∉ frs (X.env :: X.outer) := fun hm => not_frame fl.2.2.1 he3 hd3 hm
    have nL : a ≠ X.env.locals := fun z => nfr (List.mem_filterMap.mpr ⟨X.env, List.mem_cons_self, by rw [hf, z]⟩)
    have nF : a ∉ X.fs := fun hm => by
      obtain ⟨e, he, q⟩ := List.mem_filterMap.mp hm
      exact nfr (List.mem_filterMap.mpr ⟨e, List.mem_cons_of_mem _ he, q⟩)
    have S3 := J3.suite he3 hd3 na nL nF
    refine wpAny_handleBy_cons (codeAny_handlers_test (ht [] a oe3 _ σ' H' s _ _ b S3 he3 (by rw [hz3.1]; exact hb) fun c h' k LM => ?_)) (by intro q; cases q)
    refine LM _ _ _ _ (fun _ _ e => e) ?_
    cases b with
    | false => exact ih (flying_keeps fl k) (up.trans (Heap.UpToSlots.of_keeps k)) os ag (hno rfl)
    | true =>
      refine codeAny_handlers_suite (HandSPX.lands_againZ (flying_keeps fl k) fun h4 fl4 up4 => ?_)
      have J4 := J.landed (s' := { s with heap := h4 }) nb fl4.1 ((up.trans (Heap.UpToSlots.of_keeps k)).trans up4) os ag
      obtain ⟨oe4, vs4, he4, hz4, hd4⟩ := fl4.there
      have S4 := J4.suite he4 hd4 na nL nF
      exact wpAny_mono ((hsu a oe4 cls d (X.pn ++ pins) hz4 ⟨vs4, hd4⟩).run [] _ σ' H' D S4 (hyes rfl a na)) (fun f s6 hsp => suite_end ok hsp) (fun _ _ z => z.elim)
  | named ht nd hN hloc hsu r ih =>
    intro fl up os ag w
    obtain ⟨b, hb, hyes, hno⟩ := w
    have J3 := J.landed nb fl.1 up os ag
    obtain ⟨oe3, vs3, he3, hz3, hd3⟩ := fl.there
    have nfr : a ∉ frs (X.env :: X.outer) := fun hm => not_frame fl.2.2.1 he3 hd3 hm
    have nL : a ≠ X.env.locals := fun z => nfr (List.mem_filterMap.mpr ⟨X.env, List.mem_cons_self, by rw [hf, z]⟩)
    have nF : a ∉ X.fs := fun hm => by
      obtain ⟨e, he, q⟩ := List.mem_filterMap.mp hm
      exact nfr (List.mem_filterMap.mpr ⟨e, List.mem_cons_of_mem _ he, q⟩)
    have S3 := J3.suite he3 hd3 na nL nF
    refine wpAny_handleBy_cons (codeAny_handlers_test (ht [] a oe3 _ σ' H' s _ _ b S3 he3 (by rw [hz3.1]; exact hb) fun c h' k LM => ?_)) (by intro q; cases q)
    refine LM _ _ _ _ (fun _ _ e => e) ?_
    cases b with
    | false => exact ih (flying_keeps fl k) (up.trans (Heap.UpToSlots.of_keeps k)) os ag (hno rfl)
    | true =>
      refine codeAny_handlers_suite_as (HandSPX.lands_againZ (flying_keeps fl k) fun h4 fl4 up4 => ?_)
      have J4 := J.landed (s' := { s with heap := h4 }) nb fl4.1 ((up.trans (Heap.UpToSlots.of_keeps k)).trans up4) os ag
      obtain ⟨oe4, vs4, he4, hz4, hd4⟩ := fl4.there
      have S4 := J4.suite he4 hd4 na nL nF
      refine store_ok (X := X.suite a ((a, oe4) :: (X.pn ++ pins))) (v := .ref a) S4 nd hN (Or.inl hloc) rfl (fun s5 S5 => ?_) (Or.inr hloc)
      refine wpAny_mono ((hsu a oe4 cls d (X.pn ++ pins) hz4 ⟨vs4, hd4⟩).run [] _ _ H' _ S5 (hyes rfl a na)) (fun f s6 hsp => ?_) (fun _ _ z => z.elim)
      cases f with
      | next => obtain ⟨σ6, H6, S6, q6⟩ := hsp; exact gone_ok (S6.unsuite ok) nd hN hloc fun s7 I7 => ⟨_, H6, I7, q6⟩
      | brk => obtain ⟨σ6, H6, S6, q6⟩ := hsp; exact gone_ok (S6.unsuite ok) nd hN hloc fun s7 I7 => ⟨_, H6, I7, q6⟩
      | cont => obtain ⟨σ6, H6, S6, q6⟩ := hsp; exact gone_ok (S6.unsuite ok) nd hN hloc fun s7 I7 => ⟨_, H6, I7, q6⟩
      | ret u => obtain ⟨v, σ6, H6, S6, r6, q6⟩ := hsp; exact gone_ok (S6.unsuite ok) nd hN hloc fun s7 I7 => ⟨v, _, H6, I7, r6, q6⟩
/-- try: body, except .. except .. -/
theorem ps_try_cls {body : List Stmt} {h₀ : ExceptHandler} {hds : List ExceptHandler} {l : List Cls} {pos : Pos} {tb : WX → TS} {Wout : WX} (hs : X.stack = X.env :: X.outer) (hf : X.env.frame = some X.env.locals) (tk : Takes X Wout)
    (hb : ∀ (W : WX) (pn : List (Addr × Obj)) (xe : Value → Shared → Prop), Takes (X.tr pn xe) W → PassesOwn (model X.prog X.w) X.A X.env xe → PSs (X.tr pn xe) body (tb W)) (hk : ClsOk X (h₀ :: hds) l) :
    PS X (.Try body (h₀ :: hds) [] [] pos) (fun D σ H => tb (wCls Wout D l) D σ H) := by
  refine ⟨fun pins s σ H D I h => ?_⟩
  have ok := I.ok
  have hfr : X.A.frames = some (X.env :: X.outer) := by rw [ok.frames, hs]
  refine wpAny_Try_except (wpAny_mono ((hb _ (X.pn ++ pins) (fun e s₁ => wpAny (model X.prog X.w) X.A (noteFrame e X.env) (fun _ s₂ => wpAny (model X.prog X.w) X.A (setFlight e none) (fun _ s₃ => wpAny (model X.prog X.w) X.A (handleBy e X.env (h₀ :: hds)) (SP X pins D) X.xe s₃) X.xe s₂) X.xe s₁) ?_ PassesOwn.looking).run [] s σ H D (I.toTry _) h) (fun f s1 hsp => ?_) (fun e s1 he => he))
  · rintro u s' ⟨a, B, sI, pins', σ', H', cls, d, rfl, J', nb, up, sky, na, os, ag, w⟩
    have J := J'.ofTry ok
    refine Sky.land Zc.steady hfr hf (show Sky B (X.env :: X.outer) a (Zc cls d) X.env.locals s'.heap by rw [← hs]; exact sky) fun h3 fl3 up3 => ?_
    exact clauses hs hf tk ok J nb na hk fl3 (up.trans up3) os ag w
  · cases f with
    | next => obtain ⟨σ', H', J', q⟩ := hsp; exact wpAny_execs_nil ⟨σ', H', J'.ofTry ok, q⟩
    | brk => obtain ⟨σ', H', J', q⟩ := hsp; exact ⟨σ', H', J'.ofTry ok, q⟩
    | cont => obtain ⟨σ', H', J', q⟩ := hsp; exact ⟨σ', H', J'.ofTry ok, q⟩
    | ret u => obtain ⟨v, σ', H', J', r, q⟩ := hsp; exact ⟨v, σ', H', J'.ofTry ok, r, q⟩
end
end Wk
set_option Elab.async false
set_option linter.all false
set_option maxRecDepth 100000
set_option maxHeartbeats 2000000
/-! errors as values: isinstance, both those that are held and those that are handled -/
namespace Wk
open PySem PySem.Spec PyProof.Rows L2 PySem.WkX
/-- an error without a value of its own, at a -/
def ErrP (H : Hp) (a C : Addr) : Prop := H a = some (ExO (.ref C) a)
/-- an error with its value at f -/
def ErrK (H : Hp) (a C : Addr) (f : Str) (v : V) : Prop := ∃ d, H a = some (exo a C (some d)) ∧ H d = some (.xd [(f, v)])
theorem ErrP.inst {X : Cx} {pins : List (Addr × Obj)} {σ : L2.St} {H : Hp} {s : Shared} {a C : Addr} (e : ErrP H a C) (I : Inv X pins σ H s) : ∃ ox od, PySem.W.InstAt s.heap a ox C od := by
  obtain ⟨⟨oe, vs, ha, hz, hd, _⟩, _⟩ := I.hok a _ e
  exact ⟨oe, none, ha, hz.1, by unfold PySem.W.notCls; rw [hd] <;> rfl, by rw [hz.2] <;> trivial⟩
theorem ErrK.inst {X : Cx} {pins : List (Addr × Obj)} {σ : L2.St} {H : Hp} {s : Shared} {a C : Addr} {f : Str} {v : V} (e : ErrK H a C f v) (I : Inv X pins σ H s) : ∃ ox od, PySem.W.InstAt s.heap a ox C od := by
  obtain ⟨d, ea, ed⟩ := e
  obtain ⟨⟨t1, ha⟩, _⟩ := I.hok a _ ea
  obtain ⟨mA, hns, hr⟩ : ObjOk X.prog X.w H s.heap d (.xd [(f, v)]) := I.hok d _ ed
  obtain ⟨od, ho, hl⟩ := lookIn_ns hns
  exact ⟨_, some od, ha, rfl, rfl, ho⟩
/-- isinstance of an error that is held: its class C, the class asked for -/
def rIsH (K : PySem.W.Frag) : List V → Hp → VK → Prop := fun xs H Q => ∃ (a C : Addr) (c : V) (cv : Value) (b : Bool), xs = [.ref a, c] ∧ (ErrP H a C ∨ ∃ f v, ErrK H a C f v) ∧ ExcC K C ∧ (∀ u, RelV c u → u = cv) ∧ PySem.W.kitOne K (.ref C) cv = some b ∧ Q (.bl b) H
theorem kitx_any {K : PySem.W.Frag} {C a : Addr} {ox : Obj} {od : Option Obj} (EC : ExcC K C) : PySem.W.KitX K (.ref a) (.ref C) fun h => PySem.W.InstAt h a ox C od := by
  have hc : (PySem.W.clsIn K C).isSome = true := by
    have := EC.hd
    unfold PySem.W.hasDictIn at this
    obtain ⟨cd, e, _⟩ := PySem.W.any_some this
    rw [e] <;> rfl
  exact PySem.W.kitx_exc hc EC.hg EC.hk EC.hs EC.ha EC.hn EC.ht EC.hm
theorem call_isH {X : Cx} : CallR X (.builtin "isinstance") (rIsH X.K) := by
  intro pins s σ H xs us Q I r h
  obtain ⟨a, C, c, cv, b, rfl, he, EC, hc, hb, q⟩ := h
  cases r with
  | cons r1 r =>
    cases r with
    | cons r2 r =>
      cases r
      obtain rfl : _ = Value.ref a := r1
      obtain rfl := hc _ r2
      obtain ⟨ox, od, J⟩ : ∃ ox od, PySem.W.InstAt s.heap a ox C od := by
        rcases he with he | ⟨f, v, he⟩
        · exact he.inst I
        · exact he.inst I
      exact PySem.W.kia_one (kitx_any EC) I.kIn J hb (by intro z; cases z) fun tk => ⟨.bl b, H, I.tok _, rfl, q⟩
/-- isinstance of the error that is handled, with no dict of its own -/
def rIsPin (K : PySem.W.Frag) (a : Addr) (cls : Value) (d : Option Addr) : List V → Hp → VK → Prop := fun xs H Q => ∃ (C : Addr) (c : V) (cv : Value) (b : Bool), xs = [.ref a, c] ∧ cls = .ref C ∧ d = none ∧ ExcC K C ∧ (∀ u, RelV c u → u = cv) ∧ PySem.W.kitOne K (.ref C) cv = some b ∧ Q (.bl b) H
theorem call_isPin {X : Cx} {a : Addr} {oe : Obj} {cls : Value} {d : Option Addr} {pn : List (Addr × Obj)} (hz : Zc cls d oe) (hf : ∃ vs, oe.data = .fields vs) : CallR (X.suite a ((a, oe) :: pn)) (.builtin "isinstance") (rIsPin X.K a cls d) := by
  intro pins s σ H xs us Q I r h
  obtain ⟨C, c, cv, b, rfl, rfl, rfl, EC, hc, hb, q⟩ := h
  exact call_isE EC hz hf pins s σ H _ us Q I r ⟨c, cv, b, rfl, hc, hb, q⟩
/-- str of an error that is held, by its class's own __str__ -/
def rStrH (K : PySem.W.Frag) (C : Addr) (sp : Sp) : List V → Hp → VK → Prop := fun xs H Q => ∃ (a : Addr), xs = [.ref a] ∧ (ErrP H a C ∨ ∃ f v, ErrK H a C f v) ∧ sp [.ref a] H (fun v H' => ∃ t, v = .str t ∧ Q (.str t) H') (fun _ _ _ => False)
theorem call_strH {X : Cx} {k j : Nat} {C f : Addr} {fd : FuncData} {p : Str} {sp : Sp} (F : GFn X.prog X.w X.K X.mg X.base CX0 k f fd [p] sp) (hr : RoomG j X.A) (hk : k < j) (hb : Binds X.K fd [p] [])
    (hi : PySem.W.findIn X.K (.ref C) "__str__" = some (some (.ref f))) (hf : PySem.W.isFn X.K (.ref f) = true) : CallR X (.type "str") (rStrH X.K C sp) := by
  intro pins s σ H xs us Q I r h
  obtain ⟨a, rfl, he, h⟩ := h
  have r0 := r
  cases r with
  | cons r1 r =>
    cases r
    obtain rfl : _ = Value.ref a := r1
    obtain ⟨ox, od, J⟩ : ∃ ox od, PySem.W.InstAt s.heap a ox C od := by
      rcases he with he | ⟨f, v, he⟩
      · exact he.inst I
      · exact he.inst I
    have hu := hr.room.un
    have hlt : X.A.in1.in1.units < cLine := by show X.A.units + 1 + 1 < cLine; omega
    refine PySem.W.kso_call hlt I.kIn J hi hf ?_
    have e0 : Env0 X.prog X.w X.K X.mg X.base X.A.in1.in1 X.stack s H := { I.env0 with frames := I.env0.frames }
    have hr' : RoomG k X.A.in1.in1 := by
      refine ⟨⟨hr.room.hd, ?_, ?_⟩, hr.bare⟩
      · have := hr.room.dp
        show X.A.depth + 3 * k + 5 < recursionLimit
        omega
      · show X.A.units + 1 + 1 + 16 * k + 200 < cLine
        omega
    have bnd := hb s [.ref a] I.kIn rfl
    refine wpAny_call (codeAny_mono (F.run X.A.in1.in1 X.stack s H ⟨[.ref a], []⟩ [.ref a] _ _ _ hr' e0 bnd r0 h) ?_)
    intro r s' hq
    cases r with
    | error e => exact hq.elim
    | ok fl =>
      cases fl with
      | ret u =>
        obtain ⟨v, H', J', rv, t, ev, q⟩ := I.after hq
        subst ev
        obtain ⟨tk, rfl⟩ := rv
        exact ⟨.str t, H', J', ⟨tk, rfl⟩, q⟩
      | next => exact False.elim hq
      | brk => exact False.elim hq
      | cont => exact False.elim hq
/-! ### the classes of errors that a text has -/
/-- a class without an __init__ of its own -/
structure PlainE (K : PySem.W.Frag) (mg : Str → Option Value) (x : Str) (C : Addr) : Prop where
  gC : mg x = some (.ref C)
  ex : ∃ B newId initId bmB, ExcBaseFacts B newId initId bmB ∧ PySem.W.excIn K C bmB newId = true
  kC : PySem.W.keepIn K (.ref C) = true
  exC : PySem.W.subIn K (.ref C) (.type "BaseException") = some true
  tyC : PySem.W.typeIn K (.ref C) = some (.type "type")
/-- a class whose __init__ keeps one value -/
structure KeptE (K : PySem.W.Frag) (mg : Str → Option Value) (x : Str) (C fI : Addr) (f : Str) : Prop where
  kept : Kept K mg x C fI f
theorem KeptE.gC {K : PySem.W.Frag} {mg : Str → Option Value} {x : Str} {C fI : Addr} {f : Str} (k : KeptE K mg x C fI f) : mg x = some (.ref C) := k.kept.gC
theorem pe_plain {X : Cx} {C : Addr} {x : Str} {e : Expr} {ta : TE} {p pos : Pos} (P : PlainE X.K X.mg x C) (hg : Gl X x) (he : PE X e ta) (hs : starEach [e] X.env = (false, eval e X.env) :: starEach [] X.env := by rfl) (hd : (x == ("__debug__" : Str)) = false := by decide) :
    PE X (.Call (.Name x p) [e] [] pos) (fun σ H Q => ta σ H fun _ H1 => ∀ (a : Addr), H1 a = none → Q (.ref a) (upd H1 a (ExO (.ref C) a))) := by
  obtain ⟨B, newId, initId, bmB, F, q⟩ := P.ex
  exact pe_exc1 F q P.gC P.kC hg he hs hd
theorem pmk_plain {X : Cx} {C : Addr} {x : Str} {e : Expr} {ta : TE} {p pos : Pos} (P : PlainE X.K X.mg x C) (hg : Gl X x) (he : PE X e ta) (hs : starEach [e] X.env = (false, eval e X.env) :: starEach [] X.env := by rfl) (hd : (x == ("__debug__" : Str)) = false := by decide) :
    PMk X (.Call (.Name x p) [e] [] pos) (fun σ H Q => ta σ H fun _ H1 => Q (.ref C) none H1) := by
  obtain ⟨B, newId, initId, bmB, F, q⟩ := P.ex
  exact SkE.pmk_own1 F q P.gC P.kC (raises_own P.exC P.tyC) hg he hs hd
theorem nmE {X : Cx} {x : Str} {C : Addr} (gC : X.mg x = some (.ref C)) (hg : Gl X x) (hd : (x == ("__debug__" : Str)) = false := by decide) : Names X x (.ref C) := ⟨hg, hd, .inl gC⟩
section
variable {X : Cx} {CX : CXT} {k j : Nat} {f : Addr} {fd : FuncData} {ps : List Str} {sp : Sp} {E : L2.St → XK} {x : Str} {p pos : Pos} {e : Expr} {es : List Expr} {t : TA}
/-- a call of a def that may raise, within a try -/
theorem pe_gS (c : Gc X.prog X.w X.K X.mg X.base CX k x sp) (hr : RoomG j X.A) (hk : k ≤ j) (hg : Gl X x) (hx : ∀ σ, PassesAt CX X σ (E σ)) (ha : PA X (e :: es) t)
    (hdb : (x == ("__debug__" : Str)) = false := by decide) (he : starEach (e :: es) X.env = (false, eval e X.env) :: starEach es X.env := by rfl)
    (hpl : (backTo pos (starEach es X.env)).any (·.1) = false := by rfl) :
    PE X (.Call (.Name x p) (e :: es) [] pos) (tCallS sp E t) := by
  obtain ⟨f, fd, ps, F, hm, kp, b⟩ := c.ex
  refine ⟨fun pins s σ H Q I h => ?_⟩
  refine wpAny_Call_Name_kw (ld_glob I hg hm ?_ hdb)
  refine PySem.W.callWith_K (h₀ := X.base) I.ok.mod.kin kp (thn (ha.run pos pins s σ H _ I h) fun us s1 hh => ?_) he hpl
  obtain ⟨vs, H1, I1, r, q⟩ := hh
  refine ⟨I1.kIn, ?_⟩
  have hl : (us ++ ([] : List Value)).length = ps.length := by
    rw [List.append_nil, ← r.length]; exact F.len _ _ _ _ q
  have bnd := b s1 us I1.kIn hl
  rw [List.append_nil] at bnd
  refine wpAny_call (codeAny_mono (F.run X.A X.stack s1 H1 ⟨us, []⟩ us vs Q (E σ) (hr.mono hk) I1.env0 bnd r q) ?_)
  intro r s' hq
  cases r with
  | error e => exact hx σ pins H1 s1 e s' I1 hq
  | ok fl =>
    cases fl with
    | ret u => exact I1.after hq
    | next => exact False.elim hq
    | brk => exact False.elim hq
    | cont => exact False.elim hq
end
/-- which of some classes a class is under -/
theorem any_of {K : PySem.W.Frag} {cls c : Value} {r : List Value} {b d : Bool} (h : PySem.W.exmOne K cls c = some b) (hr : PySem.W.exmAny K cls r = some d) : PySem.W.exmAny K cls (c :: r) = some (b || d) := by
  simp [PySem.W.exmAny, h, hr]
theorem any_nil {K : PySem.W.Frag} {cls : Value} : PySem.W.exmAny K cls [] = some false := rfl
theorem mt_indexK {X : Cx} {K : PySem.W.Frag} (h : X.K = K) : MtR X "list.index" (rIndex K) := by subst h; exact mt_index
end Wk
set_option linter.all false
set_option maxRecDepth 100000
set_option maxHeartbeats 2000000
/-! which classes of errors stand below which -/
open PySem
namespace Wk
open PySem PySem.Spec PyProof.Rows L2
theorem is_some_of {K : PySem.W.Frag} {C : Addr} (h : PySem.W.hasDictIn K C = true) : (PySem.W.clsIn K C).isSome = true := by
  unfold PySem.W.hasDictIn at h
  obtain ⟨cd, e, _⟩ := PySem.W.any_some h
  rw [e] <;> rfl
theorem kitc_sub {K : PySem.W.Frag} {t : Value} {C2 : Addr} {b : Bool} (hd : PySem.W.hasDictIn K C2 = true) (tc : PySem.W.typeIn K (.ref C2) = some (.type "type")) (s : PySem.W.subIn K t (.ref C2) = some b) : PySem.W.kitCls K t (.ref C2) = some b := by
  have e2 : ((PySem.W.clsIn K C2).isSome && PySem.W.typeIn K (.ref C2) == some (.type "type")) = true := by rw [is_some_of hd, tc] <;> rfl
  show (if ((PySem.W.clsIn K C2).isSome && PySem.W.typeIn K (.ref C2) == some (.type "type")) = true then PySem.W.subIn K t (.ref C2) else none) = some b
  rw [if_pos e2]
  exact s
theorem exm_sub {K : PySem.W.Frag} {t : Value} {C2 : Addr} {b : Bool} (ec : PySem.W.subIn K (.ref C2) (.type "BaseException") = some true) (hd : PySem.W.hasDictIn K C2 = true) (tc : PySem.W.typeIn K (.ref C2) = some (.type "type")) (s : PySem.W.subIn K t (.ref C2) = some b) : PySem.W.exmOne K t (.ref C2) = some b := by
  have e1 : (PySem.W.subIn K (.ref C2) (.type "BaseException") == some true) = true := by rw [ec] <;> rfl
  show (if (PySem.W.subIn K (.ref C2) (.type "BaseException") == some true) = true then PySem.W.kitCls K t (.ref C2) else none) = some b
  rw [if_pos e1]
  exact kitc_sub hd tc s
theorem kit_sub {K : PySem.W.Frag} {C1 C2 : Addr} {b : Bool} (hd : PySem.W.hasDictIn K C2 = true) (tc : PySem.W.typeIn K (.ref C2) = some (.type "type")) (s : PySem.W.subIn K (.ref C1) (.ref C2) = some b) (s0 : PySem.W.subIn K (.ref C1) (.ref C1) = some true) : PySem.W.kitOne K (.ref C1) (.ref C2) = some b := by
  show (if (Value.ref C1 == Value.ref C2) = true then some true else PySem.W.kitCls K (.ref C1) (.ref C2)) = some b
  by_cases z : C1 = C2
  · rw [if_pos (by rw [z]; simp)]
    rw [← z, s0] at s
    exact s
  · rw [if_neg (by simpa using z)]
    exact kitc_sub hd tc s
theorem kit_ty {K : PySem.W.Frag} {C1 : Addr} {T : String} {b : Bool} (hm : PySem.W.kitMeta T = true) (s : PySem.W.subIn K (.ref C1) (.type T) = some b) : PySem.W.kitOne K (.ref C1) (.type T) = some b := by
  show (if (Value.ref C1 == Value.type T) = true then some true else if PySem.W.kitMeta T = true then PySem.W.subIn K (.ref C1) (.type T) else none) = some b
  rw [if_neg (by simp), if_pos hm]
  exact s
theorem over_of {K : PySem.W.Frag} {nm q : Str} {C N : Addr} {bs bm bmB : List Value} {hdct : Bool} {sn : List Str} {sub : List Value} {ab : Bool} {col : Option Bool} {dd : Option Addr} {k0 k1 k2 k3 k5 : Option Value} {newId : String}
    (hC : K.lookup C = some (excClassObj nm q C N bs bm hdct sn sub ab col dd k0 k1 k2 k3 k5 newId)) (ht : PySem.W.excTail bmB bm = true) : PySem.W.excOver K C bmB = true := by
  have hcl : PySem.W.clsIn K C = some { name := nm, bases := bs, mro := .ref C :: bm, ns := N, qualname := q, hasDict := hdct, slotNames := sn, subclasses := sub, abstract := ab, collection := col, hasDel := false } := by unfold PySem.W.clsIn; rw [hC] <;> rfl
  unfold PySem.W.excOver
  rw [hcl]
  show (C == C && PySem.W.excTail bmB bm) = true
  rw [ht]
  simp
end Wk
set_option linter.all false
set_option maxRecDepth 100000
set_option maxHeartbeats 2000000
/-! repr of data, or of a dict with nothing in it -/
namespace Wk
open PySem PySem.Spec PyProof.Rows L2
/-- what repr tells of a value -/
def Shows (K : PySem.W.Frag) (H : Hp) (x : V) (t : Str) : Prop :=
  (∃ d, Dp K H x d ∧ d.showable = true ∧ d.depth ≤ 60 ∧ d.shown.length ≤ sizeLine ∧ t = d.shown) ∨ (∃ a, x = .ref a ∧ H a = some (.dK []) ∧ t = (PyData.dict []).shown)
def rShows (K : PySem.W.Frag) : List V → Hp → VK → Prop := fun xs H Q => ∃ x t, xs = [x] ∧ Shows K H x t ∧ Q (.str t) H
theorem call_shows {X : Cx} {k : Nat} (hr : RoomG k X.A) : CallR X (.builtin "repr") (rShows X.K) := by
  intro pins s σ H xs us Q I r h
  obtain ⟨x, t, rfl, hs, q⟩ := h
  rcases hs with ⟨d, hd, h1, h2, h3, rfl⟩ | ⟨a, rfl, ha, rfl⟩
  · exact call_reprD hr pins s σ H _ us Q I r ⟨x, d, rfl, hd, h1, h2, h3, q⟩
  · obtain ⟨u, rfl, ru⟩ := vals1 r
    obtain rfl : u = Value.ref a := ru
    have hun := hr.room.un
    obtain ⟨_, hsm, vs, hkv, o, es, ep, ho, hex, hdat, hko, hpr, _⟩ := I.hok a _ ha
    cases hkv
    have he : es.toList = [] := by
      cases e : es.toList with
      | nil => rfl
      | cons x l => rw [e] at hpr; cases hpr
    have rd : Reads s.heap (.ref a) (.dict []) (a :: [] ++ []) := by
      refine .dict ho hex.1 hdat ?_ ?_
      · rw [he]; exact .nil
      · rw [he]; exact .nil
    refine repr_of_reads' rd ?_ (fun _ => ?_) hr.bare ?_ (fun b o e => e) (fun h' u tk kp => ⟨.str _, H, I.kept (t' := tk) kp, ⟨_, rfl⟩, q⟩) ?_
    · simp [PyData.showable, PyData.showableKv]
    · simp at hsm
      simp
      exact fun e => hsm e.symm
    · simp [PyData.depth, PyData.depthKv]
      omega
    · simp [PyData.shown, PyData.shownKv]
      decide +kernel
theorem call_showsK {X : Cx} {K : PySem.W.Frag} {k : Nat} (e : X.K = K) (hr : RoomG k X.A) : CallR X (.builtin "repr") (rShows K) := by subst e; exact call_shows hr
end Wk
set_option linter.all false
set_option maxRecDepth 100000
set_option maxHeartbeats 2000000
/-! range(n), list of it -/
namespace Wk
open PySem PySem.Spec PyProof.Rows L2
theorem cr_range1 {X : Cx} : CallR X (.type "range") (fun vs H Q => ∃ j, vs = [V.int j] ∧ ∀ p, H p = none → Q (.ref p) (upd H p (.rng 0 j))) := by
  intro pins s σ H vs us Q I r h
  obtain ⟨j, rfl, q⟩ := h
  obtain ⟨u, rfl, ru⟩ := vals1 r
  obtain ⟨t, rfl⟩ := ru
  refine call_range_1 ?_
  exact ⟨.ref s.heap.objs.size, _, I.laid (o := .rng 0 j) (fun b o e => Heap.get?_push_of_some _ e) (Nat.le_refl _) ⟨_, _, _, Heap.get?_push_size s.heap rfl⟩, rfl, q _ (I.hok.fresh (Nat.le_refl _))⟩
def rListRng : List V → Hp → VK → Prop := fun xs H Q => ∃ (r : Addr) (n : Nat), xs = [.ref r] ∧ H r = some (.rng 0 n) ∧ n ≤ 1000 ∧ Builtin.Range.small 0 n 1 = true ∧ Builtin.Range.rangeSize 0 n 1 = (n : Int) ∧
  ∀ l, H l = none → Q (.ref l) (upd H l (.lst ((List.range n).map fun i : Nat => V.int (i : Int))))
theorem call_listRng {X : Cx} (hc : X.calm = true) : CallR X (.type "list") rListRng := by
  intro pins s σ H xs us Q I r h
  obtain ⟨ra, n, rfl, hr, hn, h1, h2, q⟩ := h
  obtain ⟨u, rfl, ru⟩ := vals1 r
  obtain rfl : u = Value.ref ra := ru
  obtain ⟨t, u, v, ho⟩ : ∃ t u v, s.heap.get? ra = some { cls := .type "range", data := .fields #[.int 0 t, .int n u, .int 1 v] } := I.hok ra _ hr
  have isr : IsRange s.heap ra 0 n 1 t u v := ho
  refine call_list_range (I.ok.hd hc) isr h1 h2 (Nat.le_trans hn (by decide)) (fun h' tk acc c kp e items => ?_)
  obtain ⟨n1, n2⟩ := items
  have rv : Vals ((List.range n).map fun i : Nat => V.int (i : Int)) acc.toList := by
    have ex : ∀ (m k : Nat) (us : List Value), us.length = m → (∀ (i : Nat) (v : Value), us[i]? = some v → ∃ t, v = .int (0 + ((k + i : Nat) : Int) * 1) t) → Vals ((List.range' k m).map fun i : Nat => V.int (i : Int)) us := by
      intro m
      induction m with
      | zero =>
        intro k us hl _
        cases us with
        | nil => exact .nil
        | cons a b => cases hl
      | succ m ih =>
        intro k us hl hh
        cases us with
        | nil => cases hl
        | cons a b =>
          obtain ⟨t, ev⟩ := hh 0 a rfl
          refine .cons ⟨t, ?_⟩ (ih (k + 1) b (Nat.succ.inj hl) fun i v h1 => ?_)
          · rw [ev]
            simp
          · obtain ⟨t, ev⟩ := hh (i + 1) v (by simpa using h1)
            exact ⟨t, by rw [ev, show k + (i + 1) = k + 1 + i by omega]⟩
    rw [List.range_eq_range']
    refine ex n 0 acc.toList (by rw [Array.length_toList]; exact n1) ?_
    intro i v h3
    have hi : acc[i]? = some v := by rw [← Array.getElem?_toList]; exact h3
    have z := n2 i v hi
    rw [Nat.zero_add]
    exact z
  refine ⟨.ref s.heap.objs.size, _, I.laid (t' := tk) (o := .lst ((List.range n).map fun i : Nat => V.int (i : Int))) kp (Nat.le_refl _) ?_, rfl, q _ (I.hok.fresh (Nat.le_refl _))⟩
  refine ⟨?_, acc.toList, c, rv, by simpa using e⟩
  rw [List.length_map, List.length_range]
  exact Nat.le_trans hn (by decide)
end Wk
set_option Elab.async false
set_option linter.all false
set_option maxRecDepth 100000
/-! the text -/
namespace K01
open PySem PySem.Spec PyProof.Rows L2 Wk
def topS (i : Nat) : Stmt := PySem.Challenge.pw_whichwalks_k01_whole_errors.main.body.getD i (.Pass ⟨0, 0, 0, 0⟩)
abbrev s_L_mill : Stmt := topS 16
abbrev NN_L_mill : List Str := ["_law_script", "_law_at", "_law_cell", "_law_great", "_law_mixed"]
abbrev PP_L_mill : List Str := ["_law_script", "_law_at"]
theorem sc_L_mill : FnScope NN_L_mill PP_L_mill (defScope s_L_mill) := ⟨rfl, rfl, rfl, by decide +kernel, rfl, by decide +kernel, by decide +kernel⟩
abbrev s_L_grain : Stmt := topS 17
abbrev NN_L_grain : List Str := ["_law_mill_here", "_law_total", "_law_found", "_law_one", "_law_two"]
abbrev PP_L_grain : List Str := ["_law_mill_here", "_law_total"]
theorem sc_L_grain : FnScope NN_L_grain PP_L_grain (defScope s_L_grain) := ⟨rfl, rfl, rfl, by decide +kernel, rfl, by decide +kernel, by decide +kernel⟩
abbrev s_L_one_of : Stmt := topS 18
abbrev NN_L_one_of : List Str := ["_law_mill_here", "_law_items"]
abbrev PP_L_one_of : List Str := ["_law_mill_here", "_law_items"]
theorem sc_L_one_of : FnScope NN_L_one_of PP_L_one_of (defScope s_L_one_of) := ⟨rfl, rfl, rfl, by decide +kernel, rfl, by decide +kernel, by decide +kernel⟩
abbrev s_L_order : Stmt := topS 19
abbrev NN_L_order : List Str := ["_law_mill_here", "_law_items", "_law_waits", "_law_turn"]
abbrev PP_L_order : List Str := ["_law_mill_here", "_law_items"]
theorem sc_L_order : FnScope NN_L_order PP_L_order (defScope s_L_order) := ⟨rfl, rfl, rfl, by decide +kernel, rfl, by decide +kernel, by decide +kernel⟩
abbrev s_L_letter : Stmt := topS 20
abbrev NN_L_letter : List Str := ["_law_mill_here"]
abbrev PP_L_letter : List Str := ["_law_mill_here"]
theorem sc_L_letter : FnScope NN_L_letter PP_L_letter (defScope s_L_letter) := ⟨rfl, rfl, rfl, by decide +kernel, rfl, by decide +kernel, by decide +kernel⟩
abbrev s_L_made : Stmt := topS 21
abbrev NN_L_made : List Str := ["_law_lot", "_law_value_here"]
abbrev PP_L_made : List Str := ["_law_lot", "_law_value_here"]
theorem sc_L_made : FnScope NN_L_made PP_L_made (defScope s_L_made) := ⟨rfl, rfl, rfl, by decide +kernel, rfl, by decide +kernel, by decide +kernel⟩
abbrev s_L_made_plain : Stmt := topS 22
abbrev NN_L_made_plain : List Str := ["_law_lot", "_law_value_here"]
abbrev PP_L_made_plain : List Str := ["_law_lot", "_law_value_here"]
theorem sc_L_made_plain : FnScope NN_L_made_plain PP_L_made_plain (defScope s_L_made_plain) := ⟨rfl, rfl, rfl, by decide +kernel, rfl, by decide +kernel, by decide +kernel⟩
abbrev s_L_classes : Stmt := topS 23
abbrev NN_L_classes : List Str := ["_law_error", "_law_first", "_law_last"]
abbrev PP_L_classes : List Str := ["_law_error"]
theorem sc_L_classes : FnScope NN_L_classes PP_L_classes (defScope s_L_classes) := ⟨rfl, rfl, rfl, by decide +kernel, rfl, by decide +kernel, by decide +kernel⟩
abbrev s_L_bases : Stmt := topS 24
abbrev NN_L_bases : List Str := ["_law_error", "_law_found"]
abbrev PP_L_bases : List Str := ["_law_error"]
theorem sc_L_bases : FnScope NN_L_bases PP_L_bases (defScope s_L_bases) := ⟨rfl, rfl, rfl, by decide +kernel, rfl, by decide +kernel, by decide +kernel⟩
abbrev s_L_due : Stmt := topS 25
abbrev NN_L_due : List Str := ["_law_lot", "_law_own", "_law_at", "_law_some"]
abbrev PP_L_due : List Str := ["_law_lot"]
theorem sc_L_due : FnScope NN_L_due PP_L_due (defScope s_L_due) := ⟨rfl, rfl, rfl, by decide +kernel, rfl, by decide +kernel, by decide +kernel⟩
abbrev s_L_is_kept : Stmt := topS 26
abbrev NN_L_is_kept : List Str := ["_law_lot", "_law_error", "_law_value_here"]
abbrev PP_L_is_kept : List Str := ["_law_lot", "_law_error", "_law_value_here"]
theorem sc_L_is_kept : FnScope NN_L_is_kept PP_L_is_kept (defScope s_L_is_kept) := ⟨rfl, rfl, rfl, by decide +kernel, rfl, by decide +kernel, by decide +kernel⟩
abbrev s_L_raised : Stmt := topS 27
abbrev NN_L_raised : List Str := ["_law_lot", "_law_value_here"]
abbrev PP_L_raised : List Str := ["_law_lot", "_law_value_here"]
theorem sc_L_raised : FnScope NN_L_raised PP_L_raised (defScope s_L_raised) := ⟨rfl, rfl, rfl, by decide +kernel, rfl, by decide +kernel, by decide +kernel⟩
abbrev s_L_caught : Stmt := topS 28
abbrev NN_L_caught : List Str := ["_law_lot", "_law_value_here", "_law_error"]
abbrev PP_L_caught : List Str := ["_law_lot", "_law_value_here"]
theorem sc_L_caught : FnScope NN_L_caught PP_L_caught (defScope s_L_caught) := ⟨rfl, rfl, rfl, by decide +kernel, rfl, by decide +kernel, by decide +kernel⟩
abbrev s_L_is_caught_by_base : Stmt := topS 29
abbrev NN_L_is_caught_by_base : List Str := ["_law_lot", "_law_value_here"]
abbrev PP_L_is_caught_by_base : List Str := ["_law_lot", "_law_value_here"]
theorem sc_L_is_caught_by_base : FnScope NN_L_is_caught_by_base PP_L_is_caught_by_base (defScope s_L_is_caught_by_base) := ⟨rfl, rfl, rfl, by decide +kernel, rfl, by decide +kernel, by decide +kernel⟩
abbrev s_L_value : Stmt := topS 30
abbrev NN_L_value : List Str := ["_law_mill_here", "_law_lot", "_law_at", "_law_number", "_law_odd"]
abbrev PP_L_value : List Str := ["_law_mill_here", "_law_lot"]
theorem sc_L_value : FnScope NN_L_value PP_L_value (defScope s_L_value) := ⟨rfl, rfl, rfl, by decide +kernel, rfl, by decide +kernel, by decide +kernel⟩
abbrev s_L_cell_right : Stmt := topS 31
abbrev NN_L_cell_right : List Str := ["_law_mill_here", "_law_made_here", "_law_lot", "_law_value_here", "_law_error"]
abbrev PP_L_cell_right : List Str := ["_law_mill_here"]
theorem sc_L_cell_right : FnScope NN_L_cell_right PP_L_cell_right (defScope s_L_cell_right) := ⟨rfl, rfl, rfl, by decide +kernel, rfl, by decide +kernel, by decide +kernel⟩
abbrev s_law : Stmt := topS 32
abbrev NN_law : List Str := ["_law_script", "_law_at"]
abbrev PP_law : List Str := ["_law_script"]
theorem sc_law : FnScope NN_law PP_law (defScope s_law) := ⟨rfl, rfl, rfl, by decide +kernel, rfl, by decide +kernel, by decide +kernel⟩
structure Txt (mg : Str → Option Value) : Prop where
  ArithmeticError : mg "ArithmeticError" = none
  IndexError : mg "IndexError" = none
  KeyError : mg "KeyError" = none
  LookupError : mg "LookupError" = none
  OverflowError : mg "OverflowError" = none
  ValueError : mg "ValueError" = none
  ZeroDivisionError : mg "ZeroDivisionError" = none
  abs : mg "abs" = none
  int : mg "int" = none
  isinstance : mg "isinstance" = none
  len : mg "len" = none
  list : mg "list" = none
  max : mg "max" = none
  min : mg "min" = none
  range : mg "range" = none
  repr : mg "repr" = none
  str : mg "str" = none
end K01
set_option Elab.async false
set_option linter.all false
set_option maxRecDepth 100000
set_option maxHeartbeats 4000000
/-! the mill -/
namespace K01
open PySem PySem.Spec PyProof.Rows L2 Wk
section
variable {P : Program} {w : World} {K : PySem.W.Frag} {mg : Str → Option Value} {base : Heap}

theorem lg {t : Int} (h0 : 0 < t) (h1 : t < 1267650600228229401496703205376) : t.natAbs.log2 < 9000 := by
  have h2 : t.natAbs ≠ 0 := by omega
  have h3 : t.natAbs < 2 ^ 100 := by
    have : (2 : Nat) ^ 100 = 1267650600228229401496703205376 := by decide
    omega
  exact Nat.lt_trans ((Nat.log2_lt h2).mpr h3) (by decide)
theorem pj {i j : Int} (h : 0 < j) : (fun _ j : Int => 0 < j) i j := h
def spGrain : Sp := fun vs H Q _ => ∃ (m : Addr) (t : Int), vs = [.ref m, .int t] ∧ Ml H m ∧ 0 < t ∧ t < 1267650600228229401496703205376 ∧
  ∀ H' r, Kp m H H' → 0 ≤ r → r < t → Q (.int r) H'

theorem ok_L_grain (D : DefAt K mg "_law_grain" s_L_grain) (M : Txt mg) : Gc P w K mg base CX0 1 "_law_grain" spGrain := by
  refine D.ok0 sc_L_grain (fun kV doc pm an cdv ct us hl => match us, hl with | [_, _], _ => rfl) (fun vs H Q E h => by obtain ⟨m, t, rfl, _⟩ := h; rfl)
    (fun f cdv A outer s H vs Q E hr h => ?_)
  have nd := sc_L_grain.nd
  obtain ⟨m, t, rfl, ml, t0, t1, q⟩ := h
  refine ⟨_, (pss_cons (ps_if (pt_cmpR op_gt (pe_ix (ix_listK (K := K) rfl) (pv 0) pe_int (fun _ _ => rfl)) pe_int (nomark _))
      (pss_cons (ps_set (i := 2) nd rfl (Or.inl rfl) (pe_op op_mod (pe_callTy call_int1 (by rfl) M.int (by decide +kernel) (pa_cons (pe_ix (ix_listK (K := K) rfl) (pv 0) pe_int (fun _ _ => rfl)) pa_nil)) (pv 1)))
      (pss_cons (ps_asg (pe_op op_fdivW (pe_ix (ix_listK (K := K) rfl) (pv 0) pe_int (fun _ _ => rfl)) (pv 1)) (pg_sub (pv 0) pe_int set_list))
      (pss_one (ps_ret (pv 2))))) pss_nil)
      (pss_cons (ps_asg (pe_op op_add (pe_ix (ix_listK (K := K) rfl) (pv 0) pe_int (fun _ _ => rfl)) pe_int) (pg_sub (pv 0) pe_int set_list))
      (pss_cons (ps_set (i := 3) nd rfl (Or.inl rfl) (pe_op op_mod (pe_callTy call_int1 (by rfl) M.int (by decide +kernel) (pa_cons (pe_op op_add (pe_ix (ix_listK (K := K) rfl) (pv 0) pe_int (fun _ _ => rfl)) (pe_op op_mul pe_int (pe_ix (ix_listK (K := K) rfl) (pv 0) pe_int (fun _ _ => rfl)))) pa_nil)) pe_int))
      (pss_cons (ps_set (i := 4) nd rfl (Or.inl rfl) (pe_op op_add (pe_op op_mul (pe_op op_mod (pe_callTy call_int1 (by rfl) M.int (by decide +kernel) (pa_cons (pe_op op_mul (pv 3) (pv 3)) pa_nil)) pe_int) (pv 3)) (pe_op op_mul pe_int (pe_ix (ix_listK (K := K) rfl) (pv 0) pe_int (fun _ _ => rfl)))))
      (pss_one (ps_ret (pe_op op_mod (pe_callTy call_int1 (by rfl) M.int (by decide +kernel) (pa_cons (pe_op op_fdiv (pe_op op_mod (pe_callTy call_int1 (by rfl) M.int (by decide +kernel) (pa_cons (pv 4) pa_nil)) pe_int) pe_int) pa_nil)) (pv 1)))))))), ?_⟩
  obtain ⟨x, y, z, hm, x0⟩ := ml
  have at0 : ∀ {x y z : Int}, atI [V.int x, V.int y, V.int z] 0 = some (.int x) := fun {x y z} => atI_nat (j := 0) rfl
  have at1 : ∀ {x y z : Int}, atI [V.int x, V.int y, V.int z] 1 = some (.int y) := fun {x y z} => atI_nat (j := 1) rfl
  have at2 : ∀ {x y z : Int}, atI [V.int x, V.int y, V.int z] 2 = some (.int z) := fun {x y z} => atI_nat (j := 2) rfl
  have ml : Ml H m := ⟨x, y, z, hm, x0⟩
  -- if mill[0] > 0
  refine ⟨_, rfl, _, _, _, _, rfl, rfl, .inl (.inl hm), at0, _, _, rfl, rfl, _, rfl, ?_⟩
  by_cases hx : (0 : Int) < x
  · rw [decide_eq_true hx]
    refine iteT ?_
    refine ⟨_, rfl, _, _, _, _, rfl, rfl, .inl (.inl hm), at0, .inl ⟨_, rfl, ?_⟩⟩
    refine ⟨_, rfl, _, _, rfl, rfl, t0, ?_⟩
    -- mill[0] = mill[0] // total
    refine ⟨_, rfl, _, _, _, _, rfl, rfl, .inl (.inl hm), at0, _, rfl, _, _, rfl, rfl, ⟨t0, lg t0 t1⟩, ?_⟩
    refine ⟨_, rfl, _, _, _, 0, rfl, rfl, hm, rfl, _, rfl, ?_⟩
    exact q _ _ ((Kp.refl ml).turn (Int.ediv_nonneg (Int.le_of_lt hx) (Int.le_of_lt t0))) (Int.emod_nonneg _ (by omega)) (Int.emod_lt_of_pos _ t0)
  · rw [decide_eq_false hx]
    refine iteF ?_
    -- mill[2] = mill[2] + 1
    refine ⟨_, rfl, _, _, _, _, rfl, rfl, .inl (.inl hm), at2, _, _, rfl, rfl, ?_⟩
    refine ⟨_, rfl, _, _, _, 2, rfl, rfl, hm, rfl, ?_⟩
    have hm1 : upd H m (.lst ([V.int x, V.int y, V.int z].set 2 (.int (z + 1)))) m = some (.lst [.int x, .int y, .int (z + 1)]) := upd_same
    have k1 : Kp m H (upd H m (.lst ([V.int x, V.int y, V.int z].set 2 (.int (z + 1))))) := (Kp.refl ml).turn x0
    -- one = ..
    refine ⟨_, rfl, _, _, _, _, rfl, rfl, .inl (.inl hm1), at1, _, rfl, _, _, _, _, rfl, rfl, .inl (.inl hm1), at2, _, _, rfl, rfl, .inl (by decide), _, _, rfl, rfl, ?_⟩
    refine .inl ⟨_, rfl, _, _, rfl, rfl, pj (i := 0) (by decide), ?_⟩
    generalize e1 : ((y + 1000381 * (z + 1)) % 2305843009213693951 : Int) = one
    have b1 : 0 ≤ one ∧ one < 2305843009213693951 := by
      rw [← e1]
      exact ⟨Int.emod_nonneg _ (by decide), Int.emod_lt_of_pos _ (by decide)⟩
    -- two = ..
    refine ⟨_, rfl, _, rfl, _, _, rfl, rfl, .inl (by omega), .inl ⟨_, rfl, _, _, rfl, rfl, pj (i := 0) (by decide), ?_⟩⟩
    refine ⟨_, rfl, _, _, rfl, rfl, .inr (by omega), ?_⟩
    refine ⟨_, rfl, _, _, _, _, rfl, rfl, .inl (.inl hm1), at2, _, _, rfl, rfl, .inl (by decide), _, _, rfl, rfl, ?_⟩
    -- return
    refine ⟨_, rfl, .inl ⟨_, rfl, _, _, rfl, rfl, pj (i := 0) (by decide), _, _, rfl, rfl, ⟨by decide, by decide⟩, .inl ⟨_, rfl, _, rfl, _, _, rfl, rfl, t0, ?_⟩⟩⟩
    exact q _ _ k1 (Int.emod_nonneg _ (by omega)) (Int.emod_lt_of_pos _ t0)

/-- an item of a list, drawn -/
def spOneOf (K : PySem.W.Frag) : Sp := fun vs H Q _ => ∃ (m l : Addr) (xs : List V), vs = [.ref m, .ref l] ∧ Ml H m ∧ l ≠ m ∧ H l = some (.lst xs) ∧ 0 < xs.length ∧ xs.length ≤ 1000 ∧
  ∀ H' v, Kp m H H' → v ∈ xs → Q v H'
theorem ok_L_one_of (D : DefAt K mg "_law_one_of" s_L_one_of) (M : Txt mg) (C_L_grain : Gc P w K mg base CX0 1 "_law_grain" spGrain) :
    Gc P w K mg base CX0 2 "_law_one_of" (spOneOf K) := by
  refine D.ok0 sc_L_one_of (fun kV doc pm an cdv ct us hl => match us, hl with | [_, _], _ => rfl) (fun vs H Q E h => by obtain ⟨m, l, xs, rfl, _⟩ := h; rfl)
    (fun f cdv A outer s H vs Q E hr h => ?_)
  have nd := sc_L_one_of.nd
  obtain ⟨m, l, xs, rfl, ml, ne, hl, l0, l1, q⟩ := h
  refine ⟨_, (pss_one (ps_ret (pe_ix (ix_listK (K := K) rfl) (pv 1) (pe_g C_L_grain hr (by decide) (by rfl) pass0 (pa_cons (pv 0) (pa_cons (pe_callB (call_len_seqK (K := K) rfl) (by rfl) M.len (by decide +kernel) (pa_cons (pv 1) pa_nil)) pa_nil))) (fun _ _ => rfl)))), ?_⟩
  refine ⟨_, rfl, _, rfl, _, rfl, _, _, rfl, .inl (.inl (.inl hl)), m, _, rfl, ml, by omega, by omega, fun H1 r k r0 r1 => ?_⟩
  obtain ⟨j, rfl⟩ := Int.eq_ofNat_of_zero_le r0
  have hj : j < xs.length := by omega
  refine ⟨_, _, _, xs[j], rfl, rfl, .inl (.inl (k.keep _ _ ne hl)), atI_nat (j := j) (List.getElem?_eq_getElem hj), ?_⟩
  exact q _ _ k (List.getElem_mem hj)

/-- a letter -/
def spLetter : Sp := fun vs H Q _ => ∃ (m : Addr), vs = [.ref m] ∧ Ml H m ∧ ∀ H' (c : Nat), Kp m H H' → 97 ≤ c → c ≤ 122 → Q (.str ⟨#[c]⟩) H'
theorem abc_at : ∀ j : Nat, j < 26 → ("abcdefghijklmnopqrstuvwxyz" : Str).cps.toList[j]? = some (97 + j) := by decide +kernel
theorem ok_L_letter (D : DefAt K mg "_law_letter" s_L_letter) (M : Txt mg) (C_L_grain : Gc P w K mg base CX0 1 "_law_grain" spGrain) :
    Gc P w K mg base CX0 2 "_law_letter" spLetter := by
  refine D.ok0 sc_L_letter (fun kV doc pm an cdv ct us hl => match us, hl with | [_], _ => rfl) (fun vs H Q E h => by obtain ⟨m, rfl, _⟩ := h; rfl)
    (fun f cdv A outer s H vs Q E hr h => ?_)
  have nd := sc_L_letter.nd
  obtain ⟨m, rfl, ml, q⟩ := h
  refine ⟨_, (pss_one (ps_ret (pe_ix ix_str pe_str (pe_g C_L_grain hr (by decide) (by rfl) pass0 (pa_cons (pv 0) (pa_cons pe_int pa_nil))) (fun _ _ => rfl)))), ?_⟩
  refine ⟨_, rfl, m, 26, rfl, ml, by decide, by decide, fun H1 r k r0 r1 => ?_⟩
  obtain ⟨j, rfl⟩ := Int.eq_ofNat_of_zero_le r0
  refine ⟨_, _, 97 + j, rfl, rfl, by decide, atI_nat (j := j) (abc_at j (by omega)), ?_⟩
  exact q _ _ k (by omega) (by omega)

/-- the mill of a cell -/
def spMill (K : PySem.W.Frag) : Sp := fun vs H Q _ => ∃ (a : Addr) (at' : Nat) (ns : List Int), vs = [.ref a, .int at'] ∧ SqL K H a (ns.map V.int) ∧ at' ≤ 1000 ∧
  ∀ p x y z, H p = none → 0 ≤ x → Q (.ref p) (upd H p (.lst [.int x, .int y, .int z]))
theorem ok_L_mill (D : DefAt K mg "_law_mill" s_L_mill) (M : Txt mg) : Gc P w K mg base CX0 1 "_law_mill" (spMill K) := by
  refine D.ok0 sc_L_mill (fun kV doc pm an cdv ct us hl => match us, hl with | [_, _], _ => rfl) (fun vs H Q E h => by obtain ⟨a, at', ns, rfl, _⟩ := h; rfl)
    (fun f cdv A outer s H vs Q E hr h => ?_)
  have nd := sc_L_mill.nd
  obtain ⟨a, at', ns, rfl, sq, small, q⟩ := h
  refine ⟨_, (pss_cons (ps_set (i := 2) nd rfl (Or.inl rfl) (pe_ifExp (pt_cmpR op_lt (pv 1) (pe_callB (call_len_seqK (K := K) rfl) (by rfl) M.len (by decide +kernel) (pa_cons (pv 0) pa_nil)) (nomark _)) (pe_ix (ix_listK (K := K) rfl) (pv 0) (pv 1) (fun _ _ => rfl)) (pe_op op_add (pe_op op_mul pe_int (pv 1)) pe_int)))
      (pss_cons (ps_set (i := 3) nd rfl (Or.inl rfl) (pe_op op_mod (pe_callTy call_int1 (by rfl) M.int (by decide +kernel) (pa_cons (pe_callB call_abs (by rfl) M.abs (by decide +kernel) (pa_cons (pv 2) pa_nil)) pa_nil)) (pe_op op_powW (pe_op op_powW pe_int pe_int) pe_int)))
      (pss_cons (ps_set (i := 4) nd rfl (Or.inl rfl) (pe_op op_add (pe_op op_add (pe_op op_add (pe_op op_mul (pe_op op_mod (pe_callTy call_int1 (by rfl) M.int (by decide +kernel) (pa_cons (pv 3) pa_nil)) pe_int) pe_int) (pe_op op_mul pe_int (pv 1))) (pe_op op_mul pe_int (pe_callTy call_int1 (by rfl) M.int (by decide +kernel) (pa_cons (pe_cmpR op_lt (pv 2) pe_int (nomark _)) pa_nil)))) pe_int))
      (pss_one (ps_ret (pe_lst (pa_cons (pe_callB (call_max2 rfl) (by rfl) M.max (by decide +kernel) (pa_cons pe_int (pa_cons (pe_op op_sub (pv 3) (pe_op op_powW pe_int pe_int)) pa_nil))) (pa_cons (pe_op op_mod (pe_callTy call_int1 (by rfl) M.int (by decide +kernel) (pa_cons (pv 4) pa_nil)) pe_int) (pa_cons pe_int pa_nil))))))))), ?_⟩
  refine ⟨_, rfl, _, rfl, _, _, rfl, .inl sq, _, _, rfl, rfl, _, rfl, ite2 (fun hc => ?_) (fun hc => ?_)⟩
  · have lt : at' < ns.length := by
      have := of_decide_eq_true hc
      rw [List.length_map] at this
      omega
    refine ⟨_, rfl, _, rfl, _, _, _, .int ns[at'], rfl, rfl, sq, atI_nat (j := at') (by rw [List.getElem?_map, List.getElem?_eq_getElem lt]; rfl), ?_⟩
    generalize ns[at'] = cell
    -- great
    refine ⟨_, rfl, _, rfl, .inl ⟨_, rfl, _, _, rfl, rfl, ⟨by decide, by decide⟩, _, _, rfl, rfl, ⟨by decide, by decide +kernel⟩, _, _, rfl, rfl, pj (i := 0) (by decide +kernel), ?_⟩⟩
    generalize ((if cell < 0 then -cell else cell) % (10 ^ Int.toNat 58) ^ Int.toNat 11 : Int) = great
    -- mixed
    refine ⟨_, rfl, .inl ⟨_, rfl, _, _, rfl, rfl, pj (i := 0) (by decide), ?_⟩⟩
    refine ⟨_, _, rfl, rfl, .inr (by decide), ?_⟩
    refine ⟨_, rfl, _, _, rfl, rfl, .inl (by decide), _, _, rfl, rfl, ?_⟩
    refine ⟨_, rfl, _, _, rfl, rfl, .inr ⟨_, rfl, _, _, rfl, rfl, .inl (by decide), _, _, rfl, rfl, _, _, rfl, rfl, ?_⟩⟩
    -- the list
    refine ⟨_, rfl, _, _, rfl, rfl, ⟨by decide, by decide⟩, _, _, rfl, rfl, _, _, rfl, ?_⟩
    refine ⟨_, rfl, .inl ⟨_, rfl, _, _, rfl, rfl, pj (i := 0) (by decide), (by show 3 ≤ sizeLine; decide), fun p np => ?_⟩⟩
    refine q p _ _ _ np ?_
    split <;> omega
  · refine ⟨_, rfl, _, _, rfl, rfl, .inl (by decide), _, _, rfl, rfl, ?_⟩
    generalize (47 * (at' : Int) + 19 : Int) = cell
    -- great
    refine ⟨_, rfl, _, rfl, .inl ⟨_, rfl, _, _, rfl, rfl, ⟨by decide, by decide⟩, _, _, rfl, rfl, ⟨by decide, by decide +kernel⟩, _, _, rfl, rfl, pj (i := 0) (by decide +kernel), ?_⟩⟩
    generalize ((if cell < 0 then -cell else cell) % (10 ^ Int.toNat 58) ^ Int.toNat 11 : Int) = great
    -- mixed
    refine ⟨_, rfl, .inl ⟨_, rfl, _, _, rfl, rfl, pj (i := 0) (by decide), ?_⟩⟩
    refine ⟨_, _, rfl, rfl, .inr (by decide), ?_⟩
    refine ⟨_, rfl, _, _, rfl, rfl, .inl (by decide), _, _, rfl, rfl, ?_⟩
    refine ⟨_, rfl, _, _, rfl, rfl, .inr ⟨_, rfl, _, _, rfl, rfl, .inl (by decide), _, _, rfl, rfl, _, _, rfl, rfl, ?_⟩⟩
    -- the list
    refine ⟨_, rfl, _, _, rfl, rfl, ⟨by decide, by decide⟩, _, _, rfl, rfl, _, _, rfl, ?_⟩
    refine ⟨_, rfl, .inl ⟨_, rfl, _, _, rfl, rfl, pj (i := 0) (by decide), (by show 3 ≤ sizeLine; decide), fun p np => ?_⟩⟩
    refine q p _ _ _ np ?_
    split <;> omega
end
end K01
set_option Elab.async false
set_option linter.all false
set_option maxRecDepth 100000
set_option maxHeartbeats 4000000
/-! the errors: raised, caught -/
namespace K01
open PySem PySem.Spec PyProof.Rows L2 Wk
/-- where the classes stand, and the __init__ of those that keep a value -/
structure Es where
  w : Addr
  c0 : Addr
  c1 : Addr
  c2 : Addr
  c3 : Addr
  c4 : Addr
  c5 : Addr
  c6 : Addr
  c7 : Addr
  c8 : Addr
  c9 : Addr
  c10 : Addr
  c11 : Addr
  c12 : Addr
  i7 : Addr
  i8 : Addr
  i9 : Addr
  i10 : Addr
  i11 : Addr
  i12 : Addr
/-- the class with a number -/
def Es.c (e : Es) : Nat → Addr
  | 0 => e.c0
  | 1 => e.c1
  | 2 => e.c2
  | 3 => e.c3
  | 4 => e.c4
  | 5 => e.c5
  | 6 => e.c6
  | 7 => e.c7
  | 8 => e.c8
  | 9 => e.c9
  | 10 => e.c10
  | 11 => e.c11
  | _ => e.c12
def fld : Nat → Str
  | 7 => "index"
  | 8 => "value"
  | 9 => "name"
  | 10 => "limit"
  | 11 => "many"
  | _ => "edge"
/-- what the text says of the classes -/
structure Errs (K : PySem.W.Frag) (mg : Str → Option Value) (e : Es) : Prop where
  w : PlainE K mg "WalkError" e.w
  c0 : PlainE K mg "InvalidName" e.c0
  c1 : PlainE K mg "InvalidSchema" e.c1
  c2 : PlainE K mg "InvalidWord" e.c2
  c3 : PlainE K mg "InvalidExpression" e.c3
  c4 : PlainE K mg "InvalidQuestion" e.c4
  c5 : PlainE K mg "InvalidGraph" e.c5
  c6 : PlainE K mg "InvalidOperation" e.c6
  c7 : KeptE K mg "ParseError" e.c7 e.i7 "index"
  c8 : KeptE K mg "InvalidNumber" e.c8 e.i8 "value"
  c9 : KeptE K mg "UnknownName" e.c9 e.i9 "name"
  c10 : KeptE K mg "TooMany" e.c10 e.i10 "limit"
  c11 : KeptE K mg "NothingToUndo" e.c11 e.i11 "many"
  c12 : KeptE K mg "Missing" e.c12 e.i12 "edge"
  one : ∀ i < 13, ∀ j < 13, PySem.W.exmOne K (.ref (e.c i)) (.ref (e.c j)) = some (decide (i = j))
  base : ∀ i < 13, PySem.W.exmOne K (.ref (e.c i)) (.ref e.w) = some (decide (i < 8))
  exc : ∀ i < 13, ExcC K (e.c i)
  kit : ∀ i < 13, ∀ j < 13, PySem.W.kitOne K (.ref (e.c i)) (.ref (e.c j)) = some (decide (i = j))
  kitW : ∀ i < 13, PySem.W.kitOne K (.ref (e.c i)) (.ref e.w) = some (decide (i < 8))
section
variable {P : Program} {w : World} {K : PySem.W.Frag} {mg : Str → Option Value} {base : Heap} {e : Es}
theorem ten {i : Nat} (h : i < 13) : i = 0 ∨ i = 1 ∨ i = 2 ∨ i = 3 ∨ i = 4 ∨ i = 5 ∨ i = 6 ∨ i = 7 ∨ i = 8 ∨ i = 9 ∨ i = 10 ∨ i = 11 ∨ i = 12 := by omega
/-- the error with a number is raised -/
def spRaised (e : Es) : Sp := fun vs H _ E => ∃ (i : Nat) (v : V), vs = [.int i, v] ∧ i < 13 ∧ (i < 7 → E (.ref (e.c i)) none H) ∧ (7 ≤ i → ∀ d, H d = none → E (.ref (e.c i)) (some d) (upd H d (.xd [(fld i, v)])))
theorem ok_L_raised (D : DefAt K mg "_law_raised" s_L_raised) (M : Txt mg) (Er : Errs K mg e) : Gc P w K mg base (L2.CX P w) 1 "_law_raised" (spRaised e) := by
  refine D.ok sc_L_raised (fun kV doc pm an cdv ct us hl => match us, hl with | [_, _], _ => rfl) (fun vs H Q E h => by obtain ⟨i, v, rfl, _⟩ := h; rfl)
    (fun f cdv A outer s H vs Q E hr h => ?_)
  have nd := sc_L_raised.nd
  obtain ⟨i, v, rfl, hi, qp, qk⟩ := h
  refine ⟨_, (pss_cons (ps_if (pt_cmpR op_eq (pv 0) pe_int (nomark _))
      (pss_one (ps_raise rfl (takes_of rfl rfl rfl rfl) (pmk_plain Er.c0 rfl (pv 1)))) pss_nil)
      (pss_cons (ps_if (pt_cmpR op_eq (pv 0) pe_int (nomark _))
      (pss_one (ps_raise rfl (takes_of rfl rfl rfl rfl) (pmk_plain Er.c1 rfl (pv 1)))) pss_nil)
      (pss_cons (ps_if (pt_cmpR op_eq (pv 0) pe_int (nomark _))
      (pss_one (ps_raise rfl (takes_of rfl rfl rfl rfl) (pmk_plain Er.c2 rfl (pv 1)))) pss_nil)
      (pss_cons (ps_if (pt_cmpR op_eq (pv 0) pe_int (nomark _))
      (pss_one (ps_raise rfl (takes_of rfl rfl rfl rfl) (pmk_plain Er.c3 rfl (pv 1)))) pss_nil)
      (pss_cons (ps_if (pt_cmpR op_eq (pv 0) pe_int (nomark _))
      (pss_one (ps_raise rfl (takes_of rfl rfl rfl rfl) (pmk_plain Er.c4 rfl (pv 1)))) pss_nil)
      (pss_cons (ps_if (pt_cmpR op_eq (pv 0) pe_int (nomark _))
      (pss_one (ps_raise rfl (takes_of rfl rfl rfl rfl) (pmk_plain Er.c5 rfl (pv 1)))) pss_nil)
      (pss_cons (ps_if (pt_cmpR op_eq (pv 0) pe_int (nomark _))
      (pss_one (ps_raise rfl (takes_of rfl rfl rfl rfl) (pmk_plain Er.c6 rfl (pv 1)))) pss_nil)
      (pss_cons (ps_if (pt_cmpR op_eq (pv 0) pe_int (nomark _))
      (pss_one (ps_raise rfl (takes_of rfl rfl rfl rfl) (pmk_kept Er.c7.kept (PySem.WkX.init_index Er.c7.kept) hr.room rfl (pa_cons (pv 1) pa_nil)))) pss_nil)
      (pss_cons (ps_if (pt_cmpR op_eq (pv 0) pe_int (nomark _))
      (pss_one (ps_raise rfl (takes_of rfl rfl rfl rfl) (pmk_kept Er.c8.kept (PySem.WkX.init_value Er.c8.kept) hr.room rfl (pa_cons (pv 1) pa_nil)))) pss_nil)
      (pss_cons (ps_if (pt_cmpR op_eq (pv 0) pe_int (nomark _))
      (pss_one (ps_raise rfl (takes_of rfl rfl rfl rfl) (pmk_kept Er.c9.kept (PySem.WkX.init_name Er.c9.kept) hr.room rfl (pa_cons (pv 1) pa_nil)))) pss_nil)
      (pss_cons (ps_if (pt_cmpR op_eq (pv 0) pe_int (nomark _))
      (pss_one (ps_raise rfl (takes_of rfl rfl rfl rfl) (pmk_kept Er.c10.kept (PySem.WkX.init_limit Er.c10.kept) hr.room rfl (pa_cons (pv 1) pa_nil)))) pss_nil)
      (pss_cons (ps_if (pt_cmpR op_eq (pv 0) pe_int (nomark _))
      (pss_one (ps_raise rfl (takes_of rfl rfl rfl rfl) (pmk_kept Er.c11.kept (PySem.WkX.init_many Er.c11.kept) hr.room rfl (pa_cons (pv 1) pa_nil)))) pss_nil)
      (pss_one (ps_raise rfl (takes_of rfl rfl rfl rfl) (pmk_kept Er.c12.kept (PySem.WkX.init_edge Er.c12.kept) hr.room rfl (pa_cons (pv 1) pa_nil)))))))))))))))), ?_⟩
  rcases ten hi with rfl | rfl | rfl | rfl | rfl | rfl | rfl | rfl | rfl | rfl | rfl | rfl | rfl
  · refine ⟨_, rfl, rfl, _, rfl, ?_⟩
    refine iteT ?_
    exact ⟨v, rfl, qp (by decide)⟩
  · refine ⟨_, rfl, rfl, _, rfl, ?_⟩
    refine iteF ?_
    refine ⟨_, rfl, rfl, _, rfl, ?_⟩
    refine iteT ?_
    exact ⟨v, rfl, qp (by decide)⟩
  · refine ⟨_, rfl, rfl, _, rfl, ?_⟩
    refine iteF ?_
    refine ⟨_, rfl, rfl, _, rfl, ?_⟩
    refine iteF ?_
    refine ⟨_, rfl, rfl, _, rfl, ?_⟩
    refine iteT ?_
    exact ⟨v, rfl, qp (by decide)⟩
  · refine ⟨_, rfl, rfl, _, rfl, ?_⟩
    refine iteF ?_
    refine ⟨_, rfl, rfl, _, rfl, ?_⟩
    refine iteF ?_
    refine ⟨_, rfl, rfl, _, rfl, ?_⟩
    refine iteF ?_
    refine ⟨_, rfl, rfl, _, rfl, ?_⟩
    refine iteT ?_
    exact ⟨v, rfl, qp (by decide)⟩
  · refine ⟨_, rfl, rfl, _, rfl, ?_⟩
    refine iteF ?_
    refine ⟨_, rfl, rfl, _, rfl, ?_⟩
    refine iteF ?_
    refine ⟨_, rfl, rfl, _, rfl, ?_⟩
    refine iteF ?_
    refine ⟨_, rfl, rfl, _, rfl, ?_⟩
    refine iteF ?_
    refine ⟨_, rfl, rfl, _, rfl, ?_⟩
    refine iteT ?_
    exact ⟨v, rfl, qp (by decide)⟩
  · refine ⟨_, rfl, rfl, _, rfl, ?_⟩
    refine iteF ?_
    refine ⟨_, rfl, rfl, _, rfl, ?_⟩
    refine iteF ?_
    refine ⟨_, rfl, rfl, _, rfl, ?_⟩
    refine iteF ?_
    refine ⟨_, rfl, rfl, _, rfl, ?_⟩
    refine iteF ?_
    refine ⟨_, rfl, rfl, _, rfl, ?_⟩
    refine iteF ?_
    refine ⟨_, rfl, rfl, _, rfl, ?_⟩
    refine iteT ?_
    exact ⟨v, rfl, qp (by decide)⟩
  · refine ⟨_, rfl, rfl, _, rfl, ?_⟩
    refine iteF ?_
    refine ⟨_, rfl, rfl, _, rfl, ?_⟩
    refine iteF ?_
    refine ⟨_, rfl, rfl, _, rfl, ?_⟩
    refine iteF ?_
    refine ⟨_, rfl, rfl, _, rfl, ?_⟩
    refine iteF ?_
    refine ⟨_, rfl, rfl, _, rfl, ?_⟩
    refine iteF ?_
    refine ⟨_, rfl, rfl, _, rfl, ?_⟩
    refine iteF ?_
    refine ⟨_, rfl, rfl, _, rfl, ?_⟩
    refine iteT ?_
    exact ⟨v, rfl, qp (by decide)⟩
  · refine ⟨_, rfl, rfl, _, rfl, ?_⟩
    refine iteF ?_
    refine ⟨_, rfl, rfl, _, rfl, ?_⟩
    refine iteF ?_
    refine ⟨_, rfl, rfl, _, rfl, ?_⟩
    refine iteF ?_
    refine ⟨_, rfl, rfl, _, rfl, ?_⟩
    refine iteF ?_
    refine ⟨_, rfl, rfl, _, rfl, ?_⟩
    refine iteF ?_
    refine ⟨_, rfl, rfl, _, rfl, ?_⟩
    refine iteF ?_
    refine ⟨_, rfl, rfl, _, rfl, ?_⟩
    refine iteF ?_
    refine ⟨_, rfl, rfl, _, rfl, ?_⟩
    refine iteT ?_
    exact ⟨v, rfl, v, rfl, fun d hd => qk (by decide) d hd⟩
  · refine ⟨_, rfl, rfl, _, rfl, ?_⟩
    refine iteF ?_
    refine ⟨_, rfl, rfl, _, rfl, ?_⟩
    refine iteF ?_
    refine ⟨_, rfl, rfl, _, rfl, ?_⟩
    refine iteF ?_
    refine ⟨_, rfl, rfl, _, rfl, ?_⟩
    refine iteF ?_
    refine ⟨_, rfl, rfl, _, rfl, ?_⟩
    refine iteF ?_
    refine ⟨_, rfl, rfl, _, rfl, ?_⟩
    refine iteF ?_
    refine ⟨_, rfl, rfl, _, rfl, ?_⟩
    refine iteF ?_
    refine ⟨_, rfl, rfl, _, rfl, ?_⟩
    refine iteF ?_
    refine ⟨_, rfl, rfl, _, rfl, ?_⟩
    refine iteT ?_
    exact ⟨v, rfl, v, rfl, fun d hd => qk (by decide) d hd⟩
  · refine ⟨_, rfl, rfl, _, rfl, ?_⟩
    refine iteF ?_
    refine ⟨_, rfl, rfl, _, rfl, ?_⟩
    refine iteF ?_
    refine ⟨_, rfl, rfl, _, rfl, ?_⟩
    refine iteF ?_
    refine ⟨_, rfl, rfl, _, rfl, ?_⟩
    refine iteF ?_
    refine ⟨_, rfl, rfl, _, rfl, ?_⟩
    refine iteF ?_
    refine ⟨_, rfl, rfl, _, rfl, ?_⟩
    refine iteF ?_
    refine ⟨_, rfl, rfl, _, rfl, ?_⟩
    refine iteF ?_
    refine ⟨_, rfl, rfl, _, rfl, ?_⟩
    refine iteF ?_
    refine ⟨_, rfl, rfl, _, rfl, ?_⟩
    refine iteF ?_
    refine ⟨_, rfl, rfl, _, rfl, ?_⟩
    refine iteT ?_
    exact ⟨v, rfl, v, rfl, fun d hd => qk (by decide) d hd⟩
  · refine ⟨_, rfl, rfl, _, rfl, ?_⟩
    refine iteF ?_
    refine ⟨_, rfl, rfl, _, rfl, ?_⟩
    refine iteF ?_
    refine ⟨_, rfl, rfl, _, rfl, ?_⟩
    refine iteF ?_
    refine ⟨_, rfl, rfl, _, rfl, ?_⟩
    refine iteF ?_
    refine ⟨_, rfl, rfl, _, rfl, ?_⟩
    refine iteF ?_
    refine ⟨_, rfl, rfl, _, rfl, ?_⟩
    refine iteF ?_
    refine ⟨_, rfl, rfl, _, rfl, ?_⟩
    refine iteF ?_
    refine ⟨_, rfl, rfl, _, rfl, ?_⟩
    refine iteF ?_
    refine ⟨_, rfl, rfl, _, rfl, ?_⟩
    refine iteF ?_
    refine ⟨_, rfl, rfl, _, rfl, ?_⟩
    refine iteF ?_
    refine ⟨_, rfl, rfl, _, rfl, ?_⟩
    refine iteT ?_
    exact ⟨v, rfl, v, rfl, fun d hd => qk (by decide) d hd⟩
  · refine ⟨_, rfl, rfl, _, rfl, ?_⟩
    refine iteF ?_
    refine ⟨_, rfl, rfl, _, rfl, ?_⟩
    refine iteF ?_
    refine ⟨_, rfl, rfl, _, rfl, ?_⟩
    refine iteF ?_
    refine ⟨_, rfl, rfl, _, rfl, ?_⟩
    refine iteF ?_
    refine ⟨_, rfl, rfl, _, rfl, ?_⟩
    refine iteF ?_
    refine ⟨_, rfl, rfl, _, rfl, ?_⟩
    refine iteF ?_
    refine ⟨_, rfl, rfl, _, rfl, ?_⟩
    refine iteF ?_
    refine ⟨_, rfl, rfl, _, rfl, ?_⟩
    refine iteF ?_
    refine ⟨_, rfl, rfl, _, rfl, ?_⟩
    refine iteF ?_
    refine ⟨_, rfl, rfl, _, rfl, ?_⟩
    refine iteF ?_
    refine ⟨_, rfl, rfl, _, rfl, ?_⟩
    refine iteF ?_
    refine ⟨_, rfl, rfl, _, rfl, ?_⟩
    refine iteT ?_
    exact ⟨v, rfl, v, rfl, fun d hd => qk (by decide) d hd⟩
  · refine ⟨_, rfl, rfl, _, rfl, ?_⟩
    refine iteF ?_
    refine ⟨_, rfl, rfl, _, rfl, ?_⟩
    refine iteF ?_
    refine ⟨_, rfl, rfl, _, rfl, ?_⟩
    refine iteF ?_
    refine ⟨_, rfl, rfl, _, rfl, ?_⟩
    refine iteF ?_
    refine ⟨_, rfl, rfl, _, rfl, ?_⟩
    refine iteF ?_
    refine ⟨_, rfl, rfl, _, rfl, ?_⟩
    refine iteF ?_
    refine ⟨_, rfl, rfl, _, rfl, ?_⟩
    refine iteF ?_
    refine ⟨_, rfl, rfl, _, rfl, ?_⟩
    refine iteF ?_
    refine ⟨_, rfl, rfl, _, rfl, ?_⟩
    refine iteF ?_
    refine ⟨_, rfl, rfl, _, rfl, ?_⟩
    refine iteF ?_
    refine ⟨_, rfl, rfl, _, rfl, ?_⟩
    refine iteF ?_
    refine ⟨_, rfl, rfl, _, rfl, ?_⟩
    refine iteF ?_
    exact ⟨v, rfl, v, rfl, fun d hd => qk (by decide) d hd⟩
/-- the error that is caught tells its number -/
def spCaught : Sp := fun vs H Q _ => ∃ (i : Nat) (v : V), vs = [.int i, v] ∧ i < 13 ∧ ∀ H', Same H H' → Q (.int i) H'
theorem ok_L_caught (D : DefAt K mg "_law_caught" s_L_caught) (M : Txt mg) (Er : Errs K mg e) (C_L_raised : Gc P w K mg base (L2.CX P w) 1 "_law_raised" (spRaised e)) : Gc P w K mg base CX0 2 "_law_caught" spCaught := by
  refine D.ok0 sc_L_caught (fun kV doc pm an cdv ct us hl => match us, hl with | [_, _], _ => rfl) (fun vs H Q E h => by obtain ⟨i, v, rfl, _⟩ := h; rfl)
    (fun f cdv A outer s H vs Q E hr h => ?_)
  have nd := sc_L_caught.nd
  obtain ⟨i, v, rfl, hi, q⟩ := h
  refine ⟨_, (pss_cons (ps_try_cls rfl rfl takes0 (fun W pn xe tk _ => (pss_one (ps_expr (pe_gS C_L_raised hr (by decide) (by rfl) (fun σ => passAt tk σ) (pa_cons (pv 0) (pa_cons (pv 1) pa_nil)))))) (.named (i := 2) (test_row (.cons (nmE Er.c0.gC rfl) (.cons (nmE Er.c1.gC rfl) (.cons (nmE Er.c2.gC rfl) .nil))) (by show 3 ≤ sizeLine; decide)) nd rfl rfl (fun a oe cls d pn hz hf => (pss_one (ps_ret (pe_bmK (K := K) rfl PySem.F.plainAttrs_list PySem.F.slot_list_index PySem.F.type_list_index (mt_indexK rfl) (pe_lst (pa_cons (pe_callB (call_isPin hz hf) (by rfl) M.isinstance (by decide +kernel) (pa_cons (pv 2) (pa_cons (pe_glob rfl Er.c0.gC (v := .ref (e.c0)) rfl) pa_nil))) (pa_cons (pe_callB (call_isPin hz hf) (by rfl) M.isinstance (by decide +kernel) (pa_cons (pv 2) (pa_cons (pe_glob rfl Er.c1.gC (v := .ref (e.c1)) rfl) pa_nil))) (pa_cons pe_bl pa_nil)))) (pa_cons pe_bl pa_nil))))) (.named (i := 2) (test_row (.cons (nmE Er.c3.gC rfl) (.cons (nmE Er.c4.gC rfl) (.cons (nmE Er.c5.gC rfl) .nil))) (by show 3 ≤ sizeLine; decide)) nd rfl rfl (fun a oe cls d pn hz hf => (pss_one (ps_ret (pe_op op_add pe_int (pe_bmK (K := K) rfl PySem.F.plainAttrs_list PySem.F.slot_list_index PySem.F.type_list_index (mt_indexK rfl) (pe_lst (pa_cons (pe_callB (call_isPin hz hf) (by rfl) M.isinstance (by decide +kernel) (pa_cons (pv 2) (pa_cons (pe_glob rfl Er.c3.gC (v := .ref (e.c3)) rfl) pa_nil))) (pa_cons (pe_callB (call_isPin hz hf) (by rfl) M.isinstance (by decide +kernel) (pa_cons (pv 2) (pa_cons (pe_glob rfl Er.c4.gC (v := .ref (e.c4)) rfl) pa_nil))) (pa_cons pe_bl pa_nil)))) (pa_cons pe_bl pa_nil)))))) (.only (test_one (nmE Er.c6.gC rfl)) (fun a oe cls d pn hz hf => (pss_one (ps_ret pe_int))) (.only (test_one (nmE Er.c7.gC rfl)) (fun a oe cls d pn hz hf => (pss_one (ps_ret pe_int))) (.only (test_one (nmE Er.c8.gC rfl)) (fun a oe cls d pn hz hf => (pss_one (ps_ret pe_int))) (.only (test_one (nmE Er.c9.gC rfl)) (fun a oe cls d pn hz hf => (pss_one (ps_ret pe_int))) (.only (test_one (nmE Er.c10.gC rfl)) (fun a oe cls d pn hz hf => (pss_one (ps_ret pe_int))) (.only (test_one (nmE Er.c11.gC rfl)) (fun a oe cls d pn hz hf => (pss_one (ps_ret pe_int))) (.only (test_one (nmE Er.c12.gC rfl)) (fun a oe cls d pn hz hf => (pss_one (ps_ret pe_int))) .nil))))))))))
      (pss_one (ps_ret pe_int))), ?_⟩
  rcases ten hi with rfl | rfl | rfl | rfl | rfl | rfl | rfl | rfl | rfl | rfl | rfl | rfl | rfl
  · refine ⟨_, rfl, _, rfl, 0, v, rfl, by decide, fun _ => ?_, fun z => absurd z (by decide)⟩
    refine ⟨true, (any_of (Er.one 0 (by decide) 0 (by decide)) (any_of (Er.one 0 (by decide) 1 (by decide)) (any_of (Er.one 0 (by decide) 2 (by decide)) any_nil))), fun _ => ?_, fun z => Bool.noConfusion z⟩
    refine fun a ha => ?_
    refine ⟨_, rfl, e.c0, _, _, _, rfl, rfl, rfl, Er.exc 0 (by decide), (fun u h => h), Er.kit 0 (by decide) 0 (by decide), _, rfl, e.c0, _, _, _, rfl, rfl, rfl, Er.exc 0 (by decide), (fun u h => h), Er.kit 0 (by decide) 1 (by decide), (by show 3 ≤ sizeLine; decide), fun l hl => ?_⟩
    refine ⟨.inl ⟨rfl, _, SqL.of upd_same⟩, l, _, _, 0, _, rfl, rfl, SqL.of upd_same, rfl, rfl, rfl, rfl, ?_, ?_⟩
    · intro m z hm hz
      exact absurd hm (Nat.not_lt_zero _)
    · exact q _ (same_new (Same.refl _) hl)
  · refine ⟨_, rfl, _, rfl, 1, v, rfl, by decide, fun _ => ?_, fun z => absurd z (by decide)⟩
    refine ⟨true, (any_of (Er.one 1 (by decide) 0 (by decide)) (any_of (Er.one 1 (by decide) 1 (by decide)) (any_of (Er.one 1 (by decide) 2 (by decide)) any_nil))), fun _ => ?_, fun z => Bool.noConfusion z⟩
    refine fun a ha => ?_
    refine ⟨_, rfl, e.c1, _, _, _, rfl, rfl, rfl, Er.exc 1 (by decide), (fun u h => h), Er.kit 1 (by decide) 0 (by decide), _, rfl, e.c1, _, _, _, rfl, rfl, rfl, Er.exc 1 (by decide), (fun u h => h), Er.kit 1 (by decide) 1 (by decide), (by show 3 ≤ sizeLine; decide), fun l hl => ?_⟩
    refine ⟨.inl ⟨rfl, _, SqL.of upd_same⟩, l, _, _, 1, _, rfl, rfl, SqL.of upd_same, rfl, rfl, rfl, rfl, ?_, ?_⟩
    · intro m z hm hz
      obtain rfl : m = 0 := by omega
      cases hz; rfl
    · exact q _ (same_new (Same.refl _) hl)
  · refine ⟨_, rfl, _, rfl, 2, v, rfl, by decide, fun _ => ?_, fun z => absurd z (by decide)⟩
    refine ⟨true, (any_of (Er.one 2 (by decide) 0 (by decide)) (any_of (Er.one 2 (by decide) 1 (by decide)) (any_of (Er.one 2 (by decide) 2 (by decide)) any_nil))), fun _ => ?_, fun z => Bool.noConfusion z⟩
    refine fun a ha => ?_
    refine ⟨_, rfl, e.c2, _, _, _, rfl, rfl, rfl, Er.exc 2 (by decide), (fun u h => h), Er.kit 2 (by decide) 0 (by decide), _, rfl, e.c2, _, _, _, rfl, rfl, rfl, Er.exc 2 (by decide), (fun u h => h), Er.kit 2 (by decide) 1 (by decide), (by show 3 ≤ sizeLine; decide), fun l hl => ?_⟩
    refine ⟨.inl ⟨rfl, _, SqL.of upd_same⟩, l, _, _, 2, _, rfl, rfl, SqL.of upd_same, rfl, rfl, rfl, rfl, ?_, ?_⟩
    · intro m z hm hz
      rcases (by omega : m = 0 ∨ m = 1) with rfl | rfl <;> (cases hz; rfl)
    · exact q _ (same_new (Same.refl _) hl)
  · refine ⟨_, rfl, _, rfl, 3, v, rfl, by decide, fun _ => ?_, fun z => absurd z (by decide)⟩
    refine ⟨false, (any_of (Er.one 3 (by decide) 0 (by decide)) (any_of (Er.one 3 (by decide) 1 (by decide)) (any_of (Er.one 3 (by decide) 2 (by decide)) any_nil))), fun z => Bool.noConfusion z, fun _ => ?_⟩
    refine ⟨true, (any_of (Er.one 3 (by decide) 3 (by decide)) (any_of (Er.one 3 (by decide) 4 (by decide)) (any_of (Er.one 3 (by decide) 5 (by decide)) any_nil))), fun _ => ?_, fun z => Bool.noConfusion z⟩
    refine fun a ha => ?_
    refine ⟨_, rfl, e.c3, _, _, _, rfl, rfl, rfl, Er.exc 3 (by decide), (fun u h => h), Er.kit 3 (by decide) 3 (by decide), _, rfl, e.c3, _, _, _, rfl, rfl, rfl, Er.exc 3 (by decide), (fun u h => h), Er.kit 3 (by decide) 4 (by decide), (by show 3 ≤ sizeLine; decide), fun l hl => ?_⟩
    refine ⟨.inl ⟨rfl, _, SqL.of upd_same⟩, l, _, _, 0, _, rfl, rfl, SqL.of upd_same, rfl, rfl, rfl, rfl, ?_, ?_⟩
    · intro m z hm hz
      exact absurd hm (Nat.not_lt_zero _)
    · exact ⟨_, _, rfl, rfl, q _ (same_new (Same.refl _) hl)⟩
  · refine ⟨_, rfl, _, rfl, 4, v, rfl, by decide, fun _ => ?_, fun z => absurd z (by decide)⟩
    refine ⟨false, (any_of (Er.one 4 (by decide) 0 (by decide)) (any_of (Er.one 4 (by decide) 1 (by decide)) (any_of (Er.one 4 (by decide) 2 (by decide)) any_nil))), fun z => Bool.noConfusion z, fun _ => ?_⟩
    refine ⟨true, (any_of (Er.one 4 (by decide) 3 (by decide)) (any_of (Er.one 4 (by decide) 4 (by decide)) (any_of (Er.one 4 (by decide) 5 (by decide)) any_nil))), fun _ => ?_, fun z => Bool.noConfusion z⟩
    refine fun a ha => ?_
    refine ⟨_, rfl, e.c4, _, _, _, rfl, rfl, rfl, Er.exc 4 (by decide), (fun u h => h), Er.kit 4 (by decide) 3 (by decide), _, rfl, e.c4, _, _, _, rfl, rfl, rfl, Er.exc 4 (by decide), (fun u h => h), Er.kit 4 (by decide) 4 (by decide), (by show 3 ≤ sizeLine; decide), fun l hl => ?_⟩
    refine ⟨.inl ⟨rfl, _, SqL.of upd_same⟩, l, _, _, 1, _, rfl, rfl, SqL.of upd_same, rfl, rfl, rfl, rfl, ?_, ?_⟩
    · intro m z hm hz
      obtain rfl : m = 0 := by omega
      cases hz; rfl
    · exact ⟨_, _, rfl, rfl, q _ (same_new (Same.refl _) hl)⟩
  · refine ⟨_, rfl, _, rfl, 5, v, rfl, by decide, fun _ => ?_, fun z => absurd z (by decide)⟩
    refine ⟨false, (any_of (Er.one 5 (by decide) 0 (by decide)) (any_of (Er.one 5 (by decide) 1 (by decide)) (any_of (Er.one 5 (by decide) 2 (by decide)) any_nil))), fun z => Bool.noConfusion z, fun _ => ?_⟩
    refine ⟨true, (any_of (Er.one 5 (by decide) 3 (by decide)) (any_of (Er.one 5 (by decide) 4 (by decide)) (any_of (Er.one 5 (by decide) 5 (by decide)) any_nil))), fun _ => ?_, fun z => Bool.noConfusion z⟩
    refine fun a ha => ?_
    refine ⟨_, rfl, e.c5, _, _, _, rfl, rfl, rfl, Er.exc 5 (by decide), (fun u h => h), Er.kit 5 (by decide) 3 (by decide), _, rfl, e.c5, _, _, _, rfl, rfl, rfl, Er.exc 5 (by decide), (fun u h => h), Er.kit 5 (by decide) 4 (by decide), (by show 3 ≤ sizeLine; decide), fun l hl => ?_⟩
    refine ⟨.inl ⟨rfl, _, SqL.of upd_same⟩, l, _, _, 2, _, rfl, rfl, SqL.of upd_same, rfl, rfl, rfl, rfl, ?_, ?_⟩
    · intro m z hm hz
      rcases (by omega : m = 0 ∨ m = 1) with rfl | rfl <;> (cases hz; rfl)
    · exact ⟨_, _, rfl, rfl, q _ (same_new (Same.refl _) hl)⟩
  · refine ⟨_, rfl, _, rfl, 6, v, rfl, by decide, fun _ => ?_, fun z => absurd z (by decide)⟩
    refine ⟨false, (any_of (Er.one 6 (by decide) 0 (by decide)) (any_of (Er.one 6 (by decide) 1 (by decide)) (any_of (Er.one 6 (by decide) 2 (by decide)) any_nil))), fun z => Bool.noConfusion z, fun _ => ?_⟩
    refine ⟨false, (any_of (Er.one 6 (by decide) 3 (by decide)) (any_of (Er.one 6 (by decide) 4 (by decide)) (any_of (Er.one 6 (by decide) 5 (by decide)) any_nil))), fun z => Bool.noConfusion z, fun _ => ?_⟩
    refine ⟨true, (Er.one 6 (by decide) 6 (by decide)), fun _ => ?_, fun z => Bool.noConfusion z⟩
    refine fun a ha => ?_
    exact q _ (Same.refl _)
  · refine ⟨_, rfl, _, rfl, 7, v, rfl, by decide, fun z => absurd z (by decide), fun _ d hd => ?_⟩
    refine ⟨false, (any_of (Er.one 7 (by decide) 0 (by decide)) (any_of (Er.one 7 (by decide) 1 (by decide)) (any_of (Er.one 7 (by decide) 2 (by decide)) any_nil))), fun z => Bool.noConfusion z, fun _ => ?_⟩
    refine ⟨false, (any_of (Er.one 7 (by decide) 3 (by decide)) (any_of (Er.one 7 (by decide) 4 (by decide)) (any_of (Er.one 7 (by decide) 5 (by decide)) any_nil))), fun z => Bool.noConfusion z, fun _ => ?_⟩
    refine ⟨false, (Er.one 7 (by decide) 6 (by decide)), fun z => Bool.noConfusion z, fun _ => ?_⟩
    refine ⟨true, (Er.one 7 (by decide) 7 (by decide)), fun _ => ?_, fun z => Bool.noConfusion z⟩
    refine fun a ha => ?_
    exact q _ (same_new (Same.refl _) hd)
  · refine ⟨_, rfl, _, rfl, 8, v, rfl, by decide, fun z => absurd z (by decide), fun _ d hd => ?_⟩
    refine ⟨false, (any_of (Er.one 8 (by decide) 0 (by decide)) (any_of (Er.one 8 (by decide) 1 (by decide)) (any_of (Er.one 8 (by decide) 2 (by decide)) any_nil))), fun z => Bool.noConfusion z, fun _ => ?_⟩
    refine ⟨false, (any_of (Er.one 8 (by decide) 3 (by decide)) (any_of (Er.one 8 (by decide) 4 (by decide)) (any_of (Er.one 8 (by decide) 5 (by decide)) any_nil))), fun z => Bool.noConfusion z, fun _ => ?_⟩
    refine ⟨false, (Er.one 8 (by decide) 6 (by decide)), fun z => Bool.noConfusion z, fun _ => ?_⟩
    refine ⟨false, (Er.one 8 (by decide) 7 (by decide)), fun z => Bool.noConfusion z, fun _ => ?_⟩
    refine ⟨true, (Er.one 8 (by decide) 8 (by decide)), fun _ => ?_, fun z => Bool.noConfusion z⟩
    refine fun a ha => ?_
    exact q _ (same_new (Same.refl _) hd)
  · refine ⟨_, rfl, _, rfl, 9, v, rfl, by decide, fun z => absurd z (by decide), fun _ d hd => ?_⟩
    refine ⟨false, (any_of (Er.one 9 (by decide) 0 (by decide)) (any_of (Er.one 9 (by decide) 1 (by decide)) (any_of (Er.one 9 (by decide) 2 (by decide)) any_nil))), fun z => Bool.noConfusion z, fun _ => ?_⟩
    refine ⟨false, (any_of (Er.one 9 (by decide) 3 (by decide)) (any_of (Er.one 9 (by decide) 4 (by decide)) (any_of (Er.one 9 (by decide) 5 (by decide)) any_nil))), fun z => Bool.noConfusion z, fun _ => ?_⟩
    refine ⟨false, (Er.one 9 (by decide) 6 (by decide)), fun z => Bool.noConfusion z, fun _ => ?_⟩
    refine ⟨false, (Er.one 9 (by decide) 7 (by decide)), fun z => Bool.noConfusion z, fun _ => ?_⟩
    refine ⟨false, (Er.one 9 (by decide) 8 (by decide)), fun z => Bool.noConfusion z, fun _ => ?_⟩
    refine ⟨true, (Er.one 9 (by decide) 9 (by decide)), fun _ => ?_, fun z => Bool.noConfusion z⟩
    refine fun a ha => ?_
    exact q _ (same_new (Same.refl _) hd)
  · refine ⟨_, rfl, _, rfl, 10, v, rfl, by decide, fun z => absurd z (by decide), fun _ d hd => ?_⟩
    refine ⟨false, (any_of (Er.one 10 (by decide) 0 (by decide)) (any_of (Er.one 10 (by decide) 1 (by decide)) (any_of (Er.one 10 (by decide) 2 (by decide)) any_nil))), fun z => Bool.noConfusion z, fun _ => ?_⟩
    refine ⟨false, (any_of (Er.one 10 (by decide) 3 (by decide)) (any_of (Er.one 10 (by decide) 4 (by decide)) (any_of (Er.one 10 (by decide) 5 (by decide)) any_nil))), fun z => Bool.noConfusion z, fun _ => ?_⟩
    refine ⟨false, (Er.one 10 (by decide) 6 (by decide)), fun z => Bool.noConfusion z, fun _ => ?_⟩
    refine ⟨false, (Er.one 10 (by decide) 7 (by decide)), fun z => Bool.noConfusion z, fun _ => ?_⟩
    refine ⟨false, (Er.one 10 (by decide) 8 (by decide)), fun z => Bool.noConfusion z, fun _ => ?_⟩
    refine ⟨false, (Er.one 10 (by decide) 9 (by decide)), fun z => Bool.noConfusion z, fun _ => ?_⟩
    refine ⟨true, (Er.one 10 (by decide) 10 (by decide)), fun _ => ?_, fun z => Bool.noConfusion z⟩
    refine fun a ha => ?_
    exact q _ (same_new (Same.refl _) hd)
  · refine ⟨_, rfl, _, rfl, 11, v, rfl, by decide, fun z => absurd z (by decide), fun _ d hd => ?_⟩
    refine ⟨false, (any_of (Er.one 11 (by decide) 0 (by decide)) (any_of (Er.one 11 (by decide) 1 (by decide)) (any_of (Er.one 11 (by decide) 2 (by decide)) any_nil))), fun z => Bool.noConfusion z, fun _ => ?_⟩
    refine ⟨false, (any_of (Er.one 11 (by decide) 3 (by decide)) (any_of (Er.one 11 (by decide) 4 (by decide)) (any_of (Er.one 11 (by decide) 5 (by decide)) any_nil))), fun z => Bool.noConfusion z, fun _ => ?_⟩
    refine ⟨false, (Er.one 11 (by decide) 6 (by decide)), fun z => Bool.noConfusion z, fun _ => ?_⟩
    refine ⟨false, (Er.one 11 (by decide) 7 (by decide)), fun z => Bool.noConfusion z, fun _ => ?_⟩
    refine ⟨false, (Er.one 11 (by decide) 8 (by decide)), fun z => Bool.noConfusion z, fun _ => ?_⟩
    refine ⟨false, (Er.one 11 (by decide) 9 (by decide)), fun z => Bool.noConfusion z, fun _ => ?_⟩
    refine ⟨false, (Er.one 11 (by decide) 10 (by decide)), fun z => Bool.noConfusion z, fun _ => ?_⟩
    refine ⟨true, (Er.one 11 (by decide) 11 (by decide)), fun _ => ?_, fun z => Bool.noConfusion z⟩
    refine fun a ha => ?_
    exact q _ (same_new (Same.refl _) hd)
  · refine ⟨_, rfl, _, rfl, 12, v, rfl, by decide, fun z => absurd z (by decide), fun _ d hd => ?_⟩
    refine ⟨false, (any_of (Er.one 12 (by decide) 0 (by decide)) (any_of (Er.one 12 (by decide) 1 (by decide)) (any_of (Er.one 12 (by decide) 2 (by decide)) any_nil))), fun z => Bool.noConfusion z, fun _ => ?_⟩
    refine ⟨false, (any_of (Er.one 12 (by decide) 3 (by decide)) (any_of (Er.one 12 (by decide) 4 (by decide)) (any_of (Er.one 12 (by decide) 5 (by decide)) any_nil))), fun z => Bool.noConfusion z, fun _ => ?_⟩
    refine ⟨false, (Er.one 12 (by decide) 6 (by decide)), fun z => Bool.noConfusion z, fun _ => ?_⟩
    refine ⟨false, (Er.one 12 (by decide) 7 (by decide)), fun z => Bool.noConfusion z, fun _ => ?_⟩
    refine ⟨false, (Er.one 12 (by decide) 8 (by decide)), fun z => Bool.noConfusion z, fun _ => ?_⟩
    refine ⟨false, (Er.one 12 (by decide) 9 (by decide)), fun z => Bool.noConfusion z, fun _ => ?_⟩
    refine ⟨false, (Er.one 12 (by decide) 10 (by decide)), fun z => Bool.noConfusion z, fun _ => ?_⟩
    refine ⟨false, (Er.one 12 (by decide) 11 (by decide)), fun z => Bool.noConfusion z, fun _ => ?_⟩
    refine ⟨true, (Er.one 12 (by decide) 12 (by decide)), fun _ => ?_, fun z => Bool.noConfusion z⟩
    refine fun a ha => ?_
    exact q _ (same_new (Same.refl _) hd)
/-- whether the base catches it -/
def spBase : Sp := fun vs H Q _ => ∃ (i : Nat) (v : V), vs = [.int i, v] ∧ i < 13 ∧ ∀ H', Same H H' → Q (.bl true) H'
theorem ok_L_is_caught_by_base (D : DefAt K mg "_law_is_caught_by_base" s_L_is_caught_by_base) (M : Txt mg) (Er : Errs K mg e) (C_L_raised : Gc P w K mg base (L2.CX P w) 1 "_law_raised" (spRaised e)) : Gc P w K mg base CX0 2 "_law_is_caught_by_base" spBase := by
  refine D.ok0 sc_L_is_caught_by_base (fun kV doc pm an cdv ct us hl => match us, hl with | [_, _], _ => rfl) (fun vs H Q E h => by obtain ⟨i, v, rfl, _⟩ := h; rfl)
    (fun f cdv A outer s H vs Q E hr h => ?_)
  have nd := sc_L_is_caught_by_base.nd
  obtain ⟨i, v, rfl, hi, q⟩ := h
  refine ⟨_, (pss_cons (ps_try_cls rfl rfl takes0 (fun W pn xe tk _ => (pss_one (ps_expr (pe_gS C_L_raised hr (by decide) (by rfl) (fun σ => passAt tk σ) (pa_cons (pv 0) (pa_cons (pv 1) pa_nil)))))) (.only (test_one (nmE Er.w.gC rfl)) (fun a oe cls d pn hz hf => (pss_one (ps_ret (pe_cmpR op_lt (pv 0) pe_int (nomark _))))) (.only (test_row (.cons (nmE Er.c8.gC rfl) (.cons (nmE Er.c9.gC rfl) (.cons (nmE Er.c10.gC rfl) (.cons (nmE Er.c11.gC rfl) (.cons (nmE Er.c12.gC rfl) .nil))))) (by show 5 ≤ sizeLine; decide)) (fun a oe cls d pn hz hf => (pss_one (ps_ret (pe_cmpR op_gt (pv 0) pe_int (nomark _))))) .nil)))
      (pss_one (ps_ret pe_bl))), ?_⟩
  rcases ten hi with rfl | rfl | rfl | rfl | rfl | rfl | rfl | rfl | rfl | rfl | rfl | rfl | rfl
  · refine ⟨_, rfl, _, rfl, 0, v, rfl, by decide, fun _ => ?_, fun z => absurd z (by decide)⟩
    refine ⟨true, Er.base 0 (by decide), fun _ => ?_, fun z => Bool.noConfusion z⟩
    refine fun a ha => ⟨_, rfl, _, _, rfl, rfl, ?_⟩
    exact q _ (Same.refl _)
  · refine ⟨_, rfl, _, rfl, 1, v, rfl, by decide, fun _ => ?_, fun z => absurd z (by decide)⟩
    refine ⟨true, Er.base 1 (by decide), fun _ => ?_, fun z => Bool.noConfusion z⟩
    refine fun a ha => ⟨_, rfl, _, _, rfl, rfl, ?_⟩
    exact q _ (Same.refl _)
  · refine ⟨_, rfl, _, rfl, 2, v, rfl, by decide, fun _ => ?_, fun z => absurd z (by decide)⟩
    refine ⟨true, Er.base 2 (by decide), fun _ => ?_, fun z => Bool.noConfusion z⟩
    refine fun a ha => ⟨_, rfl, _, _, rfl, rfl, ?_⟩
    exact q _ (Same.refl _)
  · refine ⟨_, rfl, _, rfl, 3, v, rfl, by decide, fun _ => ?_, fun z => absurd z (by decide)⟩
    refine ⟨true, Er.base 3 (by decide), fun _ => ?_, fun z => Bool.noConfusion z⟩
    refine fun a ha => ⟨_, rfl, _, _, rfl, rfl, ?_⟩
    exact q _ (Same.refl _)
  · refine ⟨_, rfl, _, rfl, 4, v, rfl, by decide, fun _ => ?_, fun z => absurd z (by decide)⟩
    refine ⟨true, Er.base 4 (by decide), fun _ => ?_, fun z => Bool.noConfusion z⟩
    refine fun a ha => ⟨_, rfl, _, _, rfl, rfl, ?_⟩
    exact q _ (Same.refl _)
  · refine ⟨_, rfl, _, rfl, 5, v, rfl, by decide, fun _ => ?_, fun z => absurd z (by decide)⟩
    refine ⟨true, Er.base 5 (by decide), fun _ => ?_, fun z => Bool.noConfusion z⟩
    refine fun a ha => ⟨_, rfl, _, _, rfl, rfl, ?_⟩
    exact q _ (Same.refl _)
  · refine ⟨_, rfl, _, rfl, 6, v, rfl, by decide, fun _ => ?_, fun z => absurd z (by decide)⟩
    refine ⟨true, Er.base 6 (by decide), fun _ => ?_, fun z => Bool.noConfusion z⟩
    refine fun a ha => ⟨_, rfl, _, _, rfl, rfl, ?_⟩
    exact q _ (Same.refl _)
  · refine ⟨_, rfl, _, rfl, 7, v, rfl, by decide, fun z => absurd z (by decide), fun _ d hd => ?_⟩
    refine ⟨true, Er.base 7 (by decide), fun _ => ?_, fun z => Bool.noConfusion z⟩
    refine fun a ha => ⟨_, rfl, _, _, rfl, rfl, ?_⟩
    exact q _ (same_new (Same.refl _) hd)
  · refine ⟨_, rfl, _, rfl, 8, v, rfl, by decide, fun z => absurd z (by decide), fun _ d hd => ?_⟩
    refine ⟨false, Er.base 8 (by decide), fun z => Bool.noConfusion z, fun _ => ?_⟩
    refine ⟨true, (any_of (Er.one 8 (by decide) 8 (by decide)) (any_of (Er.one 8 (by decide) 9 (by decide)) (any_of (Er.one 8 (by decide) 10 (by decide)) (any_of (Er.one 8 (by decide) 11 (by decide)) (any_of (Er.one 8 (by decide) 12 (by decide)) any_nil))))), fun _ => ?_, fun z => Bool.noConfusion z⟩
    refine fun a ha => ⟨_, rfl, _, _, rfl, rfl, ?_⟩
    exact q _ (same_new (Same.refl _) hd)
  · refine ⟨_, rfl, _, rfl, 9, v, rfl, by decide, fun z => absurd z (by decide), fun _ d hd => ?_⟩
    refine ⟨false, Er.base 9 (by decide), fun z => Bool.noConfusion z, fun _ => ?_⟩
    refine ⟨true, (any_of (Er.one 9 (by decide) 8 (by decide)) (any_of (Er.one 9 (by decide) 9 (by decide)) (any_of (Er.one 9 (by decide) 10 (by decide)) (any_of (Er.one 9 (by decide) 11 (by decide)) (any_of (Er.one 9 (by decide) 12 (by decide)) any_nil))))), fun _ => ?_, fun z => Bool.noConfusion z⟩
    refine fun a ha => ⟨_, rfl, _, _, rfl, rfl, ?_⟩
    exact q _ (same_new (Same.refl _) hd)
  · refine ⟨_, rfl, _, rfl, 10, v, rfl, by decide, fun z => absurd z (by decide), fun _ d hd => ?_⟩
    refine ⟨false, Er.base 10 (by decide), fun z => Bool.noConfusion z, fun _ => ?_⟩
    refine ⟨true, (any_of (Er.one 10 (by decide) 8 (by decide)) (any_of (Er.one 10 (by decide) 9 (by decide)) (any_of (Er.one 10 (by decide) 10 (by decide)) (any_of (Er.one 10 (by decide) 11 (by decide)) (any_of (Er.one 10 (by decide) 12 (by decide)) any_nil))))), fun _ => ?_, fun z => Bool.noConfusion z⟩
    refine fun a ha => ⟨_, rfl, _, _, rfl, rfl, ?_⟩
    exact q _ (same_new (Same.refl _) hd)
  · refine ⟨_, rfl, _, rfl, 11, v, rfl, by decide, fun z => absurd z (by decide), fun _ d hd => ?_⟩
    refine ⟨false, Er.base 11 (by decide), fun z => Bool.noConfusion z, fun _ => ?_⟩
    refine ⟨true, (any_of (Er.one 11 (by decide) 8 (by decide)) (any_of (Er.one 11 (by decide) 9 (by decide)) (any_of (Er.one 11 (by decide) 10 (by decide)) (any_of (Er.one 11 (by decide) 11 (by decide)) (any_of (Er.one 11 (by decide) 12 (by decide)) any_nil))))), fun _ => ?_, fun z => Bool.noConfusion z⟩
    refine fun a ha => ⟨_, rfl, _, _, rfl, rfl, ?_⟩
    exact q _ (same_new (Same.refl _) hd)
  · refine ⟨_, rfl, _, rfl, 12, v, rfl, by decide, fun z => absurd z (by decide), fun _ d hd => ?_⟩
    refine ⟨false, Er.base 12 (by decide), fun z => Bool.noConfusion z, fun _ => ?_⟩
    refine ⟨true, (any_of (Er.one 12 (by decide) 8 (by decide)) (any_of (Er.one 12 (by decide) 9 (by decide)) (any_of (Er.one 12 (by decide) 10 (by decide)) (any_of (Er.one 12 (by decide) 11 (by decide)) (any_of (Er.one 12 (by decide) 12 (by decide)) any_nil))))), fun _ => ?_, fun z => Bool.noConfusion z⟩
    refine fun a ha => ⟨_, rfl, _, _, rfl, rfl, ?_⟩
    exact q _ (same_new (Same.refl _) hd)
end
end K01
set_option Elab.async false
set_option linter.all false
set_option maxRecDepth 100000
set_option maxHeartbeats 4000000
/-! the errors: made, their classes -/
namespace K01
open PySem PySem.Spec PyProof.Rows L2 Wk
/-- the error with a number and a value, at a -/
def ErrAt (e : Es) (H : Hp) (a : Addr) (i : Nat) (v : V) : Prop := (i < 7 → ErrP H a (e.c i)) ∧ (7 ≤ i → ErrK H a (e.c i) (fld i) v)
theorem ErrAt.same {e : Es} {H H' : Hp} {a : Addr} {i : Nat} {v : V} (s : Same H H') (h : ErrAt e H a i v) : ErrAt e H' a i v :=
  ⟨fun z => s _ _ (h.1 z), fun z => by obtain ⟨d, h1, h2⟩ := h.2 z; exact ⟨d, s _ _ h1, s _ _ h2⟩⟩
theorem ErrAt.or {e : Es} {H : Hp} {a : Addr} {i : Nat} {v : V} (h : ErrAt e H a i v) : ErrP H a (e.c i) ∨ ∃ f v, ErrK H a (e.c i) f v := by
  by_cases z : i < 7
  · exact .inl (h.1 z)
  · exact .inr ⟨_, _, h.2 (by omega)⟩
theorem errAt_plain {e : Es} {H : Hp} {a : Addr} {i : Nat} {v : V} (hi : i < 7) : ErrAt e (upd H a (ExO (.ref (e.c i)) a)) a i v := ⟨fun _ => upd_same, fun z => by omega⟩
theorem errAt_kept {e : Es} {H : Hp} {a d : Addr} {i : Nat} {v : V} (hi : 7 ≤ i) (ne : a ≠ d) : ErrAt e (upd (upd H d (.xd [(fld i, v)])) a (exo a (e.c i) (some d))) a i v :=
  ⟨fun z => by omega, fun _ => ⟨d, upd_same, (upd_ne (Ne.symm ne)).trans upd_same⟩⟩
theorem same_two {H : Hp} {a d : Addr} {o o' : HO} (h1 : H d = none) (h2 : H a = none) (ne : a ≠ d) : Same H (upd (upd H d o) a o') :=
  (same_new (Same.refl _) h1).trans (same_new (Same.refl _) (by rw [upd_ne ne]; exact h2))
theorem same_none {H H' : Hp} {p : Addr} (s : Same H H') (h : H' p = none) : H p = none := by
  cases e : H p with
  | none => rfl
  | some o => rw [s _ _ e] at h; cases h
/-- what isinstance tells of the classes of Python -/
def basB : Nat → List Bool
  | 8 => [false, true, true, false, false, false, false]
  | 9 => [false, true, false, true, false, false, false]
  | 10 => [false, false, false, false, true, true, false]
  | 11 => [false, true, false, false, false, false, false]
  | 12 => [false, false, false, false, true, false, false]
  | _ => [true, false, false, false, false, false, false]
def clsL (i : Nat) : List V := [.bl (decide (i = 0)), .bl (decide (i = 1)), .bl (decide (i = 2)), .bl (decide (i = 3)), .bl (decide (i = 4)), .bl (decide (i = 5)), .bl (decide (i = 6)), .bl (decide (i = 7)), .bl (decide (i = 8)), .bl (decide (i = 9)), .bl (decide (i = 10)), .bl (decide (i = 11)), .bl (decide (i = 12)), .bl (decide (i < 8))]
def basN : Nat → String
  | 0 => "ValueError"
  | 1 => "LookupError"
  | 2 => "IndexError"
  | 3 => "KeyError"
  | 4 => "ArithmeticError"
  | 5 => "OverflowError"
  | _ => "ZeroDivisionError"
structure ErrB (K : PySem.W.Frag) (e : Es) : Prop where
  bas : ∀ i < 13, ∀ j < 7, PySem.W.kitOne K (.ref (e.c i)) (.type (basN j)) = some ((basB i).getD j false)
def basL (i : Nat) : List V := [.bl ((basB i).getD 0 false), .bl ((basB i).getD 1 false), .bl ((basB i).getD 2 false), .bl ((basB i).getD 3 false), .bl ((basB i).getD 4 false), .bl ((basB i).getD 5 false), .bl ((basB i).getD 6 false)]
section
variable {P : Program} {w : World} {K : PySem.W.Frag} {mg : Str → Option Value} {base : Heap} {e : Es}
/-- the error with a number is made -/
def spMade (e : Es) (n : Nat) : Sp := fun vs H Q _ => ∃ (i : Nat) (v : V), vs = [.int i, v] ∧ i < n ∧ ∀ a H', Same H H' → H a = none → ErrAt e H' a i v → Q (.ref a) H'
theorem seven {i : Nat} (h : i < 7) : i = 0 ∨ i = 1 ∨ i = 2 ∨ i = 3 ∨ i = 4 ∨ i = 5 ∨ i = 6 := by omega
theorem ok_L_made_plain (D : DefAt K mg "_law_made_plain" s_L_made_plain) (M : Txt mg) (Er : Errs K mg e) : Gc P w K mg base CX0 1 "_law_made_plain" (spMade e 7) := by
  refine D.ok0 sc_L_made_plain (fun kV doc pm an cdv ct us hl => match us, hl with | [_, _], _ => rfl) (fun vs H Q E h => by obtain ⟨i, v, rfl, _⟩ := h; rfl)
    (fun f cdv A outer s H vs Q E hr h => ?_)
  have nd := sc_L_made_plain.nd
  obtain ⟨i, v, rfl, hi, q⟩ := h
  refine ⟨_, (pss_cons (ps_if (pt_cmpR op_eq (pv 0) pe_int (nomark _))
      (pss_one (ps_ret (pe_plain Er.c0 rfl (pv 1)))) pss_nil)
      (pss_cons (ps_if (pt_cmpR op_eq (pv 0) pe_int (nomark _))
      (pss_one (ps_ret (pe_plain Er.c1 rfl (pv 1)))) pss_nil)
      (pss_cons (ps_if (pt_cmpR op_eq (pv 0) pe_int (nomark _))
      (pss_one (ps_ret (pe_plain Er.c2 rfl (pv 1)))) pss_nil)
      (pss_cons (ps_if (pt_cmpR op_eq (pv 0) pe_int (nomark _))
      (pss_one (ps_ret (pe_plain Er.c3 rfl (pv 1)))) pss_nil)
      (pss_cons (ps_if (pt_cmpR op_eq (pv 0) pe_int (nomark _))
      (pss_one (ps_ret (pe_plain Er.c4 rfl (pv 1)))) pss_nil)
      (pss_one (ps_ret (pe_ifExp (pt_cmpR op_eq (pv 0) pe_int (nomark _)) (pe_plain Er.c5 rfl (pv 1)) (pe_plain Er.c6 rfl (pv 1)))))))))), ?_⟩
  rcases seven hi with rfl | rfl | rfl | rfl | rfl | rfl | rfl
  · refine ⟨_, rfl, rfl, _, rfl, ?_⟩
    refine iteT ?_
    exact ⟨v, rfl, fun a ha => q a _ (same_new (Same.refl _) ha) ha (errAt_plain (i := 0) (by decide))⟩
  · refine ⟨_, rfl, rfl, _, rfl, ?_⟩
    refine iteF ?_
    refine ⟨_, rfl, rfl, _, rfl, ?_⟩
    refine iteT ?_
    exact ⟨v, rfl, fun a ha => q a _ (same_new (Same.refl _) ha) ha (errAt_plain (i := 1) (by decide))⟩
  · refine ⟨_, rfl, rfl, _, rfl, ?_⟩
    refine iteF ?_
    refine ⟨_, rfl, rfl, _, rfl, ?_⟩
    refine iteF ?_
    refine ⟨_, rfl, rfl, _, rfl, ?_⟩
    refine iteT ?_
    exact ⟨v, rfl, fun a ha => q a _ (same_new (Same.refl _) ha) ha (errAt_plain (i := 2) (by decide))⟩
  · refine ⟨_, rfl, rfl, _, rfl, ?_⟩
    refine iteF ?_
    refine ⟨_, rfl, rfl, _, rfl, ?_⟩
    refine iteF ?_
    refine ⟨_, rfl, rfl, _, rfl, ?_⟩
    refine iteF ?_
    refine ⟨_, rfl, rfl, _, rfl, ?_⟩
    refine iteT ?_
    exact ⟨v, rfl, fun a ha => q a _ (same_new (Same.refl _) ha) ha (errAt_plain (i := 3) (by decide))⟩
  · refine ⟨_, rfl, rfl, _, rfl, ?_⟩
    refine iteF ?_
    refine ⟨_, rfl, rfl, _, rfl, ?_⟩
    refine iteF ?_
    refine ⟨_, rfl, rfl, _, rfl, ?_⟩
    refine iteF ?_
    refine ⟨_, rfl, rfl, _, rfl, ?_⟩
    refine iteF ?_
    refine ⟨_, rfl, rfl, _, rfl, ?_⟩
    refine iteT ?_
    exact ⟨v, rfl, fun a ha => q a _ (same_new (Same.refl _) ha) ha (errAt_plain (i := 4) (by decide))⟩
  · refine ⟨_, rfl, rfl, _, rfl, ?_⟩
    refine iteF ?_
    refine ⟨_, rfl, rfl, _, rfl, ?_⟩
    refine iteF ?_
    refine ⟨_, rfl, rfl, _, rfl, ?_⟩
    refine iteF ?_
    refine ⟨_, rfl, rfl, _, rfl, ?_⟩
    refine iteF ?_
    refine ⟨_, rfl, rfl, _, rfl, ?_⟩
    refine iteF ?_
    refine ⟨_, rfl, rfl, _, rfl, ?_⟩
    refine iteT ?_
    exact ⟨v, rfl, fun a ha => q a _ (same_new (Same.refl _) ha) ha (errAt_plain (i := 5) (by decide))⟩
  · refine ⟨_, rfl, rfl, _, rfl, ?_⟩
    refine iteF ?_
    refine ⟨_, rfl, rfl, _, rfl, ?_⟩
    refine iteF ?_
    refine ⟨_, rfl, rfl, _, rfl, ?_⟩
    refine iteF ?_
    refine ⟨_, rfl, rfl, _, rfl, ?_⟩
    refine iteF ?_
    refine ⟨_, rfl, rfl, _, rfl, ?_⟩
    refine iteF ?_
    refine ⟨_, rfl, rfl, _, rfl, ?_⟩
    refine iteF ?_
    exact ⟨v, rfl, fun a ha => q a _ (same_new (Same.refl _) ha) ha (errAt_plain (i := 6) (by decide))⟩
theorem ok_L_made (D : DefAt K mg "_law_made" s_L_made) (M : Txt mg) (Er : Errs K mg e) (C_L_made_plain : Gc P w K mg base CX0 1 "_law_made_plain" (spMade e 7)) : Gc P w K mg base CX0 2 "_law_made" (spMade e 13) := by
  refine D.ok0 sc_L_made (fun kV doc pm an cdv ct us hl => match us, hl with | [_, _], _ => rfl) (fun vs H Q E h => by obtain ⟨i, v, rfl, _⟩ := h; rfl)
    (fun f cdv A outer s H vs Q E hr h => ?_)
  have nd := sc_L_made.nd
  obtain ⟨i, v, rfl, hi, q⟩ := h
  refine ⟨_, (pss_cons (ps_if (pt_cmpR op_lt (pv 0) pe_int (nomark _))
      (pss_one (ps_ret (pe_g C_L_made_plain hr (by decide) (by rfl) pass0 (pa_cons (pv 0) (pa_cons (pv 1) pa_nil))))) pss_nil)
      (pss_cons (ps_if (pt_cmpR op_eq (pv 0) pe_int (nomark _))
      (pss_one (ps_ret (pe_kept Er.c7.kept (PySem.WkX.init_index Er.c7.kept) hr.room rfl (pa_cons (pv 1) pa_nil)))) pss_nil)
      (pss_cons (ps_if (pt_cmpR op_eq (pv 0) pe_int (nomark _))
      (pss_one (ps_ret (pe_kept Er.c8.kept (PySem.WkX.init_value Er.c8.kept) hr.room rfl (pa_cons (pv 1) pa_nil)))) pss_nil)
      (pss_cons (ps_if (pt_cmpR op_eq (pv 0) pe_int (nomark _))
      (pss_one (ps_ret (pe_kept Er.c9.kept (PySem.WkX.init_name Er.c9.kept) hr.room rfl (pa_cons (pv 1) pa_nil)))) pss_nil)
      (pss_cons (ps_if (pt_cmpR op_eq (pv 0) pe_int (nomark _))
      (pss_one (ps_ret (pe_kept Er.c10.kept (PySem.WkX.init_limit Er.c10.kept) hr.room rfl (pa_cons (pv 1) pa_nil)))) pss_nil)
      (pss_one (ps_ret (pe_ifExp (pt_cmpR op_eq (pv 0) pe_int (nomark _)) (pe_kept Er.c11.kept (PySem.WkX.init_many Er.c11.kept) hr.room rfl (pa_cons (pv 1) pa_nil)) (pe_kept Er.c12.kept (PySem.WkX.init_edge Er.c12.kept) hr.room rfl (pa_cons (pv 1) pa_nil)))))))))), ?_⟩
  refine ⟨_, rfl, _, _, rfl, rfl, _, rfl, ite2 (fun hc => ?_) (fun hc => ?_)⟩
  · have h7 : i < 7 := by
      have := of_decide_eq_true hc
      omega
    exact ⟨_, rfl, _, rfl, i, v, rfl, h7, q⟩
  have h7 : 7 ≤ i := by
    have : ¬ ((i : Int) < 7) := fun z => hc (decide_eq_true z)
    omega
  rcases (by omega : i = 7 ∨ i = 8 ∨ i = 9 ∨ i = 10 ∨ i = 11 ∨ i = 12) with rfl | rfl | rfl | rfl | rfl | rfl
  · refine ⟨_, rfl, rfl, _, rfl, ?_⟩
    refine iteT ?_
    exact ⟨v, rfl, v, rfl, fun d a hd ha ne => q a _ (same_two hd ha ne) ha (errAt_kept (i := 7) (by decide) ne)⟩
  · refine ⟨_, rfl, rfl, _, rfl, ?_⟩
    refine iteF ?_
    refine ⟨_, rfl, rfl, _, rfl, ?_⟩
    refine iteT ?_
    exact ⟨v, rfl, v, rfl, fun d a hd ha ne => q a _ (same_two hd ha ne) ha (errAt_kept (i := 8) (by decide) ne)⟩
  · refine ⟨_, rfl, rfl, _, rfl, ?_⟩
    refine iteF ?_
    refine ⟨_, rfl, rfl, _, rfl, ?_⟩
    refine iteF ?_
    refine ⟨_, rfl, rfl, _, rfl, ?_⟩
    refine iteT ?_
    exact ⟨v, rfl, v, rfl, fun d a hd ha ne => q a _ (same_two hd ha ne) ha (errAt_kept (i := 9) (by decide) ne)⟩
  · refine ⟨_, rfl, rfl, _, rfl, ?_⟩
    refine iteF ?_
    refine ⟨_, rfl, rfl, _, rfl, ?_⟩
    refine iteF ?_
    refine ⟨_, rfl, rfl, _, rfl, ?_⟩
    refine iteF ?_
    refine ⟨_, rfl, rfl, _, rfl, ?_⟩
    refine iteT ?_
    exact ⟨v, rfl, v, rfl, fun d a hd ha ne => q a _ (same_two hd ha ne) ha (errAt_kept (i := 10) (by decide) ne)⟩
  · refine ⟨_, rfl, rfl, _, rfl, ?_⟩
    refine iteF ?_
    refine ⟨_, rfl, rfl, _, rfl, ?_⟩
    refine iteF ?_
    refine ⟨_, rfl, rfl, _, rfl, ?_⟩
    refine iteF ?_
    refine ⟨_, rfl, rfl, _, rfl, ?_⟩
    refine iteF ?_
    refine ⟨_, rfl, rfl, _, rfl, ?_⟩
    refine iteT ?_
    exact ⟨v, rfl, v, rfl, fun d a hd ha ne => q a _ (same_two hd ha ne) ha (errAt_kept (i := 11) (by decide) ne)⟩
  · refine ⟨_, rfl, rfl, _, rfl, ?_⟩
    refine iteF ?_
    refine ⟨_, rfl, rfl, _, rfl, ?_⟩
    refine iteF ?_
    refine ⟨_, rfl, rfl, _, rfl, ?_⟩
    refine iteF ?_
    refine ⟨_, rfl, rfl, _, rfl, ?_⟩
    refine iteF ?_
    refine ⟨_, rfl, rfl, _, rfl, ?_⟩
    refine iteF ?_
    exact ⟨v, rfl, v, rfl, fun d a hd ha ne => q a _ (same_two hd ha ne) ha (errAt_kept (i := 12) (by decide) ne)⟩
/-- the classes of an error -/
def spClasses (e : Es) (r : Nat → List V) : Sp := fun vs H Q _ => ∃ (a : Addr) (i : Nat) (v : V), vs = [.ref a] ∧ i < 13 ∧ ErrAt e H a i v ∧ ∀ l H', Same H H' → H l = none → H' l = some (.lst (r i)) → Q (.ref l) H'
theorem ok_L_classes (D : DefAt K mg "_law_classes" s_L_classes) (M : Txt mg) (Er : Errs K mg e) : Gc P w K mg base CX0 1 "_law_classes" (spClasses e clsL) := by
  refine D.ok0 sc_L_classes (fun kV doc pm an cdv ct us hl => match us, hl with | [_], _ => rfl) (fun vs H Q E h => by obtain ⟨a, i, v, rfl, _⟩ := h; rfl)
    (fun f cdv A outer s H vs Q E hr h => ?_)
  have nd := sc_L_classes.nd
  obtain ⟨a, i, v, rfl, hi, er, q⟩ := h
  refine ⟨_, (pss_cons (ps_set (i := 1) nd rfl (Or.inl rfl) (pe_lst (pa_cons (pe_callB call_isH (by rfl) M.isinstance (by decide +kernel) (pa_cons (pv 0) (pa_cons (pe_glob rfl Er.c0.gC (v := .ref (e.c0)) rfl) pa_nil))) (pa_cons (pe_callB call_isH (by rfl) M.isinstance (by decide +kernel) (pa_cons (pv 0) (pa_cons (pe_glob rfl Er.c1.gC (v := .ref (e.c1)) rfl) pa_nil))) (pa_cons (pe_callB call_isH (by rfl) M.isinstance (by decide +kernel) (pa_cons (pv 0) (pa_cons (pe_glob rfl Er.c2.gC (v := .ref (e.c2)) rfl) pa_nil))) pa_nil)))))
      (pss_cons (ps_set (i := 1) nd rfl (Or.inl rfl) (pe_op op_cat (pv 1) (pe_lst (pa_cons (pe_callB call_isH (by rfl) M.isinstance (by decide +kernel) (pa_cons (pv 0) (pa_cons (pe_glob rfl Er.c3.gC (v := .ref (e.c3)) rfl) pa_nil))) (pa_cons (pe_callB call_isH (by rfl) M.isinstance (by decide +kernel) (pa_cons (pv 0) (pa_cons (pe_glob rfl Er.c4.gC (v := .ref (e.c4)) rfl) pa_nil))) pa_nil)))))
      (pss_cons (ps_set (i := 1) nd rfl (Or.inl rfl) (pe_op op_cat (pv 1) (pe_lst (pa_cons (pe_callB call_isH (by rfl) M.isinstance (by decide +kernel) (pa_cons (pv 0) (pa_cons (pe_glob rfl Er.c5.gC (v := .ref (e.c5)) rfl) pa_nil))) (pa_cons (pe_callB call_isH (by rfl) M.isinstance (by decide +kernel) (pa_cons (pv 0) (pa_cons (pe_glob rfl Er.c6.gC (v := .ref (e.c6)) rfl) pa_nil))) pa_nil)))))
      (pss_cons (ps_set (i := 1) nd rfl (Or.inl rfl) (pe_op op_cat (pv 1) (pe_lst (pa_cons (pe_callB call_isH (by rfl) M.isinstance (by decide +kernel) (pa_cons (pv 0) (pa_cons (pe_glob rfl Er.c7.gC (v := .ref (e.c7)) rfl) pa_nil))) pa_nil))))
      (pss_cons (ps_set (i := 2) nd rfl (Or.inl rfl) (pe_lst (pa_cons (pe_callB call_isH (by rfl) M.isinstance (by decide +kernel) (pa_cons (pv 0) (pa_cons (pe_glob rfl Er.c8.gC (v := .ref (e.c8)) rfl) pa_nil))) (pa_cons (pe_callB call_isH (by rfl) M.isinstance (by decide +kernel) (pa_cons (pv 0) (pa_cons (pe_glob rfl Er.c9.gC (v := .ref (e.c9)) rfl) pa_nil))) (pa_cons (pe_callB call_isH (by rfl) M.isinstance (by decide +kernel) (pa_cons (pv 0) (pa_cons (pe_glob rfl Er.c10.gC (v := .ref (e.c10)) rfl) pa_nil))) pa_nil)))))
      (pss_one (ps_ret (pe_op op_cat (pe_op op_cat (pv 1) (pv 2)) (pe_lst (pa_cons (pe_callB call_isH (by rfl) M.isinstance (by decide +kernel) (pa_cons (pv 0) (pa_cons (pe_glob rfl Er.c11.gC (v := .ref (e.c11)) rfl) pa_nil))) (pa_cons (pe_callB call_isH (by rfl) M.isinstance (by decide +kernel) (pa_cons (pv 0) (pa_cons (pe_glob rfl Er.c12.gC (v := .ref (e.c12)) rfl) pa_nil))) (pa_cons (pe_callB call_isH (by rfl) M.isinstance (by decide +kernel) (pa_cons (pv 0) (pa_cons (pe_glob rfl Er.w.gC (v := .ref (e.w)) rfl) pa_nil))) pa_nil)))))))))))), ?_⟩
  refine ⟨_, rfl, a, e.c i, _, _, _, rfl, (er.same (Same.refl _)).or, Er.exc i hi, (fun u h => h), Er.kit i hi 0 (by decide), _, rfl, a, e.c i, _, _, _, rfl, (er.same (Same.refl _)).or, Er.exc i hi, (fun u h => h), Er.kit i hi 1 (by decide), _, rfl, a, e.c i, _, _, _, rfl, (er.same (Same.refl _)).or, Er.exc i hi, (fun u h => h), Er.kit i hi 2 (by decide), (by show 3 ≤ sizeLine; decide), fun l1 h1 => ?_⟩
  refine ⟨_, rfl, _, rfl, a, e.c i, _, _, _, rfl, (er.same (same_new (Same.refl _) h1)).or, Er.exc i hi, (fun u h => h), Er.kit i hi 3 (by decide), _, rfl, a, e.c i, _, _, _, rfl, (er.same (same_new (Same.refl _) h1)).or, Er.exc i hi, (fun u h => h), Er.kit i hi 4 (by decide), (by show 2 ≤ sizeLine; decide), fun l2 h2 => ?_⟩
  refine ⟨_, _, _, _, rfl, rfl, (same_new (Same.refl _) h2) _ _ upd_same, upd_same, (by show 5 ≤ sizeLine; decide), fun l3 h3 => ?_⟩
  refine ⟨_, rfl, _, rfl, a, e.c i, _, _, _, rfl, (er.same (same_new (same_new (same_new (Same.refl _) h1) h2) h3)).or, Er.exc i hi, (fun u h => h), Er.kit i hi 5 (by decide), _, rfl, a, e.c i, _, _, _, rfl, (er.same (same_new (same_new (same_new (Same.refl _) h1) h2) h3)).or, Er.exc i hi, (fun u h => h), Er.kit i hi 6 (by decide), (by show 2 ≤ sizeLine; decide), fun l4 h4 => ?_⟩
  refine ⟨_, _, _, _, rfl, rfl, (same_new (Same.refl _) h4) _ _ upd_same, upd_same, (by show 7 ≤ sizeLine; decide), fun l5 h5 => ?_⟩
  refine ⟨_, rfl, _, rfl, a, e.c i, _, _, _, rfl, (er.same (same_new (same_new (same_new (same_new (same_new (Same.refl _) h1) h2) h3) h4) h5)).or, Er.exc i hi, (fun u h => h), Er.kit i hi 7 (by decide), (by show 1 ≤ sizeLine; decide), fun l6 h6 => ?_⟩
  refine ⟨_, _, _, _, rfl, rfl, (same_new (Same.refl _) h6) _ _ upd_same, upd_same, (by show 8 ≤ sizeLine; decide), fun l7 h7 => ?_⟩
  refine ⟨_, rfl, a, e.c i, _, _, _, rfl, (er.same (same_new (same_new (same_new (same_new (same_new (same_new (same_new (Same.refl _) h1) h2) h3) h4) h5) h6) h7)).or, Er.exc i hi, (fun u h => h), Er.kit i hi 8 (by decide), _, rfl, a, e.c i, _, _, _, rfl, (er.same (same_new (same_new (same_new (same_new (same_new (same_new (same_new (Same.refl _) h1) h2) h3) h4) h5) h6) h7)).or, Er.exc i hi, (fun u h => h), Er.kit i hi 9 (by decide), _, rfl, a, e.c i, _, _, _, rfl, (er.same (same_new (same_new (same_new (same_new (same_new (same_new (same_new (Same.refl _) h1) h2) h3) h4) h5) h6) h7)).or, Er.exc i hi, (fun u h => h), Er.kit i hi 10 (by decide), (by show 3 ≤ sizeLine; decide), fun l8 h8 => ?_⟩
  refine ⟨_, rfl, _, rfl, _, _, _, _, rfl, rfl, (same_new (Same.refl _) h8) _ _ upd_same, upd_same, (by show 11 ≤ sizeLine; decide), fun l9 h9 => ?_⟩
  refine ⟨_, rfl, a, e.c i, _, _, _, rfl, (er.same (same_new (same_new (same_new (same_new (same_new (same_new (same_new (same_new (same_new (Same.refl _) h1) h2) h3) h4) h5) h6) h7) h8) h9)).or, Er.exc i hi, (fun u h => h), Er.kit i hi 11 (by decide), _, rfl, a, e.c i, _, _, _, rfl, (er.same (same_new (same_new (same_new (same_new (same_new (same_new (same_new (same_new (same_new (Same.refl _) h1) h2) h3) h4) h5) h6) h7) h8) h9)).or, Er.exc i hi, (fun u h => h), Er.kit i hi 12 (by decide), _, rfl, a, e.c i, _, _, _, rfl, (er.same (same_new (same_new (same_new (same_new (same_new (same_new (same_new (same_new (same_new (Same.refl _) h1) h2) h3) h4) h5) h6) h7) h8) h9)).or, Er.exc i hi, (fun u h => h), Er.kitW i hi, (by show 3 ≤ sizeLine; decide), fun l10 h10 => ?_⟩
  refine ⟨_, _, _, _, rfl, rfl, (same_new (Same.refl _) h10) _ _ upd_same, upd_same, (by show 14 ≤ sizeLine; decide), fun l11 h11 => ?_⟩
  exact q _ _ (same_new (same_new (same_new (same_new (same_new (same_new (same_new (same_new (same_new (same_new (same_new (Same.refl _) h1) h2) h3) h4) h5) h6) h7) h8) h9) h10) h11) (same_none (same_new (same_new (same_new (same_new (same_new (same_new (same_new (same_new (same_new (same_new (Same.refl _) h1) h2) h3) h4) h5) h6) h7) h8) h9) h10) h11) upd_same
theorem ok_L_bases (D : DefAt K mg "_law_bases" s_L_bases) (M : Txt mg) (Er : Errs K mg e) (Eb : ErrB K e) : Gc P w K mg base CX0 1 "_law_bases" (spClasses e basL) := by
  refine D.ok0 sc_L_bases (fun kV doc pm an cdv ct us hl => match us, hl with | [_], _ => rfl) (fun vs H Q E h => by obtain ⟨a, i, v, rfl, _⟩ := h; rfl)
    (fun f cdv A outer s H vs Q E hr h => ?_)
  have nd := sc_L_bases.nd
  obtain ⟨a, i, v, rfl, hi, er, q⟩ := h
  refine ⟨_, (pss_cons (ps_set (i := 1) nd rfl (Or.inl rfl) (pe_lst (pa_cons (pe_callB call_isH (by rfl) M.isinstance (by decide +kernel) (pa_cons (pv 0) (pa_cons (pe_bltn (v := .ty "ValueError") (by rfl) M.ValueError (by decide +kernel) rfl) pa_nil))) (pa_cons (pe_callB call_isH (by rfl) M.isinstance (by decide +kernel) (pa_cons (pv 0) (pa_cons (pe_bltn (v := .ty "LookupError") (by rfl) M.LookupError (by decide +kernel) rfl) pa_nil))) (pa_cons (pe_callB call_isH (by rfl) M.isinstance (by decide +kernel) (pa_cons (pv 0) (pa_cons (pe_bltn (v := .ty "IndexError") (by rfl) M.IndexError (by decide +kernel) rfl) pa_nil))) pa_nil)))))
      (pss_cons (ps_set (i := 1) nd rfl (Or.inl rfl) (pe_op op_cat (pv 1) (pe_lst (pa_cons (pe_callB call_isH (by rfl) M.isinstance (by decide +kernel) (pa_cons (pv 0) (pa_cons (pe_bltn (v := .ty "KeyError") (by rfl) M.KeyError (by decide +kernel) rfl) pa_nil))) (pa_cons (pe_callB call_isH (by rfl) M.isinstance (by decide +kernel) (pa_cons (pv 0) (pa_cons (pe_bltn (v := .ty "ArithmeticError") (by rfl) M.ArithmeticError (by decide +kernel) rfl) pa_nil))) (pa_cons (pe_callB call_isH (by rfl) M.isinstance (by decide +kernel) (pa_cons (pv 0) (pa_cons (pe_bltn (v := .ty "OverflowError") (by rfl) M.OverflowError (by decide +kernel) rfl) pa_nil))) pa_nil))))))
      (pss_one (ps_ret (pe_op op_cat (pv 1) (pe_lst (pa_cons (pe_callB call_isH (by rfl) M.isinstance (by decide +kernel) (pa_cons (pv 0) (pa_cons (pe_bltn (v := .ty "ZeroDivisionError") (by rfl) M.ZeroDivisionError (by decide +kernel) rfl) pa_nil))) pa_nil))))))), ?_⟩
  refine ⟨_, rfl, a, e.c i, _, _, _, rfl, (er.same (Same.refl _)).or, Er.exc i hi, (fun u h => h), Eb.bas i hi 0 (by decide), _, rfl, a, e.c i, _, _, _, rfl, (er.same (Same.refl _)).or, Er.exc i hi, (fun u h => h), Eb.bas i hi 1 (by decide), _, rfl, a, e.c i, _, _, _, rfl, (er.same (Same.refl _)).or, Er.exc i hi, (fun u h => h), Eb.bas i hi 2 (by decide), (by show 3 ≤ sizeLine; decide), fun l1 h1 => ?_⟩
  refine ⟨_, rfl, _, rfl, a, e.c i, _, _, _, rfl, (er.same (same_new (Same.refl _) h1)).or, Er.exc i hi, (fun u h => h), Eb.bas i hi 3 (by decide), _, rfl, a, e.c i, _, _, _, rfl, (er.same (same_new (Same.refl _) h1)).or, Er.exc i hi, (fun u h => h), Eb.bas i hi 4 (by decide), _, rfl, a, e.c i, _, _, _, rfl, (er.same (same_new (Same.refl _) h1)).or, Er.exc i hi, (fun u h => h), Eb.bas i hi 5 (by decide), (by show 3 ≤ sizeLine; decide), fun l2 h2 => ?_⟩
  refine ⟨_, _, _, _, rfl, rfl, (same_new (Same.refl _) h2) _ _ upd_same, upd_same, (by show 6 ≤ sizeLine; decide), fun l3 h3 => ?_⟩
  refine ⟨_, rfl, _, rfl, a, e.c i, _, _, _, rfl, (er.same (same_new (same_new (same_new (Same.refl _) h1) h2) h3)).or, Er.exc i hi, (fun u h => h), Eb.bas i hi 6 (by decide), (by show 1 ≤ sizeLine; decide), fun l4 h4 => ?_⟩
  refine ⟨_, _, _, _, rfl, rfl, (same_new (Same.refl _) h4) _ _ upd_same, upd_same, (by show 7 ≤ sizeLine; decide), fun l5 h5 => ?_⟩
  exact q _ _ (same_new (same_new (same_new (same_new (same_new (Same.refl _) h1) h2) h3) h4) h5) (same_none (same_new (same_new (same_new (same_new (Same.refl _) h1) h2) h3) h4) h5) upd_same
end
end K01
set_option Elab.async false
set_option linter.all false
set_option maxRecDepth 100000
set_option maxHeartbeats 4000000

/-! what is due -/
namespace K01
open PySem PySem.Spec PyProof.Rows L2 Wk
section
variable {P : Program} {w : World} {K : PySem.W.Frag} {mg : Str → Option Value} {base : Heap} {e : Es}
def someL : Nat → List V
  | 8 => [.int 1, .int 2]
  | 9 => [.int 1, .int 3]
  | 10 => [.int 4, .int 5]
  | 11 => [.int 1]
  | 12 => [.int 4]
  | _ => [.int 0]
theorem own_eq {i : Nat} (h : i < 13) : ((List.range 13).map fun j : Nat => V.bl (decide (V.int (0 + (j : Int)) = V.int (i : Int)))) ++ [V.bl (decide ((i : Int) < 8))] = clsL i := by
  rcases ten h with rfl | rfl | rfl | rfl | rfl | rfl | rfl | rfl | rfl | rfl | rfl | rfl | rfl <;> rfl
theorem bas_eq {i : Nat} (h : i < 13) : ((List.range 7).map fun j : Nat => V.bl (inV (.int (0 + (j : Int))) (someL i))) = basL i := by
  rcases ten h with rfl | rfl | rfl | rfl | rfl | rfl | rfl | rfl | rfl | rfl | rfl | rfl | rfl <;> rfl
theorem some_flat {i : Nat} (h : i < 13) : (someL i).all flatV = true := by
  rcases ten h with rfl | rfl | rfl | rfl | rfl | rfl | rfl | rfl | rfl | rfl | rfl | rfl | rfl <;> rfl
theorem range_snoc {α : Type} (f : Nat → α) (n : Nat) : ((List.range (n + 1)).map f) = ((List.range n).map f) ++ [f n] := by
  rw [List.range_succ, List.map_append]; rfl
/-- both lists, by the number -/
def spDue : Sp := fun vs H Q _ => ∃ (i : Nat), vs = [.int i] ∧ i < 13 ∧ ∀ l l1 l2 H', Same H H' → H' l1 = some (.lst (clsL i)) → H' l2 = some (.lst (basL i)) → H' l = some (.lst [.ref l1, .ref l2]) → Q (.ref l) H'
theorem ok_L_due (D : DefAt K mg "_law_due" s_L_due) (M : Txt mg) : Gc P w K mg base CX0 1 "_law_due" spDue := by
  refine D.ok0 sc_L_due (fun kV doc pm an cdv ct us hl => match us, hl with | [_], _ => rfl) (fun vs H Q E h => by obtain ⟨i, rfl, _⟩ := h; rfl)
    (fun f cdv A outer s H vs Q E hr h => ?_)
  have nd := sc_L_due.nd
  obtain ⟨i, rfl, hi, q⟩ := h
  refine ⟨_, (pss_cons (ps_set (i := 1) nd rfl (Or.inl rfl) (pe_op op_cat (pe_lc (own := [("_law_at", 2)]) (by rfl) nd (pi_range1 (by rfl) M.range (pa_cons pe_int pa_nil)) (blkOk_by (own := [("_law_at", 2)]) (N := NN_L_due) (sc := defScope s_L_due) (by decide +kernel)) (fun _ _ _ _ _ => pg_name (i := 2) nd rfl (Or.inl rfl)) (fun _ _ _ _ _ => pts_nil) (fun _ _ _ _ _ => (pe_cmpR op_eq (pv 2) (pv 0) (nomark _)))) (pe_lst (pa_cons (pe_cmpR op_lt (pv 0) pe_int (nomark _)) pa_nil))))
      (pss_cons (ps_set (i := 3) nd rfl (Or.inr rfl) (pe_dget2 hr.hu (pe_disp (pps_cons pe_int (pe_tup (pa_cons pe_int (pa_cons pe_int pa_nil))) (pps_cons pe_int (pe_tup (pa_cons pe_int (pa_cons pe_int pa_nil))) (pps_cons pe_int (pe_tup (pa_cons pe_int (pa_cons pe_int pa_nil))) (pps_cons pe_int (pe_tup (pa_cons pe_int pa_nil)) (pps_cons pe_int (pe_tup (pa_cons pe_int pa_nil)) pps_nil))))) (by rfl) (by rfl) (fun z => by cases z) (by decide)) (pv 0) (pe_tup (pa_cons pe_int pa_nil)) ⟨by rfl, by rfl, by rfl, by rfl⟩))
      (pss_one (ps_ret (pe_lst (pa_cons (pv 1) (pa_cons (pe_lc (own := [("_law_at", 2)]) (by rfl) nd (pi_range1 (by rfl) M.range (pa_cons pe_int pa_nil)) (blkOk_by (own := [("_law_at", 2)]) (N := NN_L_due) (sc := defScope s_L_due) (by decide +kernel)) (fun _ _ _ _ _ => pg_name (i := 2) nd rfl (Or.inl rfl)) (fun _ _ _ _ _ => pts_nil) (fun _ _ _ _ _ => (pe_cmpR (op_in_seqK (K := K) rfl) (pv 2) (pv 3) rfl))) pa_nil))))))), ?_⟩
  -- own
  refine ⟨13, rfl, by decide, by decide, fun D nD => ?_⟩
  refine lc_range (lo := 0) (n := 13) (fun j H2 => Same H H2 ∧ H2 D = some (.lst ((List.range j).map fun j : Nat => V.bl (decide (V.int (0 + (j : Int)) = V.int (i : Int)))))) ⟨same_new (Same.refl _) nD, upd_same⟩ (fun j H2 hj hp => ?_) (fun H2 hp => ?_)
  · obtain ⟨sm, eD⟩ := hp
    refine turn_yes rfl ?_
    refine ⟨_, rfl, _, rfl, rfl, ?_⟩
    refine ⟨_, eD, ?_, same_mut sm nD, ?_⟩
    · rw [List.length_map, List.length_range]
      exact Nat.lt_trans hj (by rw [sizeLine_eq]; decide)
    · rw [upd_same, range_snoc]
  obtain ⟨sm, eD⟩ := hp
  refine ⟨_, rfl, _, _, rfl, rfl, (by show 1 ≤ sizeLine; decide), fun l1 h1 => ?_⟩
  refine ⟨_, _, _, _, rfl, rfl, (same_new (Same.refl _) h1) _ _ eD, upd_same, ?_, fun l2 h2 => ?_⟩
  · rw [List.length_map, List.length_range]
    show 14 ≤ sizeLine
    decide
  rw [own_eq hi]
  have s2 : Same H (upd (upd H2 l1 (.lst [.bl (decide ((i : Int) < 8))])) l2 (.lst (clsL i))) := same_new (same_new sm h1) h2
  have e2 : (upd (upd H2 l1 (.lst [.bl (decide ((i : Int) < 8))])) l2 (.lst (clsL i))) l2 = some (.lst (clsL i)) := upd_same
  generalize (upd (upd H2 l1 (.lst [.bl (decide ((i : Int) < 8))])) l2 (.lst (clsL i))) = H3 at s2 e2
  -- some
  refine fun p hp => ?_
  refine ⟨(by show 2 ≤ sizeLine; decide), fun t8 n8 => ?_⟩
  refine ⟨(by show 2 ≤ sizeLine; decide), fun t9 n9 => ?_⟩
  refine ⟨(by show 2 ≤ sizeLine; decide), fun t10 n10 => ?_⟩
  refine ⟨(by show 1 ≤ sizeLine; decide), fun t11 n11 => ?_⟩
  refine ⟨(by show 1 ≤ sizeLine; decide), fun t12 n12 => ?_⟩
  refine ⟨(same_new (same_new (same_new (same_new (same_new (Same.refl _) n8) n9) n10) n11) n12) _ _ upd_same, [(.inl 8, .ref t8), (.inl 9, .ref t9), (.inl 10, .ref t10), (.inl 11, .ref t11), (.inl 12, .ref t12)], rfl, (by show 5 ≤ 15; decide), ?_⟩
  have S12 := same_new (o := .tup [.int 4]) (same_new (o := .tup [.int 1]) (same_new (o := .tup [.int 4, .int 5]) (same_new (o := .tup [.int 1, .int 3]) (same_new (o := .tup [.int 1, .int 2]) (same_new (o := .dK []) (Same.refl H3) hp) n8) n9) n10) n11) n12
  have p8 : t8 ≠ p := Ne.symm (ne_of_none upd_same n8)
  have q9 := same_new (o := .tup [.int 1, .int 2]) (Same.refl _) n8
  have p9 : t9 ≠ p := Ne.symm (ne_of_none (q9 _ _ upd_same) n9)
  have q10 := same_new (o := .tup [.int 1, .int 3]) q9 n9
  have p10 : t10 ≠ p := Ne.symm (ne_of_none (q10 _ _ upd_same) n10)
  have q11 := same_new (o := .tup [.int 4, .int 5]) q10 n10
  have p11 : t11 ≠ p := Ne.symm (ne_of_none (q11 _ _ upd_same) n11)
  have q12 := same_new (o := .tup [.int 1]) q11 n11
  have p12 : t12 ≠ p := Ne.symm (ne_of_none (q12 _ _ upd_same) n12)
  have e12 : upd (upd (upd (upd (upd (upd H3 p (.dK [])) t8 (.tup [.int 1, .int 2])) t9 (.tup [.int 1, .int 3])) t10 (.tup [.int 4, .int 5])) t11 (.tup [.int 1])) t12 (.tup [.int 4]) t12 = some (.tup [.int 4]) := upd_same
  have e11 : upd (upd (upd (upd (upd (upd H3 p (.dK [])) t8 (.tup [.int 1, .int 2])) t9 (.tup [.int 1, .int 3])) t10 (.tup [.int 4, .int 5])) t11 (.tup [.int 1])) t12 (.tup [.int 4]) t11 = some (.tup [.int 1]) := (same_new (Same.refl _) n12) _ _ upd_same
  have e10 : upd (upd (upd (upd (upd (upd H3 p (.dK [])) t8 (.tup [.int 1, .int 2])) t9 (.tup [.int 1, .int 3])) t10 (.tup [.int 4, .int 5])) t11 (.tup [.int 1])) t12 (.tup [.int 4]) t10 = some (.tup [.int 4, .int 5]) := (same_new (same_new (Same.refl _) n11) n12) _ _ upd_same
  have e9 : upd (upd (upd (upd (upd (upd H3 p (.dK [])) t8 (.tup [.int 1, .int 2])) t9 (.tup [.int 1, .int 3])) t10 (.tup [.int 4, .int 5])) t11 (.tup [.int 1])) t12 (.tup [.int 4]) t9 = some (.tup [.int 1, .int 3]) := (same_new (same_new (same_new (Same.refl _) n10) n11) n12) _ _ upd_same
  have e8 : upd (upd (upd (upd (upd (upd H3 p (.dK [])) t8 (.tup [.int 1, .int 2])) t9 (.tup [.int 1, .int 3])) t10 (.tup [.int 4, .int 5])) t11 (.tup [.int 1])) t12 (.tup [.int 4]) t8 = some (.tup [.int 1, .int 2]) := (same_new (same_new (same_new (same_new (Same.refl _) n9) n10) n11) n12) _ _ upd_same
  generalize upd (upd (upd (upd (upd (upd H3 p (.dK [])) t8 (.tup [.int 1, .int 2])) t9 (.tup [.int 1, .int 3])) t10 (.tup [.int 4, .int 5])) t11 (.tup [.int 1])) t12 (.tup [.int 4]) = H4 at S12 e8 e9 e10 e11 e12
  refine ⟨p, rfl, .inl ⟨_, .inl upd_same⟩, _, rfl, (by show 1 ≤ sizeLine; decide), fun t0 n0 => ?_⟩
  have p0 := same_new (o := .tup [.int 0]) (Same.refl _) n0
  refine ⟨_, DGet.k (k := .inl (i : Int)) (p0 _ _ upd_same), ?_⟩
  have S6 := same_new (o := .tup [.int 0]) (same_mut (o := .dK (mergeK [] [(.inl 8, .ref t8), (.inl 9, .ref t9), (.inl 10, .ref t10), (.inl 11, .ref t11), (.inl 12, .ref t12)])) S12 hp) n0
  have ex : ∃ t, (valV (mergeK [] [(.inl 8, .ref t8), (.inl 9, .ref t9), (.inl 10, .ref t10), (.inl 11, .ref t11), (.inl 12, .ref t12)]) (.inl (i : Int) : Key)).getD (.ref t0) = .ref t ∧
      (upd (upd H4 p (.dK (mergeK [] [(.inl 8, .ref t8), (.inl 9, .ref t9), (.inl 10, .ref t10), (.inl 11, .ref t11), (.inl 12, .ref t12)]))) t0 (.tup [.int 0])) t = some (.tup (someL i)) := by
    rcases ten hi with rfl | rfl | rfl | rfl | rfl | rfl | rfl | rfl | rfl | rfl | rfl | rfl | rfl
    · exact ⟨t0, rfl, upd_same⟩
    · exact ⟨t0, rfl, upd_same⟩
    · exact ⟨t0, rfl, upd_same⟩
    · exact ⟨t0, rfl, upd_same⟩
    · exact ⟨t0, rfl, upd_same⟩
    · exact ⟨t0, rfl, upd_same⟩
    · exact ⟨t0, rfl, upd_same⟩
    · exact ⟨t0, rfl, upd_same⟩
    · exact ⟨t8, rfl, p0 _ _ ((upd_ne p8).trans e8)⟩
    · exact ⟨t9, rfl, p0 _ _ ((upd_ne p9).trans e9)⟩
    · exact ⟨t10, rfl, p0 _ _ ((upd_ne p10).trans e10)⟩
    · exact ⟨t11, rfl, p0 _ _ ((upd_ne p11).trans e11)⟩
    · exact ⟨t12, rfl, p0 _ _ ((upd_ne p12).trans e12)⟩
  obtain ⟨t, et, ht⟩ := ex
  rw [et]
  have e6 := S6 _ _ e2
  have s6 := s2.trans S6
  generalize upd (upd H4 p (.dK (mergeK [] [(.inl 8, .ref t8), (.inl 9, .ref t9), (.inl 10, .ref t10), (.inl 11, .ref t11), (.inl 12, .ref t12)]))) t0 (.tup [.int 0]) = H6 at ht e6 s6
  -- the answer
  refine ⟨_, rfl, 7, rfl, by decide, by decide, fun D2 nD2 => ?_⟩
  refine lc_range (lo := 0) (n := 7) (fun j H2 => Same H6 H2 ∧ H2 D2 = some (.lst ((List.range j).map fun j : Nat => V.bl (inV (.int (0 + (j : Int))) (someL i))))) ⟨same_new (Same.refl _) nD2, upd_same⟩ (fun j H2 hj hp => ?_) (fun H2 hp => ?_)
  · obtain ⟨sm, eD⟩ := hp
    refine turn_yes rfl ?_
    refine ⟨_, rfl, _, rfl, t, someL i, rfl, .inr (SqT.of (sm _ _ ht)), rfl, some_flat hi, ?_⟩
    refine ⟨_, eD, ?_, same_mut sm nD2, ?_⟩
    · rw [List.length_map, List.length_range]
      exact Nat.lt_trans hj (by rw [sizeLine_eq]; decide)
    · rw [upd_same, range_snoc]
      rfl
  obtain ⟨sm, eD⟩ := hp
  refine ⟨(by show 2 ≤ sizeLine; decide), fun l nl => ?_⟩
  rw [bas_eq hi] at eD
  have z := same_new (o := .lst [.ref l2, .ref D2]) (Same.refl _) nl
  exact q l l2 D2 _ (s6.trans (sm.trans z)) (z _ _ (sm _ _ e6)) (z _ _ eD) upd_same
end
end K01
set_option Elab.async false
set_option linter.all false
set_option maxRecDepth 100000
set_option maxHeartbeats 4000000


/-! what an error keeps -/
namespace K01
open PySem PySem.Spec PyProof.Rows L2 Wk
/-- a def within a class of the text -/
def inner (st : Stmt) (i : Nat) : Stmt := match st with
  | .ClassDef (body := b) .. => b.getD i st
  | _ => st
abbrev s_str8 : Stmt := inner (topS 10) 1
abbrev s_str9 : Stmt := inner (topS 11) 1
theorem sc_str8 : FnScope ["self"] ["self"] (defScope s_str8) := ⟨rfl, rfl, rfl, by decide +kernel, rfl, by decide +kernel, by decide +kernel⟩
theorem sc_str9 : FnScope ["self"] ["self"] (defScope s_str9) := ⟨rfl, rfl, rfl, by decide +kernel, rfl, by decide +kernel, by decide +kernel⟩
/-- where a class's __str__ stands -/
structure StrAt (K : PySem.W.Frag) (C : Addr) (qn : Str) (st : Stmt) : Prop where
  ex : ∃ (f : Addr) (oc : Value) (od : Option Addr) (kV doc pm : Value) (an : Option Addr) (cdv ct : Value) (osl : Array (Option Value)),
    K.lookup f = some ⟨oc, od, .func (PySem.W.fnOf "__str__" qn (defArgs st) (defBody st) (defScope st) .none kV doc pm an cdv ct), osl⟩ ∧
      PySem.W.codeIn K cdv qn = true ∧ PySem.W.findIn K (.ref C) "__str__" = some (some (.ref f)) ∧ PySem.W.isFn K (.ref f) = true
/-- what a class's __str__ tells -/
def spStr (K : PySem.W.Frag) (C : Addr) (f : Str) : Sp := fun vs H Q _ => ∃ (a : Addr) (v : V) (t : Str), vs = [.ref a] ∧ ErrK H a C f v ∧ Shows K H v t ∧ Q (.str t) H
structure StrOk (P : Program) (w : World) (K : PySem.W.Frag) (mg : Str → Option Value) (base : Heap) (C : Addr) (f : Str) : Prop where
  ex : ∃ (a : Addr) (fd : FuncData), GFn P w K mg base CX0 1 a fd ["self"] (spStr K C f) ∧ Binds K fd ["self"] [] ∧ PySem.W.findIn K (.ref C) "__str__" = some (some (.ref a)) ∧ PySem.W.isFn K (.ref a) = true
theorem call_strK {X : Cx} {j : Nat} {C : Addr} {f : Str} (S : StrOk X.prog X.w X.K X.mg X.base C f) (hr : RoomG j X.A) (hj : 1 < j) : CallR X (.type "str") (rStrH X.K C (spStr X.K C f)) := by
  obtain ⟨a, fd, F, b, hi, hf⟩ := S.ex
  exact call_strH F hr hj b hi hf
section
variable {P : Program} {w : World} {K : PySem.W.Frag} {mg : Str → Option Value} {base : Heap} {e : Es}
theorem str_ok8 (D : StrAt K e.c8 "InvalidNumber.__str__" s_str8) (M : Txt mg) (Er : Errs K mg e) : StrOk P w K mg base e.c8 "value" := by
  obtain ⟨a, oc, od, kV, doc, pm, an, cdv, ct, osl, l, c, hi, hf⟩ := D.ex
  refine ⟨a, _, gfn_of l c sc_str8 (fun vs H Q E h => by obtain ⟨a, v, t, rfl, _⟩ := h; rfl) (fun A outer s H vs Q E hr h => ?_), .all (fun us hl => match us, hl with | [_], _ => rfl), hi, hf⟩
  have nd := sc_str8.nd
  obtain ⟨a, v, t, rfl, he, hs, q⟩ := h
  suffices hh : ∃ t, PSs (cxOf CX0 P w K mg base ["self"] "InvalidNumber.__str__" (defScope s_str8) _ cdv A outer s H E).nox (defBody s_str8) t ∧ t { nx := fun _ H' => Q .non H', rt := Q } (start ["self"] [.ref a]) H by
    obtain ⟨t, ht, qt⟩ := hh
    exact ⟨t, ht.nox, qt⟩
  refine ⟨_, (pss_one (ps_ret (pe_callB (call_showsK (K := K) rfl hr) (by rfl) M.repr (by decide +kernel) (pa_cons (pe_keptF Er.c8.kept (pv 0)) pa_nil)))), ?_⟩
  obtain ⟨d, h1, h2⟩ := he
  exact ⟨_, rfl, _, d, _, v, rfl, h1, h2, by simp [List.lookup], v, t, rfl, hs, q⟩
theorem str_ok9 (D : StrAt K e.c9 "UnknownName.__str__" s_str9) (M : Txt mg) (Er : Errs K mg e) : StrOk P w K mg base e.c9 "name" := by
  obtain ⟨a, oc, od, kV, doc, pm, an, cdv, ct, osl, l, c, hi, hf⟩ := D.ex
  refine ⟨a, _, gfn_of l c sc_str9 (fun vs H Q E h => by obtain ⟨a, v, t, rfl, _⟩ := h; rfl) (fun A outer s H vs Q E hr h => ?_), .all (fun us hl => match us, hl with | [_], _ => rfl), hi, hf⟩
  have nd := sc_str9.nd
  obtain ⟨a, v, t, rfl, he, hs, q⟩ := h
  suffices hh : ∃ t, PSs (cxOf CX0 P w K mg base ["self"] "UnknownName.__str__" (defScope s_str9) _ cdv A outer s H E).nox (defBody s_str9) t ∧ t { nx := fun _ H' => Q .non H', rt := Q } (start ["self"] [.ref a]) H by
    obtain ⟨t, ht, qt⟩ := hh
    exact ⟨t, ht.nox, qt⟩
  refine ⟨_, (pss_one (ps_ret (pe_callB (call_showsK (K := K) rfl hr) (by rfl) M.repr (by decide +kernel) (pa_cons (pe_keptF Er.c9.kept (pv 0)) pa_nil)))), ?_⟩
  obtain ⟨d, h1, h2⟩ := he
  exact ⟨_, rfl, _, d, _, v, rfl, h1, h2, by simp [List.lookup], v, t, rfl, hs, q⟩
/-- the error keeps its value -/
def spKept (K : PySem.W.Frag) (e : Es) : Sp := fun vs H Q _ => ∃ (i : Nat) (a : Addr) (v : V) (t : Str), vs = [.int i, .ref a, v] ∧ i < 13 ∧ ErrAt e H a i v ∧ Shows K H v t ∧ Q (.bl true) H
theorem ok_L_is_kept (D : DefAt K mg "_law_is_kept" s_L_is_kept) (M : Txt mg) (Er : Errs K mg e) (S8 : StrOk P w K mg base e.c8 "value") (S9 : StrOk P w K mg base e.c9 "name") : Gc P w K mg base CX0 3 "_law_is_kept" (spKept K e) := by
  refine D.ok0 sc_L_is_kept (fun kV doc pm an cdv ct us hl => match us, hl with | [_, _, _], _ => rfl) (fun vs H Q E h => by obtain ⟨i, a, v, t, rfl, _⟩ := h; rfl)
    (fun f cdv A outer s H vs Q E hr h => ?_)
  have nd := sc_L_is_kept.nd
  obtain ⟨i, a, v, t, rfl, hi, er, hs, q⟩ := h
  refine ⟨_, (pss_cons (ps_if (pt_cmpR op_eq (pv 0) pe_int (nomark _))
      (pss_one (ps_ret (pe_cmpR op_eq (pe_callB (call_showsK (K := K) rfl hr) (by rfl) M.repr (by decide +kernel) (pa_cons (pe_keptF Er.c7.kept (pv 1)) pa_nil)) (pe_callB (call_showsK (K := K) rfl hr) (by rfl) M.repr (by decide +kernel) (pa_cons (pv 2) pa_nil)) (nomark _)))) pss_nil)
      (pss_cons (ps_if (pt_cmpR op_eq (pv 0) pe_int (nomark _))
      (pss_one (ps_ret (pe_and (pe_cmpR op_eq (pe_callB (call_showsK (K := K) rfl hr) (by rfl) M.repr (by decide +kernel) (pa_cons (pe_keptF Er.c8.kept (pv 1)) pa_nil)) (pe_callB (call_showsK (K := K) rfl hr) (by rfl) M.repr (by decide +kernel) (pa_cons (pv 2) pa_nil)) (nomark _)) (pe_one (pe_cmpR op_eq (pe_callTy (call_strK S8 hr (by decide)) (by rfl) M.str (by decide +kernel) (pa_cons (pv 1) pa_nil)) (pe_callB (call_showsK (K := K) rfl hr) (by rfl) M.repr (by decide +kernel) (pa_cons (pv 2) pa_nil)) (nomark _)))))) pss_nil)
      (pss_cons (ps_if (pt_cmpR op_eq (pv 0) pe_int (nomark _))
      (pss_one (ps_ret (pe_and (pe_cmpR op_eq (pe_callB (call_showsK (K := K) rfl hr) (by rfl) M.repr (by decide +kernel) (pa_cons (pe_keptF Er.c9.kept (pv 1)) pa_nil)) (pe_callB (call_showsK (K := K) rfl hr) (by rfl) M.repr (by decide +kernel) (pa_cons (pv 2) pa_nil)) (nomark _)) (pe_one (pe_cmpR op_eq (pe_callTy (call_strK S9 hr (by decide)) (by rfl) M.str (by decide +kernel) (pa_cons (pv 1) pa_nil)) (pe_callB (call_showsK (K := K) rfl hr) (by rfl) M.repr (by decide +kernel) (pa_cons (pv 2) pa_nil)) (nomark _)))))) pss_nil)
      (pss_cons (ps_if (pt_cmpR op_eq (pv 0) pe_int (nomark _))
      (pss_one (ps_ret (pe_cmpR op_eq (pe_callB (call_showsK (K := K) rfl hr) (by rfl) M.repr (by decide +kernel) (pa_cons (pe_keptF Er.c10.kept (pv 1)) pa_nil)) (pe_callB (call_showsK (K := K) rfl hr) (by rfl) M.repr (by decide +kernel) (pa_cons (pv 2) pa_nil)) (nomark _)))) pss_nil)
      (pss_cons (ps_if (pt_cmpR op_eq (pv 0) pe_int (nomark _))
      (pss_one (ps_ret (pe_cmpR op_eq (pe_callB (call_showsK (K := K) rfl hr) (by rfl) M.repr (by decide +kernel) (pa_cons (pe_keptF Er.c11.kept (pv 1)) pa_nil)) (pe_callB (call_showsK (K := K) rfl hr) (by rfl) M.repr (by decide +kernel) (pa_cons (pv 2) pa_nil)) (nomark _)))) pss_nil)
      (pss_one (ps_ret (pe_or (pe_cmpR op_ne (pv 0) pe_int (nomark _)) (pe_one (pe_cmpR op_eq (pe_callB (call_showsK (K := K) rfl hr) (by rfl) M.repr (by decide +kernel) (pa_cons (pe_keptF Er.c12.kept (pv 1)) pa_nil)) (pe_callB (call_showsK (K := K) rfl hr) (by rfl) M.repr (by decide +kernel) (pa_cons (pv 2) pa_nil)) (nomark _))))))))))), ?_⟩
  rcases ten hi with rfl | rfl | rfl | rfl | rfl | rfl | rfl | rfl | rfl | rfl | rfl | rfl | rfl
  · refine ⟨_, rfl, rfl, _, rfl, ?_⟩
    refine iteF ?_
    refine ⟨_, rfl, rfl, _, rfl, ?_⟩
    refine iteF ?_
    refine ⟨_, rfl, rfl, _, rfl, ?_⟩
    refine iteF ?_
    refine ⟨_, rfl, rfl, _, rfl, ?_⟩
    refine iteF ?_
    refine ⟨_, rfl, rfl, _, rfl, ?_⟩
    refine iteF ?_
    refine ⟨_, rfl, rfl, _, rfl, ?_⟩
    refine iteT ?_
    exact q
  · refine ⟨_, rfl, rfl, _, rfl, ?_⟩
    refine iteF ?_
    refine ⟨_, rfl, rfl, _, rfl, ?_⟩
    refine iteF ?_
    refine ⟨_, rfl, rfl, _, rfl, ?_⟩
    refine iteF ?_
    refine ⟨_, rfl, rfl, _, rfl, ?_⟩
    refine iteF ?_
    refine ⟨_, rfl, rfl, _, rfl, ?_⟩
    refine iteF ?_
    refine ⟨_, rfl, rfl, _, rfl, ?_⟩
    refine iteT ?_
    exact q
  · refine ⟨_, rfl, rfl, _, rfl, ?_⟩
    refine iteF ?_
    refine ⟨_, rfl, rfl, _, rfl, ?_⟩
    refine iteF ?_
    refine ⟨_, rfl, rfl, _, rfl, ?_⟩
    refine iteF ?_
    refine ⟨_, rfl, rfl, _, rfl, ?_⟩
    refine iteF ?_
    refine ⟨_, rfl, rfl, _, rfl, ?_⟩
    refine iteF ?_
    refine ⟨_, rfl, rfl, _, rfl, ?_⟩
    refine iteT ?_
    exact q
  · refine ⟨_, rfl, rfl, _, rfl, ?_⟩
    refine iteF ?_
    refine ⟨_, rfl, rfl, _, rfl, ?_⟩
    refine iteF ?_
    refine ⟨_, rfl, rfl, _, rfl, ?_⟩
    refine iteF ?_
    refine ⟨_, rfl, rfl, _, rfl, ?_⟩
    refine iteF ?_
    refine ⟨_, rfl, rfl, _, rfl, ?_⟩
    refine iteF ?_
    refine ⟨_, rfl, rfl, _, rfl, ?_⟩
    refine iteT ?_
    exact q
  · refine ⟨_, rfl, rfl, _, rfl, ?_⟩
    refine iteF ?_
    refine ⟨_, rfl, rfl, _, rfl, ?_⟩
    refine iteF ?_
    refine ⟨_, rfl, rfl, _, rfl, ?_⟩
    refine iteF ?_
    refine ⟨_, rfl, rfl, _, rfl, ?_⟩
    refine iteF ?_
    refine ⟨_, rfl, rfl, _, rfl, ?_⟩
    refine iteF ?_
    refine ⟨_, rfl, rfl, _, rfl, ?_⟩
    refine iteT ?_
    exact q
  · refine ⟨_, rfl, rfl, _, rfl, ?_⟩
    refine iteF ?_
    refine ⟨_, rfl, rfl, _, rfl, ?_⟩
    refine iteF ?_
    refine ⟨_, rfl, rfl, _, rfl, ?_⟩
    refine iteF ?_
    refine ⟨_, rfl, rfl, _, rfl, ?_⟩
    refine iteF ?_
    refine ⟨_, rfl, rfl, _, rfl, ?_⟩
    refine iteF ?_
    refine ⟨_, rfl, rfl, _, rfl, ?_⟩
    refine iteT ?_
    exact q
  · refine ⟨_, rfl, rfl, _, rfl, ?_⟩
    refine iteF ?_
    refine ⟨_, rfl, rfl, _, rfl, ?_⟩
    refine iteF ?_
    refine ⟨_, rfl, rfl, _, rfl, ?_⟩
    refine iteF ?_
    refine ⟨_, rfl, rfl, _, rfl, ?_⟩
    refine iteF ?_
    refine ⟨_, rfl, rfl, _, rfl, ?_⟩
    refine iteF ?_
    refine ⟨_, rfl, rfl, _, rfl, ?_⟩
    refine iteT ?_
    exact q
  · obtain ⟨d, h1, h2⟩ := er.2 (by decide)
    refine ⟨_, rfl, rfl, _, rfl, ?_⟩
    refine iteT ?_
    refine ⟨_, rfl, _, d, _, v, rfl, h1, h2, by simp [fld, List.lookup], v, t, rfl, hs, _, rfl, v, t, rfl, hs, rfl, ?_⟩
    rw [decide_eq_true rfl]; exact q
  · obtain ⟨d, h1, h2⟩ := er.2 (by decide)
    refine ⟨_, rfl, rfl, _, rfl, ?_⟩
    refine iteF ?_
    refine ⟨_, rfl, rfl, _, rfl, ?_⟩
    refine iteT ?_
    refine ⟨_, rfl, _, d, _, v, rfl, h1, h2, by simp [fld, List.lookup], v, t, rfl, hs, _, rfl, v, t, rfl, hs, rfl, _, rfl, ?_⟩
    rw [if_pos (decide_eq_true rfl)]
    refine ⟨_, rfl, a, rfl, er.or, a, v, t, rfl, ⟨d, h1, h2⟩, hs, t, rfl, _, rfl, v, t, rfl, hs, rfl, ?_⟩
    rw [decide_eq_true rfl]; exact q
  · obtain ⟨d, h1, h2⟩ := er.2 (by decide)
    refine ⟨_, rfl, rfl, _, rfl, ?_⟩
    refine iteF ?_
    refine ⟨_, rfl, rfl, _, rfl, ?_⟩
    refine iteF ?_
    refine ⟨_, rfl, rfl, _, rfl, ?_⟩
    refine iteT ?_
    refine ⟨_, rfl, _, d, _, v, rfl, h1, h2, by simp [fld, List.lookup], v, t, rfl, hs, _, rfl, v, t, rfl, hs, rfl, _, rfl, ?_⟩
    rw [if_pos (decide_eq_true rfl)]
    refine ⟨_, rfl, a, rfl, er.or, a, v, t, rfl, ⟨d, h1, h2⟩, hs, t, rfl, _, rfl, v, t, rfl, hs, rfl, ?_⟩
    rw [decide_eq_true rfl]; exact q
  · obtain ⟨d, h1, h2⟩ := er.2 (by decide)
    refine ⟨_, rfl, rfl, _, rfl, ?_⟩
    refine iteF ?_
    refine ⟨_, rfl, rfl, _, rfl, ?_⟩
    refine iteF ?_
    refine ⟨_, rfl, rfl, _, rfl, ?_⟩
    refine iteF ?_
    refine ⟨_, rfl, rfl, _, rfl, ?_⟩
    refine iteT ?_
    refine ⟨_, rfl, _, d, _, v, rfl, h1, h2, by simp [fld, List.lookup], v, t, rfl, hs, _, rfl, v, t, rfl, hs, rfl, ?_⟩
    rw [decide_eq_true rfl]; exact q
  · obtain ⟨d, h1, h2⟩ := er.2 (by decide)
    refine ⟨_, rfl, rfl, _, rfl, ?_⟩
    refine iteF ?_
    refine ⟨_, rfl, rfl, _, rfl, ?_⟩
    refine iteF ?_
    refine ⟨_, rfl, rfl, _, rfl, ?_⟩
    refine iteF ?_
    refine ⟨_, rfl, rfl, _, rfl, ?_⟩
    refine iteF ?_
    refine ⟨_, rfl, rfl, _, rfl, ?_⟩
    refine iteT ?_
    refine ⟨_, rfl, _, d, _, v, rfl, h1, h2, by simp [fld, List.lookup], v, t, rfl, hs, _, rfl, v, t, rfl, hs, rfl, ?_⟩
    rw [decide_eq_true rfl]; exact q
  · obtain ⟨d, h1, h2⟩ := er.2 (by decide)
    refine ⟨_, rfl, rfl, _, rfl, ?_⟩
    refine iteF ?_
    refine ⟨_, rfl, rfl, _, rfl, ?_⟩
    refine iteF ?_
    refine ⟨_, rfl, rfl, _, rfl, ?_⟩
    refine iteF ?_
    refine ⟨_, rfl, rfl, _, rfl, ?_⟩
    refine iteF ?_
    refine ⟨_, rfl, rfl, _, rfl, ?_⟩
    refine iteF ?_
    refine ⟨_, rfl, rfl, _, rfl, ?_⟩
    refine iteF ?_
    refine ⟨_, rfl, _, d, _, v, rfl, h1, h2, by simp [fld, List.lookup], v, t, rfl, hs, _, rfl, v, t, rfl, hs, rfl, ?_⟩
    rw [decide_eq_true rfl]; exact q
end
end K01
set_option Elab.async false
set_option linter.all false
set_option maxRecDepth 100000
set_option maxHeartbeats 4000000


/-! an order, a value -/
namespace K01
open PySem PySem.Spec PyProof.Rows L2 Wk
/-! ### the mathematics -/
theorem joinL_len : ∀ ps : List (List Nat), (TL.joinL [] ps).length = (ps.map List.length).sum
  | [] => rfl
  | [p] => by simp [TL.joinL]
  | p :: q :: r => by
    have ih := joinL_len (q :: r)
    show (p ++ ([] ++ TL.joinL [] (q :: r))).length = _
    rw [List.nil_append, List.length_append, ih]
    simp only [List.map_cons, List.sum_cons]
theorem join_len (ys : List Str) : (Txt.join Str.empty ys).length = (ys.map (·.length)).sum := by
  have h := joinL_len (ys.map TL.tl)
  have e : TL.tl (Str.join Str.empty ys) = TL.joinL [] (ys.map TL.tl) := TL.tl_join Str.empty ys
  rw [← e, List.map_map] at h
  rw [TL.join_eq]
  have e1 : (TL.tl (Str.join Str.empty ys)).length = (Str.join Str.empty ys).length := by
    show (Str.join Str.empty ys).cps.toList.length = _
    rw [Array.length_toList]; rfl
  rw [e1] at h
  rw [h]
  congr 1
theorem cut_len (z : Str) (lo hi : Option Int) : (cutS z lo hi).length ≤ z.length := by
  unfold cutS
  show (List.toArray _).size ≤ z.cps.size
  rw [List.size_toArray, List.length_take, List.length_drop, Array.length_toList]
  omega
theorem signs_len (cs : List Nat) : ((cs.map fun c => (⟨#[c]⟩ : Str)).map (·.length)).sum = cs.length := by
  induction cs with
  | nil => rfl
  | cons c cs ih =>
    rw [List.map_cons, List.map_cons, List.sum_cons, ih, List.length_cons]
    show 1 + cs.length = _
    omega
theorem perm_pop {ws : List V} {k : Nat} {y : V} (h : ws[k]? = some y) : (y :: ws.eraseIdx k).Perm ws := by
  exact L2.erase_perm ws k y h

theorem seqIx {j n : Nat} (h : j < n) : seqIndex? (j : Int) n = some j :=
  (L2.ixN_seq (by unfold L2.ixN; rw [if_pos (by omega), if_pos (by omega)]; simp)).1
theorem sz1000 {n : Nat} (h : n ≤ 1000) : n ≤ sizeLine := Nat.le_trans h (by decide)
theorem szl {n : Nat} (h : n < 1000) : n < sizeLine := Nat.lt_of_lt_of_le h (by decide)
section
variable {P : Program} {w : World} {K : PySem.W.Frag} {mg : Str → Option Value} {base : Heap} {e : Es}
/-- a list in some order -/
def spOrder : Sp := fun vs H Q _ => ∃ (m a : Addr) (xs : List V), vs = [.ref m, .ref a] ∧ Ml H m ∧ a ≠ m ∧ H a = some (.lst xs) ∧ xs.length ≤ 900 ∧
  ∀ H' p ys, Kp m H H' → H p = none → H' p = some (.lst ys) → ys.Perm xs → Q (.ref p) H'
theorem ok_L_order (D : DefAt K mg "_law_order" s_L_order) (M : Txt mg) (C_L_grain : Gc P w K mg base CX0 1 "_law_grain" spGrain) :
    Gc P w K mg base CX0 2 "_law_order" spOrder := by
  refine D.ok0 sc_L_order (fun kV doc pm an cdv ct us hl => match us, hl with | [_, _], _ => rfl) (fun vs H Q E h => by obtain ⟨m, a, xs, rfl, _⟩ := h; rfl)
    (fun f cdv A outer s H vs Q E hr h => ?_)
  have nd := sc_L_order.nd
  obtain ⟨m, a, xs, rfl, ml, am, ha, few, q⟩ := h
  refine ⟨_, (pss_cons (ps_set (i := 2) nd rfl (Or.inr rfl) (pe_callTy (call_list_ofK (K := K) rfl) (by rfl) M.list (by decide +kernel) (pa_cons (pv 1) pa_nil)))
      (pss_one (ps_ret (pe_lc (own := [("_law_turn", 3)]) (by rfl) nd (pi_range1 (by rfl) M.range (pa_cons (pe_callB (call_len_seqK (K := K) rfl) (by rfl) M.len (by decide +kernel) (pa_cons (pv 1) pa_nil)) pa_nil)) (blkOk_by (own := [("_law_turn", 3)]) (N := NN_L_order) (sc := defScope s_L_order) (by decide +kernel)) (fun _ _ _ _ _ => pg_name (i := 3) nd rfl (Or.inl rfl)) (fun _ _ _ _ _ => pts_nil) (fun _ _ _ _ _ => (pe_bmK (K := K) rfl PySem.F.plainAttrs_list PySem.F.slot_list_pop PySem.F.type_list_pop mt_popAt (pv 2) (pa_cons (pe_g C_L_grain hr (by decide) (by rfl) pass0 (pa_cons (pv 0) (pa_cons (pe_callB (call_len_seqK (K := K) rfl) (by rfl) M.len (by decide +kernel) (pa_cons (pv 2) pa_nil)) pa_nil))) pa_nil))))))), ?_⟩
  refine ⟨_, rfl, a, xs, rfl, .inl (.inl (.inl ha)), fun l nl => ?_⟩
  have lm : l ≠ m := ml.ne nl
  have k1 : Kp m H (upd H l (.lst xs)) := (Kp.refl ml).new nl
  refine ⟨_, rfl, a, xs, rfl, .inl (.inl (.inl (k1.keep _ _ am ha))), xs.length, rfl, by omega, by omega, fun D nD => ?_⟩
  have nDH : H D = none := k1.free nD
  have Dm : D ≠ m := ml.ne nDH
  have lD : l ≠ D := ne_of_none upd_same nD
  refine lc_range (lo := 0) (n := xs.length) (fun i H2 => Kp m H H2 ∧ ∃ ws acc, H2 l = some (.lst ws) ∧ H2 D = some (.lst acc) ∧ (acc ++ ws).Perm xs ∧ acc.length = i)
    ⟨k1.new nD, xs, [], by rw [upd_ne lD, upd_same], upd_same, by rw [List.nil_append], rfl⟩ (fun i H2 hi hp => ?_) (fun H2 hp => ?_)
  · obtain ⟨k2, ws, acc, el, eD, pm, la⟩ := hp
    have lw : ws.length = xs.length - i := by
      have := pm.length_eq
      rw [List.length_append] at this
      omega
    refine turn_yes rfl ?_
    refine ⟨_, rfl, .inl ⟨rfl, _, .inl (.inl el)⟩, ?_⟩
    refine ⟨_, rfl, _, rfl, l, ws, rfl, .inl (.inl (.inl el)), m, ws.length, rfl, k2.ml, by omega, by omega, fun H3 r k3 r0 r1 => ?_⟩
    obtain ⟨j, rfl⟩ := Int.eq_ofNat_of_zero_le r0
    have jw : j < ws.length := by omega
    have el3 := k3.keep _ _ lm el
    have eD3 := k3.keep _ _ Dm eD
    have ej : ws[j]? = some ws[j] := List.getElem?_eq_getElem jw
    refine ⟨l, ws, j, j, ws[j], rfl, rfl, el3, by omega, by omega, ?_, ej, ?_⟩
    · exact seqIx jw
    · refine ⟨acc, by rw [upd_ne lD.symm]; exact eD3, ?_, ?_, ws.eraseIdx j, acc ++ [ws[j]], ?_, upd_same, ?_, ?_⟩
      · rw [la]; exact szl (by omega)
      · exact ((k2.trans k3).mut nl lm).mut nDH Dm
      · rw [upd_ne lD, upd_same]
      · rw [List.append_assoc, List.singleton_append]
        exact ((perm_pop ej).append_left acc).trans pm
      · rw [List.length_append, la]; rfl
  · obtain ⟨k2, ws, acc, el, eD, pm, la⟩ := hp
    have lw : ws = [] := by
      have := pm.length_eq
      rw [List.length_append] at this
      exact List.eq_nil_of_length_eq_zero (by omega)
    rw [lw, List.append_nil] at pm
    exact q H2 D acc k2 nDH eD pm

/-! ### values -/
theorem n_log {n : Int} (h : n.natAbs < 100000000000000000000) : n.natAbs.log2 < 1920 := by
  by_cases z : n.natAbs = 0
  · rw [z]; decide
  · have h3 : n.natAbs < 2 ^ 100 := by
      have : (2 : Nat) ^ 100 = 1267650600228229401496703205376 := by decide
      omega
    exact Nat.lt_trans ((Nat.log2_lt z).mpr h3) (by decide)
theorem shows_int {K : PySem.W.Frag} {H : Hp} {n : Int} (h : n.natAbs < 100000000000000000000) : Shows K H (.int n) (PyData.int n).shown :=
  .inl ⟨_, .int n, by simp [PyData.showable]; exact n_log h, by simp [PyData.depth], by simp only [PyData.shown]; exact Nat.le_trans (int_text_len_1921 (n_log h)) (by rw [sizeLine_eq]; decide), rfl⟩
theorem shows_str {K : PySem.W.Frag} {H : Hp} {x : Str} (h : (reprText x).length ≤ sizeLine) : Shows K H (.str x) (PyData.str x).shown :=
  .inl ⟨_, .str x, by simp [PyData.showable], by simp [PyData.depth], by simp only [PyData.shown]; exact h, rfl⟩
theorem shows_non {K : PySem.W.Frag} {H : Hp} : Shows K H .non (PyData.none).shown := .inl ⟨_, .non, by simp [PyData.showable], by simp [PyData.depth], by simp only [PyData.shown]; decide, rfl⟩
theorem shows_bl {K : PySem.W.Frag} {H : Hp} : Shows K H (.bl true) (PyData.bool true).shown := .inl ⟨_, .bl true, by simp [PyData.showable], by simp [PyData.depth], by simp only [PyData.shown]; decide, rfl⟩
theorem shows_t0 {K : PySem.W.Frag} {H : Hp} {p : Addr} (h : H p = some (.tup [])) : Shows K H (.ref p) (PyData.tuple []).shown :=
  .inl ⟨_, .tup (SqT.of h) .nil, by simp [PyData.showable, PyData.showableAll], by simp [PyData.depth, PyData.depthAll], by simp only [PyData.shown, PyData.shownAll]; decide +kernel, rfl⟩
theorem shows_t2 {K : PySem.W.Frag} {H : Hp} {p : Addr} (h : H p = some (.tup [.int 0, .str "a"])) : Shows K H (.ref p) (PyData.tuple [.int 0, .str "a"]).shown :=
  .inl ⟨_, .tup (SqT.of h) (.cons (.int 0) (.cons (.str "a") .nil)), by simp [PyData.showable, PyData.showableAll], by simp [PyData.depth, PyData.depthAll], by simp only [PyData.shown, PyData.shownAll]; decide +kernel, rfl⟩
theorem shows_l1 {K : PySem.W.Frag} {H : Hp} {p : Addr} (h : H p = some (.lst [.str "a"])) : Shows K H (.ref p) (PyData.list [.str "a"]).shown :=
  .inl ⟨_, .lst (SqL.of h) (.cons (.str "a") .nil), by simp [PyData.showable, PyData.showableAll], by simp [PyData.depth, PyData.depthAll], by simp only [PyData.shown, PyData.shownAll]; decide +kernel, rfl⟩
theorem shows_t3 {K : PySem.W.Frag} {H : Hp} {p : Addr} {n : Int} (hn : n.natAbs < 100000000000000000000) (h : H p = some (.tup [.int n, .str "a", .int 0])) : Shows K H (.ref p) (PyData.tuple [.int n, .str "a", .int 0]).shown := by
  refine .inl ⟨_, .tup (SqT.of h) (.cons (.int n) (.cons (.str "a") (.cons (.int 0) .nil))), ?_, by simp [PyData.depth, PyData.depthAll], ?_, rfl⟩
  · simp [PyData.showable, PyData.showableAll]
    exact n_log hn
  · simp only [PyData.shown, PyData.shownAll]
    have z := int_text_len_1921 (n_log hn)
    show (tupleText [Str.ofString (toString n), reprText "a", Str.ofString (toString (0 : Int))]).length ≤ sizeLine
    have e : tupleText [Str.ofString (toString n), reprText "a", Str.ofString (toString (0 : Int))] = Str.ofString "(" ++ (Str.ofString (toString n) ++ Str.ofString ", " ++ (reprText "a" ++ Str.ofString ", " ++ Str.ofString (toString (0 : Int)))) ++ Str.ofString ")" := rfl
    rw [e]
    simp only [Str.length_append]
    have a1 : (Str.ofString "(").length = 1 := rfl
    have a2 : (Str.ofString ", ").length = 2 := rfl
    have a3 : (reprText "a").length = 3 := by decide +kernel
    have a4 : (Str.ofString (toString (0 : Int))).length = 1 := by decide +kernel
    have a5 : (Str.ofString ")").length = 1 := rfl
    rw [a1, a2, a3, a4, a5, sizeLine_eq]
    omega
theorem joinL_singles : ∀ cs : List Nat, TL.joinL [] (cs.map fun c => [c]) = cs
  | [] => rfl
  | [c] => by simp [TL.joinL]
  | c :: d :: r => by
    have ih := joinL_singles (d :: r)
    show [c] ++ ([] ++ TL.joinL [] ((d :: r).map fun c => [c])) = _
    rw [ih]
    rfl
theorem join_signs (cs : List Nat) : (Txt.join (Str.ofString "") (cs.map fun c => (⟨#[c]⟩ : Str))).cps.toList = cs := by
  have e : TL.tl (Str.join Str.empty (cs.map fun c => (⟨#[c]⟩ : Str))) = TL.joinL [] ((cs.map fun c => (⟨#[c]⟩ : Str)).map TL.tl) := TL.tl_join Str.empty _
  rw [List.map_map] at e
  have e2 : TL.tl (Txt.join (Str.ofString "") (cs.map fun c => (⟨#[c]⟩ : Str))) = cs := by
    rw [TL.join_eq]
    exact e.trans (joinL_singles cs)
  exact e2
/-- a value that is drawn: what repr tells of it stays while what is new stays -/
def spValue (K : PySem.W.Frag) : Sp := fun vs H Q _ => ∃ (m : Addr) (i : Nat), vs = [.ref m, .int i] ∧ Ml H m ∧ i < 13 ∧
  ∀ H' v t, Kp m H H' → (∀ H'', (∀ b o, H b = none → H' b = some o → H'' b = some o) → Shows K H'' v t) → Q v H'
theorem ok_L_value (D : DefAt K mg "_law_value" s_L_value) (M : Txt mg) (C_L_grain : Gc P w K mg base CX0 1 "_law_grain" spGrain) (C_L_letter : Gc P w K mg base CX0 2 "_law_letter" spLetter) (C_L_one_of : Gc P w K mg base CX0 2 "_law_one_of" (spOneOf K)) :
    Gc P w K mg base CX0 3 "_law_value" (spValue K) := by
  refine D.ok0 sc_L_value (fun kV doc pm an cdv ct us hl => match us, hl with | [_, _], _ => rfl) (fun vs H Q E h => by obtain ⟨m, i, rfl, _⟩ := h; rfl)
    (fun f cdv A outer s H vs Q E hr h => ?_)
  have nd := sc_L_value.nd
  obtain ⟨m, i, rfl, ml, hi, q⟩ := h
  refine ⟨_, (pss_cons (ps_if (pt_cmpR op_lt (pv 1) pe_int (nomark _))
      (pss_one (ps_ret (pe_joinK (K := K) rfl pe_str (pe_lc (own := [("_law_at", 2)]) (by rfl) nd (pi_range1 (by rfl) M.range (pa_cons (pe_g C_L_grain hr (by decide) (by rfl) pass0 (pa_cons (pv 0) (pa_cons pe_int pa_nil))) pa_nil)) (blkOk_by (own := [("_law_at", 2)]) (N := NN_L_value) (sc := defScope s_L_value) (by decide +kernel)) (fun _ _ _ _ _ => pg_name (i := 2) nd rfl (Or.inl rfl)) (fun _ _ _ _ _ => pts_nil) (fun _ _ _ _ _ => (pe_g C_L_letter hr (by decide) (by rfl) pass0 (pa_cons (pv 0) pa_nil))))))) pss_nil)
      (pss_cons (ps_set (i := 3) nd rfl (Or.inl rfl) (pe_g C_L_grain hr (by decide) (by rfl) pass0 (pa_cons (pv 0) (pa_cons (pe_op op_powW pe_int pe_int) pa_nil))))
      (pss_cons (ps_if (pt_cmpR op_eq (pv 1) pe_int (nomark _))
      (pss_one (ps_ret (pe_g C_L_one_of hr (by decide) (by rfl) pass0 (pa_cons (pv 0) (pa_cons (pe_lst (pa_cons (pe_tup (pa_cons (pv 3) (pa_cons pe_str (pa_cons pe_int pa_nil)))) (pa_cons pe_non (pa_cons (pe_tup pa_nil) (pa_cons pe_str (pa_cons pe_int pa_nil)))))) pa_nil))))) pss_nil)
      (pss_cons (ps_set (i := 4) nd rfl (Or.inl rfl) (pe_lst (pa_cons (pv 3) (pa_cons (pe_op op_sub pe_int (pv 3)) (pa_cons pe_bl (pa_cons pe_non (pa_cons pe_str (pa_cons (pe_tup pa_nil) (pa_cons (pe_tup (pa_cons pe_int (pa_cons pe_str pa_nil))) (pa_cons (pe_lst (pa_cons pe_str pa_nil)) (pa_cons pe_dnewK pa_nil)))))))))))
      (pss_one (ps_ret (pe_ifExp (pt_cmpR (op_in_seqK (K := K) rfl) (pv 1) (pe_tup (pa_cons pe_int (pa_cons pe_int pa_nil))) rfl) (pe_g C_L_one_of hr (by decide) (by rfl) pass0 (pa_cons (pv 0) (pa_cons (pv 4) pa_nil))) (pv 3)))))))), ?_⟩
  refine ⟨_, rfl, _, _, rfl, rfl, _, rfl, ite2 (fun hc => ?_) (fun hc => ?_)⟩
  · -- a text
    refine ⟨⟨_, rfl⟩, _, rfl, m, 9, rfl, ml, by decide, by decide, fun H1 n k1 n0 n1 => ?_⟩
    refine ⟨n, rfl, by omega, by omega, fun B nB => ?_⟩
    have nB0 : H B = none := k1.free nB
    have Bm : B ≠ m := ml.ne nB0
    refine lc_range (lo := 0) (n := n.toNat) (fun i H2 => Kp m H H2 ∧ ∃ cs : List Nat, cs.length = i ∧ (∀ c ∈ cs, c < 16 ^ 8) ∧ H2 B = some (.lst (cs.map fun c => V.str ⟨#[c]⟩)))
      ⟨k1.new nB, [], rfl, by simp, upd_same⟩ (fun i H2 hi hp => ?_) (fun H2 hp => ?_)
    · obtain ⟨k2, cs, lc, cc, eB⟩ := hp
      refine turn_yes rfl ?_
      refine ⟨_, rfl, m, rfl, k2.ml, fun H3 c k3 c0 c1 => ?_⟩
      refine ⟨_, k3.keep _ _ Bm eB, ?_, (k2.trans k3).mut nB0 Bm, cs ++ [c], by rw [List.length_append, lc]; rfl, ?_, by rw [upd_same, List.map_append]; rfl⟩
      · rw [List.length_map, lc]
        exact szl (by omega)
      · intro x hx
        rcases List.mem_append.mp hx with hx | hx
        · exact cc x hx
        · rw [List.mem_singleton.mp hx]
          have : (16 : Nat) ^ 8 = 4294967296 := by decide
          omega
    obtain ⟨k2, cs, lc, cc, eB⟩ := hp
    refine ⟨_, B, cs.map (fun c => (⟨#[c]⟩ : Str)), rfl, rfl, .inl (.inl (.inl (by rw [List.map_map]; exact eB))), ?_, ?_⟩
    · rw [signs_len, lc, List.length_map]
      have : (Str.ofString "").length = 0 := rfl
      rw [this]
      omega
    refine q _ _ _ k2 fun H'' _ => shows_str ?_
    have z := StrLaws.reprText_len (Txt.join (Str.ofString "") (cs.map fun c => (⟨#[c]⟩ : Str))) (fun c hc => cc c (by rw [join_signs] at hc; exact hc))
    have y : (Txt.join (Str.ofString "") (cs.map fun c => (⟨#[c]⟩ : Str))).length = cs.length := by
      show (Txt.join Str.empty (cs.map fun c => (⟨#[c]⟩ : Str))).length = _
      rw [join_len, signs_len]
    rw [y, lc] at z
    refine Nat.le_trans z (sz1000 ?_)
    omega
  · have h7 : 7 ≤ i := by
      have : ¬ ((i : Int) < 7) := fun z => hc (decide_eq_true z)
      omega
    refine ⟨_, rfl, _, _, rfl, rfl, ⟨by decide, by decide⟩, m, _, rfl, ml, by decide, by decide, fun H1 n k1 n0 n1 => ?_⟩
    have e20 : (10 : Int) ^ Int.toNat 20 = 100000000000000000000 := by decide +kernel
    rw [e20] at n1
    have nb : n.natAbs < 100000000000000000000 := by omega
    have nb' : (0 - n).natAbs < 100000000000000000000 := by omega
    rcases (by omega : i = 12 ∨ i = 8 ∨ i = 9 ∨ i = 7 ∨ i = 10 ∨ i = 11) with rfl | hi'
    · refine ⟨_, rfl, rfl, _, rfl, ?_⟩
      refine iteT ?_
      refine ⟨_, rfl, _, rfl, (by show 3 ≤ sizeLine; decide), fun p1 h1 => ?_⟩
      refine ⟨(by show 0 ≤ sizeLine; decide), fun p2 h2 => ?_⟩
      refine ⟨(by show 5 ≤ sizeLine; decide), fun l hl => ?_⟩
      have k2 := k1.new (o := .tup [.int n, .str "a", .int 0]) h1
      have k3 := k2.new (o := .tup []) h2
      have k4 := k3.new (o := .lst [.ref p1, .non, .ref p2, .str "edge", .int 0]) hl
      refine ⟨m, l, _, rfl, k4.ml, k3.ml.ne hl, upd_same, (by show 0 < 5; decide), (by show 5 ≤ 1000; decide), fun H' v k hv => ?_⟩
      have kk := k4.trans k
      simp only [List.mem_cons, List.not_mem_nil, or_false] at hv
      rcases hv with rfl | rfl | rfl | rfl | rfl
      · exact q _ _ _ kk fun H'' hh => shows_t3 nb (hh p1 _ (k1.free h1) (k.keep _ _ (k1.ml.ne h1) ((same_new (same_new (Same.refl _) h2) hl) _ _ upd_same)))
      · exact q _ _ _ kk fun H'' hh => shows_non
      · exact q _ _ _ kk fun H'' hh => shows_t0 (hh p2 _ (k2.free h2) (k.keep _ _ (k2.ml.ne h2) ((same_new (Same.refl _) hl) _ _ upd_same)))
      · exact q _ _ _ kk fun H'' hh => shows_str (by decide +kernel)
      · exact q _ _ _ kk fun H'' hh => shows_int (by decide)
    have n12 : i ≠ 12 := by omega
    refine ⟨_, rfl, rfl, _, rfl, ?_⟩
    refine ite2 (fun z => absurd (V.int.inj (of_decide_eq_true z)) (by omega)) (fun _ => ?_)
    refine ⟨_, rfl, _, rfl, _, _, rfl, rfl, (by show 0 ≤ sizeLine; decide), fun p1 h1 => ?_⟩
    refine ⟨(by show 2 ≤ sizeLine; decide), fun p2 h2 => ?_⟩
    refine ⟨(by show 1 ≤ sizeLine; decide), fun p3 h3 => ?_⟩
    refine fun p4 h4 => ?_
    refine ⟨(by show 9 ≤ sizeLine; decide), fun l hl => ?_⟩
    have k2 := k1.new (o := .tup []) h1
    have k3 := k2.new (o := .tup [.int 0, .str "a"]) h2
    have k4 := k3.new (o := .lst [.str "a"]) h3
    have k5 := k4.new (o := .dK []) h4
    have k6 := k5.new (o := .lst [.int n, .int (0 - n), .bl true, .non, .str "x", .ref p1, .ref p2, .ref p3, .ref p4]) hl
    refine ⟨_, rfl, (by show 2 ≤ sizeLine; decide), fun t ht => ?_⟩
    have k7 := k6.new (o := .tup [.int 8, .int 9]) ht
    refine ⟨t, _, rfl, .inr (SqT.of upd_same), rfl, rfl, _, rfl, ?_⟩
    rcases (by omega : (i = 8 ∨ i = 9) ∨ (i = 7 ∨ i = 10 ∨ i = 11)) with h8 | h8
    · have : inV (.int (i : Int)) [.int 8, .int 9] = true := by rcases h8 with rfl | rfl <;> rfl
      refine ite2 (fun _ => ?_) (fun z => absurd this z)
      refine ⟨_, rfl, _, rfl, m, l, _, rfl, k7.ml, k5.ml.ne hl, (same_new (Same.refl _) ht) _ _ upd_same, (by show 0 < 9; decide), (by show 9 ≤ 1000; decide), fun H' v k hv => ?_⟩
      have kk := k7.trans k
      simp only [List.mem_cons, List.not_mem_nil, or_false] at hv
      rcases hv with rfl | rfl | rfl | rfl | rfl | rfl | rfl | rfl | rfl
      · exact q _ _ _ kk fun H'' hh => shows_int nb
      · exact q _ _ _ kk fun H'' hh => shows_int nb'
      · exact q _ _ _ kk fun H'' hh => shows_bl
      · exact q _ _ _ kk fun H'' hh => shows_non
      · exact q _ _ _ kk fun H'' hh => shows_str (by decide +kernel)
      · exact q _ _ _ kk fun H'' hh => shows_t0 (hh p1 _ (k1.free h1) (k.keep _ _ (k1.ml.ne h1) ((same_new (same_new (same_new (same_new (same_new (Same.refl _) h2) h3) h4) hl) ht) _ _ upd_same)))
      · exact q _ _ _ kk fun H'' hh => shows_t2 (hh p2 _ (k2.free h2) (k.keep _ _ (k2.ml.ne h2) ((same_new (same_new (same_new (same_new (Same.refl _) h3) h4) hl) ht) _ _ upd_same)))
      · exact q _ _ _ kk fun H'' hh => shows_l1 (hh p3 _ (k3.free h3) (k.keep _ _ (k3.ml.ne h3) ((same_new (same_new (same_new (Same.refl _) h4) hl) ht) _ _ upd_same)))
      · exact q _ _ _ kk fun H'' hh => .inr ⟨p4, rfl, hh p4 _ (k4.free h4) (k.keep _ _ (k4.ml.ne h4) ((same_new (same_new (Same.refl _) hl) ht) _ _ upd_same)), rfl⟩
    · have : inV (.int (i : Int)) [.int 8, .int 9] = false := by rcases h8 with rfl | rfl | rfl <;> rfl
      refine ite2 (fun z => absurd (this.symm.trans z) (by decide)) (fun _ => ?_)
      exact ⟨_, rfl, q _ _ _ k7 fun H'' hh => shows_int nb⟩
end
end K01
set_option Elab.async false
set_option linter.all false
set_option maxRecDepth 100000
set_option maxHeartbeats 4000000


/-! a cell -/
namespace K01
open PySem PySem.Spec PyProof.Rows L2 Wk
theorem _root_.Wk.Kp.same {m : Addr} {H H1 H2 : Hp} (k : Kp m H H1) (s : Same H1 H2) : Kp m H H2 :=
  ⟨fun c o n e => s _ _ (k.keep c o n e), by obtain ⟨x, y, z, h, p⟩ := k.ml; exact ⟨x, y, z, s _ _ h, p⟩⟩
/-- what is no list stays -/
def NL (H H' : Hp) : Prop := ∀ b o, (∀ ys, o ≠ .lst ys) → H b = some o → H' b = some o
theorem ErrAt.nl {e : Es} {H H' : Hp} {a : Addr} {i : Nat} {v : V} (s : NL H H') (h : ErrAt e H a i v) : ErrAt e H' a i v :=
  ⟨fun z => s _ _ (by intro ys; intro h; cases h) (h.1 z), fun z => by obtain ⟨d, h1, h2⟩ := h.2 z; exact ⟨d, s _ _ (by intro ys; intro h; cases h) h1, s _ _ (by intro ys; intro h; cases h) h2⟩⟩
/-- an error that has been made and noted: it stays while all but the mill and the list of the errors stays -/
def Row (K : PySem.W.Frag) (e : Es) (m MH : Addr) (H : Hp) (x : V) : Prop := ∃ (q : Addr) (i : Nat) (v : V) (a : Addr) (t : Str), x = .ref q ∧ i < 13 ∧
  ∀ H', (∀ b o, b ≠ m → b ≠ MH → H b = some o → H' b = some o) → H' q = some (.tup [.int i, v, .ref a]) ∧ ErrAt e H' a i v ∧ Shows K H' v t
theorem Row.keep {K : PySem.W.Frag} {e : Es} {m MH : Addr} {H H' : Hp} {x : V} (s : ∀ b o, b ≠ m → b ≠ MH → H b = some o → H' b = some o) (h : Row K e m MH H x) : Row K e m MH H' x := by
  obtain ⟨q, i, v, a, t, rfl, hi, hh⟩ := h
  exact ⟨q, i, v, a, t, rfl, hi, fun H2 s2 => hh H2 fun b o n1 n2 z => s2 b o n1 n2 (s b o n1 n2 z)⟩
def bsC (i : Nat) : List Bool := [decide (i = 0), decide (i = 1), decide (i = 2), decide (i = 3), decide (i = 4), decide (i = 5), decide (i = 6), decide (i = 7), decide (i = 8), decide (i = 9), decide (i = 10), decide (i = 11), decide (i = 12), decide (i < 8)]
def bsB (i : Nat) : List Bool := [(basB i).getD 0 false, (basB i).getD 1 false, (basB i).getD 2 false, (basB i).getD 3 false, (basB i).getD 4 false, (basB i).getD 5 false, (basB i).getD 6 false]
theorem dp_bools {K : PySem.W.Frag} {H : Hp} : ∀ bs : List Bool, DpAll K H (bs.map V.bl) (bs.map PyData.bool)
  | [] => .nil
  | b :: r => .cons (.bl b) (dp_bools r)
def dd (i : Nat) : PyData := .list [.list ((bsC i).map PyData.bool), .list ((bsB i).map PyData.bool)]
theorem dd_ok : ∀ i < 13, (dd i).showable = true ∧ (dd i).depth ≤ 60 ∧ (dd i).shown.length ≤ sizeLine := by decide +kernel
theorem dd_dp {K : PySem.W.Frag} {H : Hp} {l l1 l2 : Addr} {i : Nat} (h1 : H l1 = some (.lst (clsL i))) (h2 : H l2 = some (.lst (basL i))) (h : H l = some (.lst [.ref l1, .ref l2])) : Dp K H (.ref l) (dd i) :=
  .lst (SqL.of h) (.cons (.lst (SqL.of (show H l1 = some (.lst ((bsC i).map V.bl)) from h1)) (dp_bools _)) (.cons (.lst (SqL.of (show H l2 = some (.lst ((bsB i).map V.bl)) from h2)) (dp_bools _)) .nil))
section
variable {P : Program} {w : World} {K : PySem.W.Frag} {mg : Str → Option Value} {base : Heap} {e : Es}
theorem iteF' {c : Bool} {A B : Prop} (hc : c = false) (h : B) : if c = true then A else B := by rw [hc, if_neg Bool.false_ne_true]; exact h
def spCell : Sp := fun vs H Q _ => ∃ (m : Addr), vs = [.ref m] ∧ Ml H m ∧ ∀ H', Kp m H H' → Q (.bl true) H'
theorem ok_L_cell_right (D : DefAt K mg "_law_cell_right" s_L_cell_right) (M : Txt mg)
    (C_L_order : Gc P w K mg base CX0 2 "_law_order" spOrder) (C_L_value : Gc P w K mg base CX0 3 "_law_value" (spValue K)) (C_L_made : Gc P w K mg base CX0 2 "_law_made" (spMade e 13))
    (C_L_caught : Gc P w K mg base CX0 2 "_law_caught" spCaught) (C_L_is_caught_by_base : Gc P w K mg base CX0 2 "_law_is_caught_by_base" spBase)
    (C_L_classes : Gc P w K mg base CX0 1 "_law_classes" (spClasses e clsL)) (C_L_bases : Gc P w K mg base CX0 1 "_law_bases" (spClasses e basL)) (C_L_due : Gc P w K mg base CX0 1 "_law_due" spDue)
    (C_L_is_kept : Gc P w K mg base CX0 3 "_law_is_kept" (spKept K e)) :
    Gc P w K mg base CX0 4 "_law_cell_right" spCell := by
  refine D.ok0 sc_L_cell_right (fun kV doc pm an cdv ct us hl => match us, hl with | [_], _ => rfl) (fun vs H Q E h => by obtain ⟨m, rfl, _⟩ := h; rfl)
    (fun f cdv A outer s H vs Q E hr h => ?_)
  have nd := sc_L_cell_right.nd
  obtain ⟨m, rfl, ml, q⟩ := h
  refine ⟨_, (pss_cons (ps_set (i := 1) nd rfl (Or.inl rfl) (pe_lst pa_nil))
      (pss_cons (ps_for PassesOwn.never rfl (pi_list (pe_g C_L_order hr (by decide) (by rfl) pass0 (pa_cons (pv 0) (pa_cons (pe_op op_rep (pe_callTy (call_listRng rfl) (by rfl) M.list (by decide +kernel) (pa_cons (pe_callTy cr_range1 (by rfl) M.range (by decide +kernel) (pa_cons pe_int pa_nil)) pa_nil)) pe_int) pa_nil)))) (pg_name (i := 2) nd rfl (Or.inl rfl))
      (pss_cons (ps_set (i := 3) nd rfl (Or.inl rfl) (pe_g C_L_value hr (by decide) (by rfl) pass0 (pa_cons (pv 0) (pa_cons (pv 2) pa_nil))))
      (pss_cons (ps_expr (pe_bmK (K := K) rfl PySem.F.plainAttrs_list PySem.F.slot_list_append PySem.F.type_list_append mt_append (pv 1) (pa_cons (pe_tup (pa_cons (pv 2) (pa_cons (pv 3) (pa_cons (pe_g C_L_made hr (by decide) (by rfl) pass0 (pa_cons (pv 2) (pa_cons (pv 3) pa_nil))) pa_nil)))) pa_nil)))
      (pss_one (ps_if (PW.pt (pw_or (pt_cmpR op_ne (pe_g C_L_caught hr (by decide) (by rfl) pass0 (pa_cons (pv 2) (pa_cons (pv 3) pa_nil))) (pv 2) (nomark _)) (pw_or1 (pt_not (pt_val (pe_g C_L_is_caught_by_base hr (by decide) (by rfl) pass0 (pa_cons (pv 2) (pa_cons (pv 3) pa_nil))))))))
      (pss_one (ps_ret pe_bl)) pss_nil)))))
      (pss_cons (ps_for PassesOwn.never rfl (pi_list (pv 1)) (pg_tup (n := 3) rfl (pgs_cons (pg_name (i := 2) nd rfl (Or.inl rfl)) (pgs_cons (pg_name (i := 3) nd rfl (Or.inl rfl)) (pgs_cons (pg_name (i := 4) nd rfl (Or.inl rfl)) pgs_nil))))
      (pss_one (ps_if (PW.pt (pw_or (pt_cmpR op_ne (pe_callB (call_reprK (K := K) rfl hr) (by rfl) M.repr (by decide +kernel) (pa_cons (pe_lst (pa_cons (pe_g C_L_classes hr (by decide) (by rfl) pass0 (pa_cons (pv 4) pa_nil)) (pa_cons (pe_g C_L_bases hr (by decide) (by rfl) pass0 (pa_cons (pv 4) pa_nil)) pa_nil))) pa_nil)) (pe_callB (call_reprK (K := K) rfl hr) (by rfl) M.repr (by decide +kernel) (pa_cons (pe_g C_L_due hr (by decide) (by rfl) pass0 (pa_cons (pv 2) pa_nil)) pa_nil)) (nomark _)) (pw_or1 (pt_not (pt_val (pe_g C_L_is_kept hr (by decide) (by rfl) pass0 (pa_cons (pv 2) (pa_cons (pv 4) (pa_cons (pv 3) pa_nil)))))))))
      (pss_one (ps_ret pe_bl)) pss_nil)))
      (pss_one (ps_ret pe_bl))))), ?_⟩
  refine ⟨(by show 0 ≤ sizeLine; decide), fun MH nMH => ?_⟩
  have k0 : Kp m H (upd H MH (.lst [])) := (Kp.refl ml).new nMH
  have Mm : MH ≠ m := ml.ne nMH
  refine ⟨_, rfl, 13, rfl, fun r nr => ?_⟩
  refine ⟨r, 13, rfl, upd_same, by decide, by decide +kernel, by decide +kernel, fun l1 h1 => ?_⟩
  refine ⟨l1, 2, _, rfl, rfl, upd_same, by decide, by decide, ?_, fun l2 h2 => ?_⟩
  · rw [List.length_map, List.length_range]
    decide
  have k3 := ((k0.new (o := .rng 0 13) nr).new (o := .lst ((List.range 13).map fun i : Nat => V.int (i : Int))) h1)
  have k4 := k3.new (o := .lst (List.replicate (Int.toNat 2) ((List.range 13).map fun i : Nat => V.int (i : Int))).flatten) h2
  refine ⟨m, l2, _, rfl, k4.ml, k3.ml.ne h2, upd_same, by decide, fun H1 p ys k1 np eP pm => ?_⟩
  have mem : ∀ y ∈ ys, ∃ i : Nat, i < 13 ∧ y = .int i := by
    intro y hy
    have h := pm.mem_iff.mp hy
    rw [List.mem_flatten] at h
    obtain ⟨l, hl, hy'⟩ := h
    rw [(List.mem_replicate.mp hl).2] at hy'
    obtain ⟨i, hi, e⟩ := List.mem_map.mp hy'
    exact ⟨i, List.mem_range.mp hi, e.symm⟩
  have pM : p ≠ MH := Ne.symm (ne_of_none ((same_new (same_new (same_new (Same.refl _) nr) h1) h2) _ _ upd_same) np)
  have pm' : p ≠ m := k4.ml.ne np
  have eM1 : H1 MH = some (.lst []) := k1.keep _ _ Mm ((same_new (same_new (same_new (Same.refl _) nr) h1) h2) _ _ upd_same)
  refine ⟨p, rfl, ⟨_, SqL.of eP⟩, for_list (K := K) (a := p) (xs := ys) (fun j σ H2 => Kp m H H2 ∧ H2 p = some (.lst ys) ∧ (∃ rows, H2 MH = some (.lst rows) ∧ rows.length = j ∧ ∀ x ∈ rows, Row K e m MH H2 x) ∧ ∃ y2 y3 y4, σ = [some (.ref m), some (.ref MH), y2, y3, y4])
    ⟨k4.trans k1, eP, ⟨[], eM1, rfl, fun x hx => by cases hx⟩, none, none, none, rfl⟩ (fun j σ H2 _ hp => SqL.of hp.2.1) ?_ ?_⟩
  · rintro j y σ H2 hj ⟨kH, eP2, ⟨rows, eM, lr, hrows⟩, y2, y3, y4, rfl⟩
    obtain ⟨i, hi, rfl⟩ := mem y (List.mem_of_getElem? hj)
    have jl : j < 26 := by
      have l1 : j < ys.length := (List.getElem?_eq_some_iff.mp hj).1
      have l2 := pm.length_eq
      have l3 : ((List.replicate (Int.toNat 2) ((List.range 13).map fun i : Nat => V.int (i : Int))).flatten).length = 26 := by decide +kernel
      omega
    refine ⟨_, rfl, _, rfl, m, i, rfl, kH.ml, hi, fun H3 v t k3 sv => ?_⟩
    have eM3 := k3.keep _ _ Mm eM
    refine ⟨_, rfl, .inl ⟨rfl, _, SqL.of eM3⟩, _, rfl, _, rfl, _, rfl, _, rfl, i, v, rfl, hi, fun a H4 s4 na er4 => ?_⟩
    refine ⟨(by show 3 ≤ sizeLine; decide), fun qq nq => ?_⟩
    have eM4 := s4 _ _ eM3
    have eM5 := (same_new (o := .tup [.int (i : Int), v, .ref a]) (Same.refl _) nq) _ _ eM4
    refine ⟨MH, rows, _, rfl, rfl, eM5, by rw [lr]; exact szl (by omega), ?_⟩
    have k5 : Kp m H (upd H4 qq (.tup [.int (i : Int), v, .ref a])) := ((kH.trans k3).same s4).new nq
    have k6 : Kp m H (upd (upd H4 qq (.tup [.int (i : Int), v, .ref a])) MH (.lst (rows ++ [.ref qq]))) := k5.mut nMH Mm
    have qM : qq ≠ MH := Ne.symm (ne_of_none eM4 nq)
    have qm : qq ≠ m := ((kH.trans k3).same s4).ml.ne nq
    refine ⟨_, rfl, _, rfl, i, v, rfl, hi, fun H7 s7 => ?_⟩
    refine ⟨_, rfl, rfl, _, rfl, ?_⟩
    refine iteF' (by simp) ?_
    refine ⟨_, rfl, _, rfl, i, v, rfl, hi, fun H8 s8 => ?_⟩
    refine ⟨_, rfl, ?_⟩
    refine iteF ?_
    have h4 := ((kH.trans k3).same s4).ml
    have to8 : ∀ b o, b ≠ MH → H4 b = some o → H8 b = some o := fun b o n2 z => s8 _ _ (s7 _ _ ((upd_ne n2).trans ((same_new (Same.refl _) nq) _ _ z)))
    have big : ∀ b o, b ≠ m → b ≠ MH → H2 b = some o → H8 b = some o := fun b o n1 n2 z => to8 b o n2 (s4 _ _ (k3.keep _ _ n1 z))
    refine ⟨(k6.same s7).same s8, big p _ pm' pM eP2, ⟨rows ++ [.ref qq], s8 _ _ (s7 _ _ upd_same), by rw [List.length_append, lr]; rfl, fun x hx => ?_⟩, _, _, _, rfl⟩
    rcases List.mem_append.mp hx with hx | hx
    · exact (hrows x hx).keep big
    · rw [List.mem_singleton.mp hx]
      refine ⟨qq, i, v, a, t, rfl, hi, fun H' hh => ⟨hh qq _ qm qM (s8 _ _ (s7 _ _ ((upd_ne qM).trans upd_same))), er4.nl fun b o nn z => ?_, sv H' fun b o nb z => ?_⟩⟩
      · have b1 : b ≠ MH := fun w => by
          subst w
          rw [eM4] at z
          exact nn _ (Option.some.inj z).symm
        have b2 : b ≠ m := fun w => by
          subst w
          obtain ⟨x, y, w, hm, _⟩ := h4
          rw [hm] at z
          exact nn _ (Option.some.inj z).symm
        exact hh b o b2 b1 (to8 b o b1 z)
      · have b1 : b ≠ MH := Ne.symm (ne_of_none eM nb)
        exact hh b o (kH.ml.ne nb) b1 (to8 b o b1 (s4 _ _ z))
  · rintro σ H2 ⟨kH, eP2, ⟨rows, eM, lr, hrows⟩, y2, y3, y4, rfl⟩
    refine ⟨_, rfl, MH, rfl, ⟨_, SqL.of eM⟩, for_list (K := K) (a := MH) (xs := rows) (fun j σ H3 => Same H2 H3 ∧ ∃ y2 y3 y4, σ = [some (.ref m), some (.ref MH), y2, y3, y4])
      ⟨Same.refl _, y2, y3, y4, rfl⟩ (fun j σ H3 _ hp => SqL.of (hp.1 _ _ eM)) ?_ ?_⟩
    · rintro j y σ H3 hj ⟨s3, y2, y3, y4, rfl⟩
      obtain ⟨qq, i, v, a, t, rfl, hi, hh⟩ := hrows y (List.mem_of_getElem? hj)
      obtain ⟨hq, er, hs⟩ := hh H3 (fun b o _ _ z => s3 _ _ z)
      obtain ⟨d1, d2, d3⟩ := dd_ok i hi
      refine ⟨qq, _, rfl, SqT.of hq, rfl, _, _, rfl, _, _, rfl, _, _, rfl, rfl, ?_⟩
      refine ⟨_, rfl, a, i, v, rfl, hi, er, fun l1 H4 s4 n4 e4 => ?_⟩
      refine ⟨_, rfl, a, i, v, rfl, hi, er.same s4, fun l2 H5 s5 n5 e5 => ?_⟩
      refine ⟨(by show 2 ≤ sizeLine; decide), fun l3 n6 => ?_⟩
      have t6 := same_new (o := .lst [.ref l1, .ref l2]) (Same.refl _) n6
      refine ⟨.ref l3, dd i, rfl, dd_dp (t6 _ _ (s5 _ _ e4)) (t6 _ _ e5) upd_same, d1, d2, d3, ?_⟩
      refine ⟨_, rfl, i, rfl, hi, fun l l4 l5 H6 s6 f1 f2 f3 => ?_⟩
      refine ⟨.ref l, dd i, rfl, dd_dp f1 f2 f3, d1, d2, d3, ?_⟩
      refine ⟨rfl, _, rfl, ?_⟩
      refine iteF' (by simp) ?_
      have S6 := s4.trans (s5.trans (t6.trans s6))
      refine ⟨_, rfl, _, rfl, _, rfl, i, a, v, t, rfl, hi, er.same S6, (hh H6 (fun b o _ _ z => S6 _ _ (s3 _ _ z))).2.2, ?_⟩
      refine ⟨_, rfl, ?_⟩
      refine iteF ?_
      exact ⟨s3.trans S6, _, _, _, rfl⟩
    · rintro σ H3 ⟨s3, y2, y3, y4, rfl⟩
      exact q _ (kH.same s3)
end
end K01
set_option Elab.async false
set_option linter.all false
set_option maxRecDepth 100000
set_option maxHeartbeats 4000000


/-! the law -/
namespace K01
open PySem PySem.Spec PyProof.Rows L2 Wk
theorem same_kp {m : Addr} {H H' : Hp} {o : HO} (nm : H m = none) (k : Kp m (upd H m o) H') : Same H H' := fun b u q => by
  have n : b ≠ m := ne_of_none q nm
  exact k.keep b u n (by rw [upd_ne n]; exact q)
section
variable {P : Program} {w : World} {K : PySem.W.Frag} {mg : Str → Option Value} {base : Heap}
def spLaw (K : PySem.W.Frag) : Sp := fun vs H Q _ => ∃ (a : Addr) (ns : List Int), vs = [.ref a] ∧ SqL K H a (ns.map V.int) ∧ ns.length ≤ 63 ∧ ∀ H', Q (.bl true) H'
theorem law_start {H : Hp} {a : Addr} {ns : List Int} {E : XK} (ho : Only H) (hS : SqL K H a (ns.map V.int)) (hl : ns.length ≤ 63) : spLaw K [.ref a] H (fun v _ => v = .bl true) E :=
  ⟨a, ns, rfl, hS, hl, fun _ => rfl⟩
theorem ok_law {f : Addr} {oc : Value} {od an : Option Addr} {osl : Array (Option Value)} {kV doc pm cdv ct : Value}
    (l : K.lookup f = some ⟨oc, od, .func (PySem.W.fnOf "law" "law" (defArgs s_law) (defBody s_law) (defScope s_law) .none kV doc pm an cdv ct), osl⟩) (c : PySem.W.codeIn K cdv "law" = true)
    (M : Txt mg) (C_L_mill : Gc P w K mg base CX0 1 "_law_mill" (spMill K)) (C_L_cell_right : Gc P w K mg base CX0 4 "_law_cell_right" spCell) :
    GFn P w K mg base CX0 5 f (PySem.W.fnOf "law" "law" (defArgs s_law) (defBody s_law) (defScope s_law) .none kV doc pm an cdv ct) ["_law_script"] (spLaw K) := by
  refine gfn_of l c sc_law (fun vs H Q E h => by obtain ⟨a, ns, rfl, _⟩ := h; rfl) (fun A outer s H vs Q E hr h => ?_)
  have nd := sc_law.nd
  obtain ⟨a, ns, rfl, scr, few, q⟩ := h
  suffices hh : ∃ t, PSs (cxOf CX0 P w K mg base NN_law "law" (defScope s_law) f cdv A outer s H E).nox (defBody s_law) t ∧ t { nx := fun _ H' => Q .non H', rt := Q } (start NN_law [.ref a]) H by
    obtain ⟨t, ht, qt⟩ := hh
    exact ⟨t, ht.nox, qt⟩
  refine ⟨_, (pss_cons (ps_for PassesOwn.never rfl (pi_range1 (by rfl) M.range (pa_cons (pe_callB (call_max2 rfl) (by rfl) M.max (by decide +kernel) (pa_cons pe_int (pa_cons (pe_callB (call_min2 rfl) (by rfl) M.min (by decide +kernel) (pa_cons pe_int (pa_cons (pe_callB (call_len_seqK (K := K) rfl) (by rfl) M.len (by decide +kernel) (pa_cons (pv 0) pa_nil)) pa_nil))) pa_nil))) pa_nil)) (pg_name (i := 1) nd rfl (Or.inl rfl))
      (pss_one (ps_if (pt_not (pt_val (pe_g C_L_cell_right hr (by decide) (by rfl) pass0 (pa_cons (pe_g C_L_mill hr (by decide) (by rfl) pass0 (pa_cons (pv 0) (pa_cons (pv 1) pa_nil))) pa_nil))))
      (pss_one (ps_ret pe_bl)) pss_nil)))
      (pss_one (ps_ret pe_bl))), ?_⟩
  refine ⟨_, rfl, _, _, rfl, .inl scr, _, _, rfl, _, _, rfl, ?_⟩
  generalize eT : (if (if ((ns.map V.int).length : Int) < 6 then ((ns.map V.int).length : Int) else 6) > 1 then (if ((ns.map V.int).length : Int) < 6 then ((ns.map V.int).length : Int) else 6) else 1) = turns
  have t8 : 1 ≤ turns ∧ turns ≤ 6 := by
    rw [← eT]
    split <;> split <;> omega
  refine ⟨turns, rfl, by omega, by omega, ?_⟩
  have scrS : ∀ {H' : Hp}, Same H H' → SqL K H' a (ns.map V.int) := fun sm => SqL.kept scr fun o e => sm _ _ e
  refine for_range (lo := 0) (n := turns.toNat) (fun i σ H' => Same H H' ∧ ∃ y1, σ = [some (.ref a), y1]) ⟨Same.refl _, none, rfl⟩ (fun i σ H' hi hp => ?_) (fun σ H' hp => ?_)
  · obtain ⟨s1, y1, rfl⟩ := hp
    refine ⟨_, rfl, _, rfl, a, i, ns, ?_, scrS s1, by omega, fun p x y z np x0 => ?_⟩
    · show [V.ref a, V.int (0 + (i : Int))] = [V.ref a, V.int (i : Int)]
      rw [Int.zero_add]
    refine ⟨p, rfl, ⟨x, y, z, upd_same, x0⟩, fun H2 k2 => ?_⟩
    refine ⟨_, rfl, ?_⟩
    exact iteF ⟨s1.trans (same_kp np k2), _, rfl⟩
  · obtain ⟨s1, y1, rfl⟩ := hp
    exact q _
end
/-! ### what the top has written; the law's own head -/
theorem all_mk {l : PySem.W.OpenLaw} {w : World} {K : PySem.W.Frag} {h : Heap} {mg : Str → Option Value} {fa : Addr} (X : K.In h) (G : h.Ns mainGlobals mg) (hfa : mg "law" = some (.ref fa))
    {cw c0 c1 c2 c3 c4 c5 c6 c7 c8 c9 c10 c11 c12 : Addr} {i7 e7n i8 e8n i9 e9n i10 e10n i11 e11n i12 e12n s8 s9 : Addr}
    (a_cw : PySem.W.nsIn K mainGlobals "WalkError" = some (some (.ref cw)))
    (a_c0 : PySem.W.nsIn K mainGlobals "InvalidName" = some (some (.ref c0)))
    (a_c1 : PySem.W.nsIn K mainGlobals "InvalidSchema" = some (some (.ref c1)))
    (a_c2 : PySem.W.nsIn K mainGlobals "InvalidWord" = some (some (.ref c2)))
    (a_c3 : PySem.W.nsIn K mainGlobals "InvalidExpression" = some (some (.ref c3)))
    (a_c4 : PySem.W.nsIn K mainGlobals "InvalidQuestion" = some (some (.ref c4)))
    (a_c5 : PySem.W.nsIn K mainGlobals "InvalidGraph" = some (some (.ref c5)))
    (a_c6 : PySem.W.nsIn K mainGlobals "InvalidOperation" = some (some (.ref c6)))
    (a_c7 : PySem.W.nsIn K mainGlobals "ParseError" = some (some (.ref c7)))
    (a_c8 : PySem.W.nsIn K mainGlobals "InvalidNumber" = some (some (.ref c8)))
    (a_c9 : PySem.W.nsIn K mainGlobals "UnknownName" = some (some (.ref c9)))
    (a_c10 : PySem.W.nsIn K mainGlobals "TooMany" = some (some (.ref c10)))
    (a_c11 : PySem.W.nsIn K mainGlobals "NothingToUndo" = some (some (.ref c11)))
    (a_c12 : PySem.W.nsIn K mainGlobals "Missing" = some (some (.ref c12)))
    (kc_cw : PySem.W.keepIn K (.ref cw) = true)
    (ec_cw : PySem.W.subIn K (.ref cw) (.type "BaseException") = some true)
    (tc_cw : PySem.W.typeIn K (.ref cw) = some (.type "type"))
    (x_cw : PySem.W.excIn K cw [.type "ValueError", .type "Exception", .type "BaseException", .type "object"] "ValueError.__new__" = true)
    (kc_c0 : PySem.W.keepIn K (.ref c0) = true)
    (ec_c0 : PySem.W.subIn K (.ref c0) (.type "BaseException") = some true)
    (tc_c0 : PySem.W.typeIn K (.ref c0) = some (.type "type"))
    (x_c0 : PySem.W.excIn K c0 [.type "ValueError", .type "Exception", .type "BaseException", .type "object"] "ValueError.__new__" = true)
    (kc_c1 : PySem.W.keepIn K (.ref c1) = true)
    (ec_c1 : PySem.W.subIn K (.ref c1) (.type "BaseException") = some true)
    (tc_c1 : PySem.W.typeIn K (.ref c1) = some (.type "type"))
    (x_c1 : PySem.W.excIn K c1 [.type "ValueError", .type "Exception", .type "BaseException", .type "object"] "ValueError.__new__" = true)
    (kc_c2 : PySem.W.keepIn K (.ref c2) = true)
    (ec_c2 : PySem.W.subIn K (.ref c2) (.type "BaseException") = some true)
    (tc_c2 : PySem.W.typeIn K (.ref c2) = some (.type "type"))
    (x_c2 : PySem.W.excIn K c2 [.type "ValueError", .type "Exception", .type "BaseException", .type "object"] "ValueError.__new__" = true)
    (kc_c3 : PySem.W.keepIn K (.ref c3) = true)
    (ec_c3 : PySem.W.subIn K (.ref c3) (.type "BaseException") = some true)
    (tc_c3 : PySem.W.typeIn K (.ref c3) = some (.type "type"))
    (x_c3 : PySem.W.excIn K c3 [.type "ValueError", .type "Exception", .type "BaseException", .type "object"] "ValueError.__new__" = true)
    (kc_c4 : PySem.W.keepIn K (.ref c4) = true)
    (ec_c4 : PySem.W.subIn K (.ref c4) (.type "BaseException") = some true)
    (tc_c4 : PySem.W.typeIn K (.ref c4) = some (.type "type"))
    (x_c4 : PySem.W.excIn K c4 [.type "ValueError", .type "Exception", .type "BaseException", .type "object"] "ValueError.__new__" = true)
    (kc_c5 : PySem.W.keepIn K (.ref c5) = true)
    (ec_c5 : PySem.W.subIn K (.ref c5) (.type "BaseException") = some true)
    (tc_c5 : PySem.W.typeIn K (.ref c5) = some (.type "type"))
    (x_c5 : PySem.W.excIn K c5 [.type "ValueError", .type "Exception", .type "BaseException", .type "object"] "ValueError.__new__" = true)
    (kc_c6 : PySem.W.keepIn K (.ref c6) = true)
    (ec_c6 : PySem.W.subIn K (.ref c6) (.type "BaseException") = some true)
    (tc_c6 : PySem.W.typeIn K (.ref c6) = some (.type "type"))
    (x_c6 : PySem.W.excIn K c6 [.type "ValueError", .type "Exception", .type "BaseException", .type "object"] "ValueError.__new__" = true)
    (kc_c7 : PySem.W.keepIn K (.ref c7) = true)
    (ec_c7 : PySem.W.subIn K (.ref c7) (.type "BaseException") = some true)
    (tc_c7 : PySem.W.typeIn K (.ref c7) = some (.type "type"))
    (kc_c8 : PySem.W.keepIn K (.ref c8) = true)
    (ec_c8 : PySem.W.subIn K (.ref c8) (.type "BaseException") = some true)
    (tc_c8 : PySem.W.typeIn K (.ref c8) = some (.type "type"))
    (kc_c9 : PySem.W.keepIn K (.ref c9) = true)
    (ec_c9 : PySem.W.subIn K (.ref c9) (.type "BaseException") = some true)
    (tc_c9 : PySem.W.typeIn K (.ref c9) = some (.type "type"))
    (kc_c10 : PySem.W.keepIn K (.ref c10) = true)
    (ec_c10 : PySem.W.subIn K (.ref c10) (.type "BaseException") = some true)
    (tc_c10 : PySem.W.typeIn K (.ref c10) = some (.type "type"))
    (kc_c11 : PySem.W.keepIn K (.ref c11) = true)
    (ec_c11 : PySem.W.subIn K (.ref c11) (.type "BaseException") = some true)
    (tc_c11 : PySem.W.typeIn K (.ref c11) = some (.type "type"))
    (kc_c12 : PySem.W.keepIn K (.ref c12) = true)
    (ec_c12 : PySem.W.subIn K (.ref c12) (.type "BaseException") = some true)
    (tc_c12 : PySem.W.typeIn K (.ref c12) = some (.type "type"))
    (hg_c0 : PySem.W.findIn K (.ref c0) "__getattribute__" = some (some (.builtin "BaseException.__getattribute__")))
    (hk_c0 : PySem.W.findIn K (.ref c0) "__getattr__" = some none)
    (hd_c0 : PySem.W.hasDictIn K c0 = true)
    (ha_c0 : PySem.W.findIn K (.ref c0) "__class__" = some (some (.builtin "object.__class__")))
    (hm_c0 : PySem.W.mroIn K c0 (.type "object") = some true)
    (hg_c1 : PySem.W.findIn K (.ref c1) "__getattribute__" = some (some (.builtin "BaseException.__getattribute__")))
    (hk_c1 : PySem.W.findIn K (.ref c1) "__getattr__" = some none)
    (hd_c1 : PySem.W.hasDictIn K c1 = true)
    (ha_c1 : PySem.W.findIn K (.ref c1) "__class__" = some (some (.builtin "object.__class__")))
    (hm_c1 : PySem.W.mroIn K c1 (.type "object") = some true)
    (hg_c2 : PySem.W.findIn K (.ref c2) "__getattribute__" = some (some (.builtin "BaseException.__getattribute__")))
    (hk_c2 : PySem.W.findIn K (.ref c2) "__getattr__" = some none)
    (hd_c2 : PySem.W.hasDictIn K c2 = true)
    (ha_c2 : PySem.W.findIn K (.ref c2) "__class__" = some (some (.builtin "object.__class__")))
    (hm_c2 : PySem.W.mroIn K c2 (.type "object") = some true)
    (hg_c3 : PySem.W.findIn K (.ref c3) "__getattribute__" = some (some (.builtin "BaseException.__getattribute__")))
    (hk_c3 : PySem.W.findIn K (.ref c3) "__getattr__" = some none)
    (hd_c3 : PySem.W.hasDictIn K c3 = true)
    (ha_c3 : PySem.W.findIn K (.ref c3) "__class__" = some (some (.builtin "object.__class__")))
    (hm_c3 : PySem.W.mroIn K c3 (.type "object") = some true)
    (hg_c4 : PySem.W.findIn K (.ref c4) "__getattribute__" = some (some (.builtin "BaseException.__getattribute__")))
    (hk_c4 : PySem.W.findIn K (.ref c4) "__getattr__" = some none)
    (hd_c4 : PySem.W.hasDictIn K c4 = true)
    (ha_c4 : PySem.W.findIn K (.ref c4) "__class__" = some (some (.builtin "object.__class__")))
    (hm_c4 : PySem.W.mroIn K c4 (.type "object") = some true)
    (hg_c5 : PySem.W.findIn K (.ref c5) "__getattribute__" = some (some (.builtin "BaseException.__getattribute__")))
    (hk_c5 : PySem.W.findIn K (.ref c5) "__getattr__" = some none)
    (hd_c5 : PySem.W.hasDictIn K c5 = true)
    (ha_c5 : PySem.W.findIn K (.ref c5) "__class__" = some (some (.builtin "object.__class__")))
    (hm_c5 : PySem.W.mroIn K c5 (.type "object") = some true)
    (hg_c6 : PySem.W.findIn K (.ref c6) "__getattribute__" = some (some (.builtin "BaseException.__getattribute__")))
    (hk_c6 : PySem.W.findIn K (.ref c6) "__getattr__" = some none)
    (hd_c6 : PySem.W.hasDictIn K c6 = true)
    (ha_c6 : PySem.W.findIn K (.ref c6) "__class__" = some (some (.builtin "object.__class__")))
    (hm_c6 : PySem.W.mroIn K c6 (.type "object") = some true)
    (hg_c7 : PySem.W.findIn K (.ref c7) "__getattribute__" = some (some (.builtin "BaseException.__getattribute__")))
    (hk_c7 : PySem.W.findIn K (.ref c7) "__getattr__" = some none)
    (hd_c7 : PySem.W.hasDictIn K c7 = true)
    (ha_c7 : PySem.W.findIn K (.ref c7) "__class__" = some (some (.builtin "object.__class__")))
    (hm_c7 : PySem.W.mroIn K c7 (.type "object") = some true)
    (hg_c8 : PySem.W.findIn K (.ref c8) "__getattribute__" = some (some (.builtin "BaseException.__getattribute__")))
    (hk_c8 : PySem.W.findIn K (.ref c8) "__getattr__" = some none)
    (hd_c8 : PySem.W.hasDictIn K c8 = true)
    (ha_c8 : PySem.W.findIn K (.ref c8) "__class__" = some (some (.builtin "object.__class__")))
    (hm_c8 : PySem.W.mroIn K c8 (.type "object") = some true)
    (hg_c9 : PySem.W.findIn K (.ref c9) "__getattribute__" = some (some (.builtin "BaseException.__getattribute__")))
    (hk_c9 : PySem.W.findIn K (.ref c9) "__getattr__" = some none)
    (hd_c9 : PySem.W.hasDictIn K c9 = true)
    (ha_c9 : PySem.W.findIn K (.ref c9) "__class__" = some (some (.builtin "object.__class__")))
    (hm_c9 : PySem.W.mroIn K c9 (.type "object") = some true)
    (hg_c10 : PySem.W.findIn K (.ref c10) "__getattribute__" = some (some (.builtin "BaseException.__getattribute__")))
    (hk_c10 : PySem.W.findIn K (.ref c10) "__getattr__" = some none)
    (hd_c10 : PySem.W.hasDictIn K c10 = true)
    (ha_c10 : PySem.W.findIn K (.ref c10) "__class__" = some (some (.builtin "object.__class__")))
    (hm_c10 : PySem.W.mroIn K c10 (.type "object") = some true)
    (hg_c11 : PySem.W.findIn K (.ref c11) "__getattribute__" = some (some (.builtin "BaseException.__getattribute__")))
    (hk_c11 : PySem.W.findIn K (.ref c11) "__getattr__" = some none)
    (hd_c11 : PySem.W.hasDictIn K c11 = true)
    (ha_c11 : PySem.W.findIn K (.ref c11) "__class__" = some (some (.builtin "object.__class__")))
    (hm_c11 : PySem.W.mroIn K c11 (.type "object") = some true)
    (hg_c12 : PySem.W.findIn K (.ref c12) "__getattribute__" = some (some (.builtin "BaseException.__getattribute__")))
    (hk_c12 : PySem.W.findIn K (.ref c12) "__getattr__" = some none)
    (hd_c12 : PySem.W.hasDictIn K c12 = true)
    (ha_c12 : PySem.W.findIn K (.ref c12) "__class__" = some (some (.builtin "object.__class__")))
    (hm_c12 : PySem.W.mroIn K c12 (.type "object") = some true)
    (hn : PySem.W.specialIn K (.builtin "object.__class__") "__get__" = some (some (.builtin "getset_descriptor.__get__")))
    (ht : PySem.W.takesIn K (.builtin "object.__class__") = some true)
    {nm7 q7 : Str} {bs7 sub7 : List Value} {sn7 : List Str} {ab7 : Bool} {col7 : Option Bool} {dd7 : Option Addr} {ma7 mb7 mc7 md7 me7 : Option Value}
    (xl7 : K.lookup c7 = some (excClassObj nm7 q7 c7 e7n bs7 [.ref cw, .type "ValueError", .type "Exception", .type "BaseException", .type "object"] true sn7 sub7 ab7 col7 dd7 ma7 mb7 mc7 md7 me7 "ValueError.__new__"))
    (sa7 : PySem.W.findIn K (.ref c7) "__setattr__" = some (some (.builtin "object.__setattr__")))
    (no7 : PySem.W.findIn K (.ref c7) "index" = some none)
    (ic7 : PySem.W.findIn K (.ref c7) "__init__" = some (some (.ref i7)))
    (ti7 : PySem.W.typeIn K (.ref i7) = some (.type "function"))
    {oi7 : Value} {di7 ai7 : Option Addr} {li7 : Array (Option Value)} {ki7 pi7 ci7 ui7 : Value} {pa7 pb7 qa7 qb7 qc7 qd7 : Pos}
    (fn7 : K.lookup i7 = some ⟨oi7, di7, .func (PySem.W.fnOf "__init__" "ParseError.__init__" (PySem.WkX.prm "index" pa7 pb7) (PySem.WkX.sto "index" qa7 qb7 qc7 qd7) (PySem.WkX.scp "index") .none .none ki7 pi7 ai7 ci7 ui7), li7⟩)
    (cn7 : PySem.W.codeIn K ci7 "ParseError.__init__" = true)
    {nm8 q8 : Str} {bs8 sub8 : List Value} {sn8 : List Str} {ab8 : Bool} {col8 : Option Bool} {dd8 : Option Addr} {ma8 mb8 mc8 md8 me8 : Option Value}
    (xl8 : K.lookup c8 = some (excClassObj nm8 q8 c8 e8n bs8 [.type "IndexError", .type "LookupError", .type "Exception", .type "BaseException", .type "object"] true sn8 sub8 ab8 col8 dd8 ma8 mb8 mc8 md8 me8 "IndexError.__new__"))
    (sa8 : PySem.W.findIn K (.ref c8) "__setattr__" = some (some (.builtin "object.__setattr__")))
    (no8 : PySem.W.findIn K (.ref c8) "value" = some none)
    (ic8 : PySem.W.findIn K (.ref c8) "__init__" = some (some (.ref i8)))
    (ti8 : PySem.W.typeIn K (.ref i8) = some (.type "function"))
    {oi8 : Value} {di8 ai8 : Option Addr} {li8 : Array (Option Value)} {ki8 pi8 ci8 ui8 : Value} {pa8 pb8 qa8 qb8 qc8 qd8 : Pos}
    (fn8 : K.lookup i8 = some ⟨oi8, di8, .func (PySem.W.fnOf "__init__" "InvalidNumber.__init__" (PySem.WkX.prm "value" pa8 pb8) (PySem.WkX.sto "value" qa8 qb8 qc8 qd8) (PySem.WkX.scp "value") .none .none ki8 pi8 ai8 ci8 ui8), li8⟩)
    (cn8 : PySem.W.codeIn K ci8 "InvalidNumber.__init__" = true)
    {nm9 q9 : Str} {bs9 sub9 : List Value} {sn9 : List Str} {ab9 : Bool} {col9 : Option Bool} {dd9 : Option Addr} {ma9 mb9 mc9 md9 me9 : Option Value}
    (xl9 : K.lookup c9 = some (excClassObj nm9 q9 c9 e9n bs9 [.type "KeyError", .type "LookupError", .type "Exception", .type "BaseException", .type "object"] true sn9 sub9 ab9 col9 dd9 ma9 mb9 mc9 md9 me9 "LookupError.__new__"))
    (sa9 : PySem.W.findIn K (.ref c9) "__setattr__" = some (some (.builtin "object.__setattr__")))
    (no9 : PySem.W.findIn K (.ref c9) "name" = some none)
    (ic9 : PySem.W.findIn K (.ref c9) "__init__" = some (some (.ref i9)))
    (ti9 : PySem.W.typeIn K (.ref i9) = some (.type "function"))
    {oi9 : Value} {di9 ai9 : Option Addr} {li9 : Array (Option Value)} {ki9 pi9 ci9 ui9 : Value} {pa9 pb9 qa9 qb9 qc9 qd9 : Pos}
    (fn9 : K.lookup i9 = some ⟨oi9, di9, .func (PySem.W.fnOf "__init__" "UnknownName.__init__" (PySem.WkX.prm "name" pa9 pb9) (PySem.WkX.sto "name" qa9 qb9 qc9 qd9) (PySem.WkX.scp "name") .none .none ki9 pi9 ai9 ci9 ui9), li9⟩)
    (cn9 : PySem.W.codeIn K ci9 "UnknownName.__init__" = true)
    {nm10 q10 : Str} {bs10 sub10 : List Value} {sn10 : List Str} {ab10 : Bool} {col10 : Option Bool} {dd10 : Option Addr} {ma10 mb10 mc10 md10 me10 : Option Value}
    (xl10 : K.lookup c10 = some (excClassObj nm10 q10 c10 e10n bs10 [.type "OverflowError", .type "ArithmeticError", .type "Exception", .type "BaseException", .type "object"] true sn10 sub10 ab10 col10 dd10 ma10 mb10 mc10 md10 me10 "OverflowError.__new__"))
    (sa10 : PySem.W.findIn K (.ref c10) "__setattr__" = some (some (.builtin "object.__setattr__")))
    (no10 : PySem.W.findIn K (.ref c10) "limit" = some none)
    (ic10 : PySem.W.findIn K (.ref c10) "__init__" = some (some (.ref i10)))
    (ti10 : PySem.W.typeIn K (.ref i10) = some (.type "function"))
    {oi10 : Value} {di10 ai10 : Option Addr} {li10 : Array (Option Value)} {ki10 pi10 ci10 ui10 : Value} {pa10 pb10 qa10 qb10 qc10 qd10 : Pos}
    (fn10 : K.lookup i10 = some ⟨oi10, di10, .func (PySem.W.fnOf "__init__" "TooMany.__init__" (PySem.WkX.prm "limit" pa10 pb10) (PySem.WkX.sto "limit" qa10 qb10 qc10 qd10) (PySem.WkX.scp "limit") .none .none ki10 pi10 ai10 ci10 ui10), li10⟩)
    (cn10 : PySem.W.codeIn K ci10 "TooMany.__init__" = true)
    {nm11 q11 : Str} {bs11 sub11 : List Value} {sn11 : List Str} {ab11 : Bool} {col11 : Option Bool} {dd11 : Option Addr} {ma11 mb11 mc11 md11 me11 : Option Value}
    (xl11 : K.lookup c11 = some (excClassObj nm11 q11 c11 e11n bs11 [.type "LookupError", .type "Exception", .type "BaseException", .type "object"] true sn11 sub11 ab11 col11 dd11 ma11 mb11 mc11 md11 me11 "LookupError.__new__"))
    (sa11 : PySem.W.findIn K (.ref c11) "__setattr__" = some (some (.builtin "object.__setattr__")))
    (no11 : PySem.W.findIn K (.ref c11) "many" = some none)
    (ic11 : PySem.W.findIn K (.ref c11) "__init__" = some (some (.ref i11)))
    (ti11 : PySem.W.typeIn K (.ref i11) = some (.type "function"))
    {oi11 : Value} {di11 ai11 : Option Addr} {li11 : Array (Option Value)} {ki11 pi11 ci11 ui11 : Value} {pa11 pb11 qa11 qb11 qc11 qd11 : Pos}
    (fn11 : K.lookup i11 = some ⟨oi11, di11, .func (PySem.W.fnOf "__init__" "NothingToUndo.__init__" (PySem.WkX.prm "many" pa11 pb11) (PySem.WkX.sto "many" qa11 qb11 qc11 qd11) (PySem.WkX.scp "many") .none .none ki11 pi11 ai11 ci11 ui11), li11⟩)
    (cn11 : PySem.W.codeIn K ci11 "NothingToUndo.__init__" = true)
    {nm12 q12 : Str} {bs12 sub12 : List Value} {sn12 : List Str} {ab12 : Bool} {col12 : Option Bool} {dd12 : Option Addr} {ma12 mb12 mc12 md12 me12 : Option Value}
    (xl12 : K.lookup c12 = some (excClassObj nm12 q12 c12 e12n bs12 [.type "ArithmeticError", .type "Exception", .type "BaseException", .type "object"] true sn12 sub12 ab12 col12 dd12 ma12 mb12 mc12 md12 me12 "ArithmeticError.__new__"))
    (sa12 : PySem.W.findIn K (.ref c12) "__setattr__" = some (some (.builtin "object.__setattr__")))
    (no12 : PySem.W.findIn K (.ref c12) "edge" = some none)
    (ic12 : PySem.W.findIn K (.ref c12) "__init__" = some (some (.ref i12)))
    (ti12 : PySem.W.typeIn K (.ref i12) = some (.type "function"))
    {oi12 : Value} {di12 ai12 : Option Addr} {li12 : Array (Option Value)} {ki12 pi12 ci12 ui12 : Value} {pa12 pb12 qa12 qb12 qc12 qd12 : Pos}
    (fn12 : K.lookup i12 = some ⟨oi12, di12, .func (PySem.W.fnOf "__init__" "Missing.__init__" (PySem.WkX.prm "edge" pa12 pb12) (PySem.WkX.sto "edge" qa12 qb12 qc12 qd12) (PySem.WkX.scp "edge") .none .none ki12 pi12 ai12 ci12 ui12), li12⟩)
    (cn12 : PySem.W.codeIn K ci12 "Missing.__init__" = true)
    (is8 : PySem.W.findIn K (.ref c8) "__str__" = some (some (.ref s8)))
    (if8 : PySem.W.isFn K (.ref s8) = true)
    {os8 : Value} {ds8 as8 : Option Addr} {ls8 : Array (Option Value)} {vs8 ks8 ps8 cs8 us8 : Value}
    (fs8 : K.lookup s8 = some ⟨os8, ds8, .func (PySem.W.fnOf "__str__" "InvalidNumber.__str__" (defArgs s_str8) (defBody s_str8) (defScope s_str8) .none vs8 ks8 ps8 as8 cs8 us8), ls8⟩)
    (cs_8 : PySem.W.codeIn K cs8 "InvalidNumber.__str__" = true)
    (is9 : PySem.W.findIn K (.ref c9) "__str__" = some (some (.ref s9)))
    (if9 : PySem.W.isFn K (.ref s9) = true)
    {os9 : Value} {ds9 as9 : Option Addr} {ls9 : Array (Option Value)} {vs9 ks9 ps9 cs9 us9 : Value}
    (fs9 : K.lookup s9 = some ⟨os9, ds9, .func (PySem.W.fnOf "__str__" "UnknownName.__str__" (defArgs s_str9) (defBody s_str9) (defScope s_str9) .none vs9 ks9 ps9 as9 cs9 us9), ls9⟩)
    (cs_9 : PySem.W.codeIn K cs9 "UnknownName.__str__" = true)
    (hd_cw : PySem.W.hasDictIn K cw = true)
    (u0_0 : PySem.W.subIn K (.ref c0) (.ref c0) = some true)
    (u0_1 : PySem.W.subIn K (.ref c0) (.ref c1) = some false)
    (u0_2 : PySem.W.subIn K (.ref c0) (.ref c2) = some false)
    (u0_3 : PySem.W.subIn K (.ref c0) (.ref c3) = some false)
    (u0_4 : PySem.W.subIn K (.ref c0) (.ref c4) = some false)
    (u0_5 : PySem.W.subIn K (.ref c0) (.ref c5) = some false)
    (u0_6 : PySem.W.subIn K (.ref c0) (.ref c6) = some false)
    (u0_7 : PySem.W.subIn K (.ref c0) (.ref c7) = some false)
    (u0_8 : PySem.W.subIn K (.ref c0) (.ref c8) = some false)
    (u0_9 : PySem.W.subIn K (.ref c0) (.ref c9) = some false)
    (u0_10 : PySem.W.subIn K (.ref c0) (.ref c10) = some false)
    (u0_11 : PySem.W.subIn K (.ref c0) (.ref c11) = some false)
    (u0_12 : PySem.W.subIn K (.ref c0) (.ref c12) = some false)
    (u0_w : PySem.W.subIn K (.ref c0) (.ref cw) = some true)
    (v0_0 : PySem.W.subIn K (.ref c0) (.type "ValueError") = some true)
    (v0_1 : PySem.W.subIn K (.ref c0) (.type "LookupError") = some false)
    (v0_2 : PySem.W.subIn K (.ref c0) (.type "IndexError") = some false)
    (v0_3 : PySem.W.subIn K (.ref c0) (.type "KeyError") = some false)
    (v0_4 : PySem.W.subIn K (.ref c0) (.type "ArithmeticError") = some false)
    (v0_5 : PySem.W.subIn K (.ref c0) (.type "OverflowError") = some false)
    (v0_6 : PySem.W.subIn K (.ref c0) (.type "ZeroDivisionError") = some false)
    (u1_0 : PySem.W.subIn K (.ref c1) (.ref c0) = some false)
    (u1_1 : PySem.W.subIn K (.ref c1) (.ref c1) = some true)
    (u1_2 : PySem.W.subIn K (.ref c1) (.ref c2) = some false)
    (u1_3 : PySem.W.subIn K (.ref c1) (.ref c3) = some false)
    (u1_4 : PySem.W.subIn K (.ref c1) (.ref c4) = some false)
    (u1_5 : PySem.W.subIn K (.ref c1) (.ref c5) = some false)
    (u1_6 : PySem.W.subIn K (.ref c1) (.ref c6) = some false)
    (u1_7 : PySem.W.subIn K (.ref c1) (.ref c7) = some false)
    (u1_8 : PySem.W.subIn K (.ref c1) (.ref c8) = some false)
    (u1_9 : PySem.W.subIn K (.ref c1) (.ref c9) = some false)
    (u1_10 : PySem.W.subIn K (.ref c1) (.ref c10) = some false)
    (u1_11 : PySem.W.subIn K (.ref c1) (.ref c11) = some false)
    (u1_12 : PySem.W.subIn K (.ref c1) (.ref c12) = some false)
    (u1_w : PySem.W.subIn K (.ref c1) (.ref cw) = some true)
    (v1_0 : PySem.W.subIn K (.ref c1) (.type "ValueError") = some true)
    (v1_1 : PySem.W.subIn K (.ref c1) (.type "LookupError") = some false)
    (v1_2 : PySem.W.subIn K (.ref c1) (.type "IndexError") = some false)
    (v1_3 : PySem.W.subIn K (.ref c1) (.type "KeyError") = some false)
    (v1_4 : PySem.W.subIn K (.ref c1) (.type "ArithmeticError") = some false)
    (v1_5 : PySem.W.subIn K (.ref c1) (.type "OverflowError") = some false)
    (v1_6 : PySem.W.subIn K (.ref c1) (.type "ZeroDivisionError") = some false)
    (u2_0 : PySem.W.subIn K (.ref c2) (.ref c0) = some false)
    (u2_1 : PySem.W.subIn K (.ref c2) (.ref c1) = some false)
    (u2_2 : PySem.W.subIn K (.ref c2) (.ref c2) = some true)
    (u2_3 : PySem.W.subIn K (.ref c2) (.ref c3) = some false)
    (u2_4 : PySem.W.subIn K (.ref c2) (.ref c4) = some false)
    (u2_5 : PySem.W.subIn K (.ref c2) (.ref c5) = some false)
    (u2_6 : PySem.W.subIn K (.ref c2) (.ref c6) = some false)
    (u2_7 : PySem.W.subIn K (.ref c2) (.ref c7) = some false)
    (u2_8 : PySem.W.subIn K (.ref c2) (.ref c8) = some false)
    (u2_9 : PySem.W.subIn K (.ref c2) (.ref c9) = some false)
    (u2_10 : PySem.W.subIn K (.ref c2) (.ref c10) = some false)
    (u2_11 : PySem.W.subIn K (.ref c2) (.ref c11) = some false)
    (u2_12 : PySem.W.subIn K (.ref c2) (.ref c12) = some false)
    (u2_w : PySem.W.subIn K (.ref c2) (.ref cw) = some true)
    (v2_0 : PySem.W.subIn K (.ref c2) (.type "ValueError") = some true)
    (v2_1 : PySem.W.subIn K (.ref c2) (.type "LookupError") = some false)
    (v2_2 : PySem.W.subIn K (.ref c2) (.type "IndexError") = some false)
    (v2_3 : PySem.W.subIn K (.ref c2) (.type "KeyError") = some false)
    (v2_4 : PySem.W.subIn K (.ref c2) (.type "ArithmeticError") = some false)
    (v2_5 : PySem.W.subIn K (.ref c2) (.type "OverflowError") = some false)
    (v2_6 : PySem.W.subIn K (.ref c2) (.type "ZeroDivisionError") = some false)
    (u3_0 : PySem.W.subIn K (.ref c3) (.ref c0) = some false)
    (u3_1 : PySem.W.subIn K (.ref c3) (.ref c1) = some false)
    (u3_2 : PySem.W.subIn K (.ref c3) (.ref c2) = some false)
    (u3_3 : PySem.W.subIn K (.ref c3) (.ref c3) = some true)
    (u3_4 : PySem.W.subIn K (.ref c3) (.ref c4) = some false)
    (u3_5 : PySem.W.subIn K (.ref c3) (.ref c5) = some false)
    (u3_6 : PySem.W.subIn K (.ref c3) (.ref c6) = some false)
    (u3_7 : PySem.W.subIn K (.ref c3) (.ref c7) = some false)
    (u3_8 : PySem.W.subIn K (.ref c3) (.ref c8) = some false)
    (u3_9 : PySem.W.subIn K (.ref c3) (.ref c9) = some false)
    (u3_10 : PySem.W.subIn K (.ref c3) (.ref c10) = some false)
    (u3_11 : PySem.W.subIn K (.ref c3) (.ref c11) = some false)
    (u3_12 : PySem.W.subIn K (.ref c3) (.ref c12) = some false)
    (u3_w : PySem.W.subIn K (.ref c3) (.ref cw) = some true)
    (v3_0 : PySem.W.subIn K (.ref c3) (.type "ValueError") = some true)
    (v3_1 : PySem.W.subIn K (.ref c3) (.type "LookupError") = some false)
    (v3_2 : PySem.W.subIn K (.ref c3) (.type "IndexError") = some false)
    (v3_3 : PySem.W.subIn K (.ref c3) (.type "KeyError") = some false)
    (v3_4 : PySem.W.subIn K (.ref c3) (.type "ArithmeticError") = some false)
    (v3_5 : PySem.W.subIn K (.ref c3) (.type "OverflowError") = some false)
    (v3_6 : PySem.W.subIn K (.ref c3) (.type "ZeroDivisionError") = some false)
    (u4_0 : PySem.W.subIn K (.ref c4) (.ref c0) = some false)
    (u4_1 : PySem.W.subIn K (.ref c4) (.ref c1) = some false)
    (u4_2 : PySem.W.subIn K (.ref c4) (.ref c2) = some false)
    (u4_3 : PySem.W.subIn K (.ref c4) (.ref c3) = some false)
    (u4_4 : PySem.W.subIn K (.ref c4) (.ref c4) = some true)
    (u4_5 : PySem.W.subIn K (.ref c4) (.ref c5) = some false)
    (u4_6 : PySem.W.subIn K (.ref c4) (.ref c6) = some false)
    (u4_7 : PySem.W.subIn K (.ref c4) (.ref c7) = some false)
    (u4_8 : PySem.W.subIn K (.ref c4) (.ref c8) = some false)
    (u4_9 : PySem.W.subIn K (.ref c4) (.ref c9) = some false)
    (u4_10 : PySem.W.subIn K (.ref c4) (.ref c10) = some false)
    (u4_11 : PySem.W.subIn K (.ref c4) (.ref c11) = some false)
    (u4_12 : PySem.W.subIn K (.ref c4) (.ref c12) = some false)
    (u4_w : PySem.W.subIn K (.ref c4) (.ref cw) = some true)
    (v4_0 : PySem.W.subIn K (.ref c4) (.type "ValueError") = some true)
    (v4_1 : PySem.W.subIn K (.ref c4) (.type "LookupError") = some false)
    (v4_2 : PySem.W.subIn K (.ref c4) (.type "IndexError") = some false)
    (v4_3 : PySem.W.subIn K (.ref c4) (.type "KeyError") = some false)
    (v4_4 : PySem.W.subIn K (.ref c4) (.type "ArithmeticError") = some false)
    (v4_5 : PySem.W.subIn K (.ref c4) (.type "OverflowError") = some false)
    (v4_6 : PySem.W.subIn K (.ref c4) (.type "ZeroDivisionError") = some false)
    (u5_0 : PySem.W.subIn K (.ref c5) (.ref c0) = some false)
    (u5_1 : PySem.W.subIn K (.ref c5) (.ref c1) = some false)
    (u5_2 : PySem.W.subIn K (.ref c5) (.ref c2) = some false)
    (u5_3 : PySem.W.subIn K (.ref c5) (.ref c3) = some false)
    (u5_4 : PySem.W.subIn K (.ref c5) (.ref c4) = some false)
    (u5_5 : PySem.W.subIn K (.ref c5) (.ref c5) = some true)
    (u5_6 : PySem.W.subIn K (.ref c5) (.ref c6) = some false)
    (u5_7 : PySem.W.subIn K (.ref c5) (.ref c7) = some false)
    (u5_8 : PySem.W.subIn K (.ref c5) (.ref c8) = some false)
    (u5_9 : PySem.W.subIn K (.ref c5) (.ref c9) = some false)
    (u5_10 : PySem.W.subIn K (.ref c5) (.ref c10) = some false)
    (u5_11 : PySem.W.subIn K (.ref c5) (.ref c11) = some false)
    (u5_12 : PySem.W.subIn K (.ref c5) (.ref c12) = some false)
    (u5_w : PySem.W.subIn K (.ref c5) (.ref cw) = some true)
    (v5_0 : PySem.W.subIn K (.ref c5) (.type "ValueError") = some true)
    (v5_1 : PySem.W.subIn K (.ref c5) (.type "LookupError") = some false)
    (v5_2 : PySem.W.subIn K (.ref c5) (.type "IndexError") = some false)
    (v5_3 : PySem.W.subIn K (.ref c5) (.type "KeyError") = some false)
    (v5_4 : PySem.W.subIn K (.ref c5) (.type "ArithmeticError") = some false)
    (v5_5 : PySem.W.subIn K (.ref c5) (.type "OverflowError") = some false)
    (v5_6 : PySem.W.subIn K (.ref c5) (.type "ZeroDivisionError") = some false)
    (u6_0 : PySem.W.subIn K (.ref c6) (.ref c0) = some false)
    (u6_1 : PySem.W.subIn K (.ref c6) (.ref c1) = some false)
    (u6_2 : PySem.W.subIn K (.ref c6) (.ref c2) = some false)
    (u6_3 : PySem.W.subIn K (.ref c6) (.ref c3) = some false)
    (u6_4 : PySem.W.subIn K (.ref c6) (.ref c4) = some false)
    (u6_5 : PySem.W.subIn K (.ref c6) (.ref c5) = some false)
    (u6_6 : PySem.W.subIn K (.ref c6) (.ref c6) = some true)
    (u6_7 : PySem.W.subIn K (.ref c6) (.ref c7) = some false)
    (u6_8 : PySem.W.subIn K (.ref c6) (.ref c8) = some false)
    (u6_9 : PySem.W.subIn K (.ref c6) (.ref c9) = some false)
    (u6_10 : PySem.W.subIn K (.ref c6) (.ref c10) = some false)
    (u6_11 : PySem.W.subIn K (.ref c6) (.ref c11) = some false)
    (u6_12 : PySem.W.subIn K (.ref c6) (.ref c12) = some false)
    (u6_w : PySem.W.subIn K (.ref c6) (.ref cw) = some true)
    (v6_0 : PySem.W.subIn K (.ref c6) (.type "ValueError") = some true)
    (v6_1 : PySem.W.subIn K (.ref c6) (.type "LookupError") = some false)
    (v6_2 : PySem.W.subIn K (.ref c6) (.type "IndexError") = some false)
    (v6_3 : PySem.W.subIn K (.ref c6) (.type "KeyError") = some false)
    (v6_4 : PySem.W.subIn K (.ref c6) (.type "ArithmeticError") = some false)
    (v6_5 : PySem.W.subIn K (.ref c6) (.type "OverflowError") = some false)
    (v6_6 : PySem.W.subIn K (.ref c6) (.type "ZeroDivisionError") = some false)
    (u7_0 : PySem.W.subIn K (.ref c7) (.ref c0) = some false)
    (u7_1 : PySem.W.subIn K (.ref c7) (.ref c1) = some false)
    (u7_2 : PySem.W.subIn K (.ref c7) (.ref c2) = some false)
    (u7_3 : PySem.W.subIn K (.ref c7) (.ref c3) = some false)
    (u7_4 : PySem.W.subIn K (.ref c7) (.ref c4) = some false)
    (u7_5 : PySem.W.subIn K (.ref c7) (.ref c5) = some false)
    (u7_6 : PySem.W.subIn K (.ref c7) (.ref c6) = some false)
    (u7_7 : PySem.W.subIn K (.ref c7) (.ref c7) = some true)
    (u7_8 : PySem.W.subIn K (.ref c7) (.ref c8) = some false)
    (u7_9 : PySem.W.subIn K (.ref c7) (.ref c9) = some false)
    (u7_10 : PySem.W.subIn K (.ref c7) (.ref c10) = some false)
    (u7_11 : PySem.W.subIn K (.ref c7) (.ref c11) = some false)
    (u7_12 : PySem.W.subIn K (.ref c7) (.ref c12) = some false)
    (u7_w : PySem.W.subIn K (.ref c7) (.ref cw) = some true)
    (v7_0 : PySem.W.subIn K (.ref c7) (.type "ValueError") = some true)
    (v7_1 : PySem.W.subIn K (.ref c7) (.type "LookupError") = some false)
    (v7_2 : PySem.W.subIn K (.ref c7) (.type "IndexError") = some false)
    (v7_3 : PySem.W.subIn K (.ref c7) (.type "KeyError") = some false)
    (v7_4 : PySem.W.subIn K (.ref c7) (.type "ArithmeticError") = some false)
    (v7_5 : PySem.W.subIn K (.ref c7) (.type "OverflowError") = some false)
    (v7_6 : PySem.W.subIn K (.ref c7) (.type "ZeroDivisionError") = some false)
    (u8_0 : PySem.W.subIn K (.ref c8) (.ref c0) = some false)
    (u8_1 : PySem.W.subIn K (.ref c8) (.ref c1) = some false)
    (u8_2 : PySem.W.subIn K (.ref c8) (.ref c2) = some false)
    (u8_3 : PySem.W.subIn K (.ref c8) (.ref c3) = some false)
    (u8_4 : PySem.W.subIn K (.ref c8) (.ref c4) = some false)
    (u8_5 : PySem.W.subIn K (.ref c8) (.ref c5) = some false)
    (u8_6 : PySem.W.subIn K (.ref c8) (.ref c6) = some false)
    (u8_7 : PySem.W.subIn K (.ref c8) (.ref c7) = some false)
    (u8_8 : PySem.W.subIn K (.ref c8) (.ref c8) = some true)
    (u8_9 : PySem.W.subIn K (.ref c8) (.ref c9) = some false)
    (u8_10 : PySem.W.subIn K (.ref c8) (.ref c10) = some false)
    (u8_11 : PySem.W.subIn K (.ref c8) (.ref c11) = some false)
    (u8_12 : PySem.W.subIn K (.ref c8) (.ref c12) = some false)
    (u8_w : PySem.W.subIn K (.ref c8) (.ref cw) = some false)
    (v8_0 : PySem.W.subIn K (.ref c8) (.type "ValueError") = some false)
    (v8_1 : PySem.W.subIn K (.ref c8) (.type "LookupError") = some true)
    (v8_2 : PySem.W.subIn K (.ref c8) (.type "IndexError") = some true)
    (v8_3 : PySem.W.subIn K (.ref c8) (.type "KeyError") = some false)
    (v8_4 : PySem.W.subIn K (.ref c8) (.type "ArithmeticError") = some false)
    (v8_5 : PySem.W.subIn K (.ref c8) (.type "OverflowError") = some false)
    (v8_6 : PySem.W.subIn K (.ref c8) (.type "ZeroDivisionError") = some false)
    (u9_0 : PySem.W.subIn K (.ref c9) (.ref c0) = some false)
    (u9_1 : PySem.W.subIn K (.ref c9) (.ref c1) = some false)
    (u9_2 : PySem.W.subIn K (.ref c9) (.ref c2) = some false)
    (u9_3 : PySem.W.subIn K (.ref c9) (.ref c3) = some false)
    (u9_4 : PySem.W.subIn K (.ref c9) (.ref c4) = some false)
    (u9_5 : PySem.W.subIn K (.ref c9) (.ref c5) = some false)
    (u9_6 : PySem.W.subIn K (.ref c9) (.ref c6) = some false)
    (u9_7 : PySem.W.subIn K (.ref c9) (.ref c7) = some false)
    (u9_8 : PySem.W.subIn K (.ref c9) (.ref c8) = some false)
    (u9_9 : PySem.W.subIn K (.ref c9) (.ref c9) = some true)
    (u9_10 : PySem.W.subIn K (.ref c9) (.ref c10) = some false)
    (u9_11 : PySem.W.subIn K (.ref c9) (.ref c11) = some false)
    (u9_12 : PySem.W.subIn K (.ref c9) (.ref c12) = some false)
    (u9_w : PySem.W.subIn K (.ref c9) (.ref cw) = some false)
    (v9_0 : PySem.W.subIn K (.ref c9) (.type "ValueError") = some false)
    (v9_1 : PySem.W.subIn K (.ref c9) (.type "LookupError") = some true)
    (v9_2 : PySem.W.subIn K (.ref c9) (.type "IndexError") = some false)
    (v9_3 : PySem.W.subIn K (.ref c9) (.type "KeyError") = some true)
    (v9_4 : PySem.W.subIn K (.ref c9) (.type "ArithmeticError") = some false)
    (v9_5 : PySem.W.subIn K (.ref c9) (.type "OverflowError") = some false)
    (v9_6 : PySem.W.subIn K (.ref c9) (.type "ZeroDivisionError") = some false)
    (u10_0 : PySem.W.subIn K (.ref c10) (.ref c0) = some false)
    (u10_1 : PySem.W.subIn K (.ref c10) (.ref c1) = some false)
    (u10_2 : PySem.W.subIn K (.ref c10) (.ref c2) = some false)
    (u10_3 : PySem.W.subIn K (.ref c10) (.ref c3) = some false)
    (u10_4 : PySem.W.subIn K (.ref c10) (.ref c4) = some false)
    (u10_5 : PySem.W.subIn K (.ref c10) (.ref c5) = some false)
    (u10_6 : PySem.W.subIn K (.ref c10) (.ref c6) = some false)
    (u10_7 : PySem.W.subIn K (.ref c10) (.ref c7) = some false)
    (u10_8 : PySem.W.subIn K (.ref c10) (.ref c8) = some false)
    (u10_9 : PySem.W.subIn K (.ref c10) (.ref c9) = some false)
    (u10_10 : PySem.W.subIn K (.ref c10) (.ref c10) = some true)
    (u10_11 : PySem.W.subIn K (.ref c10) (.ref c11) = some false)
    (u10_12 : PySem.W.subIn K (.ref c10) (.ref c12) = some false)
    (u10_w : PySem.W.subIn K (.ref c10) (.ref cw) = some false)
    (v10_0 : PySem.W.subIn K (.ref c10) (.type "ValueError") = some false)
    (v10_1 : PySem.W.subIn K (.ref c10) (.type "LookupError") = some false)
    (v10_2 : PySem.W.subIn K (.ref c10) (.type "IndexError") = some false)
    (v10_3 : PySem.W.subIn K (.ref c10) (.type "KeyError") = some false)
    (v10_4 : PySem.W.subIn K (.ref c10) (.type "ArithmeticError") = some true)
    (v10_5 : PySem.W.subIn K (.ref c10) (.type "OverflowError") = some true)
    (v10_6 : PySem.W.subIn K (.ref c10) (.type "ZeroDivisionError") = some false)
    (u11_0 : PySem.W.subIn K (.ref c11) (.ref c0) = some false)
    (u11_1 : PySem.W.subIn K (.ref c11) (.ref c1) = some false)
    (u11_2 : PySem.W.subIn K (.ref c11) (.ref c2) = some false)
    (u11_3 : PySem.W.subIn K (.ref c11) (.ref c3) = some false)
    (u11_4 : PySem.W.subIn K (.ref c11) (.ref c4) = some false)
    (u11_5 : PySem.W.subIn K (.ref c11) (.ref c5) = some false)
    (u11_6 : PySem.W.subIn K (.ref c11) (.ref c6) = some false)
    (u11_7 : PySem.W.subIn K (.ref c11) (.ref c7) = some false)
    (u11_8 : PySem.W.subIn K (.ref c11) (.ref c8) = some false)
    (u11_9 : PySem.W.subIn K (.ref c11) (.ref c9) = some false)
    (u11_10 : PySem.W.subIn K (.ref c11) (.ref c10) = some false)
    (u11_11 : PySem.W.subIn K (.ref c11) (.ref c11) = some true)
    (u11_12 : PySem.W.subIn K (.ref c11) (.ref c12) = some false)
    (u11_w : PySem.W.subIn K (.ref c11) (.ref cw) = some false)
    (v11_0 : PySem.W.subIn K (.ref c11) (.type "ValueError") = some false)
    (v11_1 : PySem.W.subIn K (.ref c11) (.type "LookupError") = some true)
    (v11_2 : PySem.W.subIn K (.ref c11) (.type "IndexError") = some false)
    (v11_3 : PySem.W.subIn K (.ref c11) (.type "KeyError") = some false)
    (v11_4 : PySem.W.subIn K (.ref c11) (.type "ArithmeticError") = some false)
    (v11_5 : PySem.W.subIn K (.ref c11) (.type "OverflowError") = some false)
    (v11_6 : PySem.W.subIn K (.ref c11) (.type "ZeroDivisionError") = some false)
    (u12_0 : PySem.W.subIn K (.ref c12) (.ref c0) = some false)
    (u12_1 : PySem.W.subIn K (.ref c12) (.ref c1) = some false)
    (u12_2 : PySem.W.subIn K (.ref c12) (.ref c2) = some false)
    (u12_3 : PySem.W.subIn K (.ref c12) (.ref c3) = some false)
    (u12_4 : PySem.W.subIn K (.ref c12) (.ref c4) = some false)
    (u12_5 : PySem.W.subIn K (.ref c12) (.ref c5) = some false)
    (u12_6 : PySem.W.subIn K (.ref c12) (.ref c6) = some false)
    (u12_7 : PySem.W.subIn K (.ref c12) (.ref c7) = some false)
    (u12_8 : PySem.W.subIn K (.ref c12) (.ref c8) = some false)
    (u12_9 : PySem.W.subIn K (.ref c12) (.ref c9) = some false)
    (u12_10 : PySem.W.subIn K (.ref c12) (.ref c10) = some false)
    (u12_11 : PySem.W.subIn K (.ref c12) (.ref c11) = some false)
    (u12_12 : PySem.W.subIn K (.ref c12) (.ref c12) = some true)
    (u12_w : PySem.W.subIn K (.ref c12) (.ref cw) = some false)
    (v12_0 : PySem.W.subIn K (.ref c12) (.type "ValueError") = some false)
    (v12_1 : PySem.W.subIn K (.ref c12) (.type "LookupError") = some false)
    (v12_2 : PySem.W.subIn K (.ref c12) (.type "IndexError") = some false)
    (v12_3 : PySem.W.subIn K (.ref c12) (.type "KeyError") = some false)
    (v12_4 : PySem.W.subIn K (.ref c12) (.type "ArithmeticError") = some true)
    (v12_5 : PySem.W.subIn K (.ref c12) (.type "OverflowError") = some false)
    (v12_6 : PySem.W.subIn K (.ref c12) (.type "ZeroDivisionError") = some false)
    {f1 : Addr} {oc1 : Value} {od1 an1 : Option Addr} {sl1 : Array (Option Value)} {kV1 dc1 pm1 cd1 ct1 : Value}
    (a1 : PySem.W.nsIn K mainGlobals "_law_mill" = some (some (.ref f1)))
    (l1 : K.lookup f1 = some ⟨oc1, od1, .func (PySem.W.fnOf "_law_mill" "_law_mill" (defArgs s_L_mill) (defBody s_L_mill) (defScope s_L_mill) .none kV1 dc1 pm1 an1 cd1 ct1), sl1⟩)
    (c_1 : PySem.W.codeIn K cd1 "_law_mill" = true)
    (k1 : PySem.W.keepIn K (.ref f1) = true)
    {f2 : Addr} {oc2 : Value} {od2 an2 : Option Addr} {sl2 : Array (Option Value)} {kV2 dc2 pm2 cd2 ct2 : Value}
    (a2 : PySem.W.nsIn K mainGlobals "_law_grain" = some (some (.ref f2)))
    (l2 : K.lookup f2 = some ⟨oc2, od2, .func (PySem.W.fnOf "_law_grain" "_law_grain" (defArgs s_L_grain) (defBody s_L_grain) (defScope s_L_grain) .none kV2 dc2 pm2 an2 cd2 ct2), sl2⟩)
    (c_2 : PySem.W.codeIn K cd2 "_law_grain" = true)
    (k2 : PySem.W.keepIn K (.ref f2) = true)
    {f3 : Addr} {oc3 : Value} {od3 an3 : Option Addr} {sl3 : Array (Option Value)} {kV3 dc3 pm3 cd3 ct3 : Value}
    (a3 : PySem.W.nsIn K mainGlobals "_law_one_of" = some (some (.ref f3)))
    (l3 : K.lookup f3 = some ⟨oc3, od3, .func (PySem.W.fnOf "_law_one_of" "_law_one_of" (defArgs s_L_one_of) (defBody s_L_one_of) (defScope s_L_one_of) .none kV3 dc3 pm3 an3 cd3 ct3), sl3⟩)
    (c_3 : PySem.W.codeIn K cd3 "_law_one_of" = true)
    (k3 : PySem.W.keepIn K (.ref f3) = true)
    {f4 : Addr} {oc4 : Value} {od4 an4 : Option Addr} {sl4 : Array (Option Value)} {kV4 dc4 pm4 cd4 ct4 : Value}
    (a4 : PySem.W.nsIn K mainGlobals "_law_order" = some (some (.ref f4)))
    (l4 : K.lookup f4 = some ⟨oc4, od4, .func (PySem.W.fnOf "_law_order" "_law_order" (defArgs s_L_order) (defBody s_L_order) (defScope s_L_order) .none kV4 dc4 pm4 an4 cd4 ct4), sl4⟩)
    (c_4 : PySem.W.codeIn K cd4 "_law_order" = true)
    (k4 : PySem.W.keepIn K (.ref f4) = true)
    {f5 : Addr} {oc5 : Value} {od5 an5 : Option Addr} {sl5 : Array (Option Value)} {kV5 dc5 pm5 cd5 ct5 : Value}
    (a5 : PySem.W.nsIn K mainGlobals "_law_letter" = some (some (.ref f5)))
    (l5 : K.lookup f5 = some ⟨oc5, od5, .func (PySem.W.fnOf "_law_letter" "_law_letter" (defArgs s_L_letter) (defBody s_L_letter) (defScope s_L_letter) .none kV5 dc5 pm5 an5 cd5 ct5), sl5⟩)
    (c_5 : PySem.W.codeIn K cd5 "_law_letter" = true)
    (k5 : PySem.W.keepIn K (.ref f5) = true)
    {f6 : Addr} {oc6 : Value} {od6 an6 : Option Addr} {sl6 : Array (Option Value)} {kV6 dc6 pm6 cd6 ct6 : Value}
    (a6 : PySem.W.nsIn K mainGlobals "_law_made" = some (some (.ref f6)))
    (l6 : K.lookup f6 = some ⟨oc6, od6, .func (PySem.W.fnOf "_law_made" "_law_made" (defArgs s_L_made) (defBody s_L_made) (defScope s_L_made) .none kV6 dc6 pm6 an6 cd6 ct6), sl6⟩)
    (c_6 : PySem.W.codeIn K cd6 "_law_made" = true)
    (k6 : PySem.W.keepIn K (.ref f6) = true)
    {f7 : Addr} {oc7 : Value} {od7 an7 : Option Addr} {sl7 : Array (Option Value)} {kV7 dc7 pm7 cd7 ct7 : Value}
    (a7 : PySem.W.nsIn K mainGlobals "_law_made_plain" = some (some (.ref f7)))
    (l7 : K.lookup f7 = some ⟨oc7, od7, .func (PySem.W.fnOf "_law_made_plain" "_law_made_plain" (defArgs s_L_made_plain) (defBody s_L_made_plain) (defScope s_L_made_plain) .none kV7 dc7 pm7 an7 cd7 ct7), sl7⟩)
    (c_7 : PySem.W.codeIn K cd7 "_law_made_plain" = true)
    (k7 : PySem.W.keepIn K (.ref f7) = true)
    {f8 : Addr} {oc8 : Value} {od8 an8 : Option Addr} {sl8 : Array (Option Value)} {kV8 dc8 pm8 cd8 ct8 : Value}
    (a8 : PySem.W.nsIn K mainGlobals "_law_classes" = some (some (.ref f8)))
    (l8 : K.lookup f8 = some ⟨oc8, od8, .func (PySem.W.fnOf "_law_classes" "_law_classes" (defArgs s_L_classes) (defBody s_L_classes) (defScope s_L_classes) .none kV8 dc8 pm8 an8 cd8 ct8), sl8⟩)
    (c_8 : PySem.W.codeIn K cd8 "_law_classes" = true)
    (k8 : PySem.W.keepIn K (.ref f8) = true)
    {f9 : Addr} {oc9 : Value} {od9 an9 : Option Addr} {sl9 : Array (Option Value)} {kV9 dc9 pm9 cd9 ct9 : Value}
    (a9 : PySem.W.nsIn K mainGlobals "_law_bases" = some (some (.ref f9)))
    (l9 : K.lookup f9 = some ⟨oc9, od9, .func (PySem.W.fnOf "_law_bases" "_law_bases" (defArgs s_L_bases) (defBody s_L_bases) (defScope s_L_bases) .none kV9 dc9 pm9 an9 cd9 ct9), sl9⟩)
    (c_9 : PySem.W.codeIn K cd9 "_law_bases" = true)
    (k9 : PySem.W.keepIn K (.ref f9) = true)
    {f10 : Addr} {oc10 : Value} {od10 an10 : Option Addr} {sl10 : Array (Option Value)} {kV10 dc10 pm10 cd10 ct10 : Value}
    (a10 : PySem.W.nsIn K mainGlobals "_law_due" = some (some (.ref f10)))
    (l10 : K.lookup f10 = some ⟨oc10, od10, .func (PySem.W.fnOf "_law_due" "_law_due" (defArgs s_L_due) (defBody s_L_due) (defScope s_L_due) .none kV10 dc10 pm10 an10 cd10 ct10), sl10⟩)
    (c_10 : PySem.W.codeIn K cd10 "_law_due" = true)
    (k10 : PySem.W.keepIn K (.ref f10) = true)
    {f11 : Addr} {oc11 : Value} {od11 an11 : Option Addr} {sl11 : Array (Option Value)} {kV11 dc11 pm11 cd11 ct11 : Value}
    (a11 : PySem.W.nsIn K mainGlobals "_law_is_kept" = some (some (.ref f11)))
    (l11 : K.lookup f11 = some ⟨oc11, od11, .func (PySem.W.fnOf "_law_is_kept" "_law_is_kept" (defArgs s_L_is_kept) (defBody s_L_is_kept) (defScope s_L_is_kept) .none kV11 dc11 pm11 an11 cd11 ct11), sl11⟩)
    (c_11 : PySem.W.codeIn K cd11 "_law_is_kept" = true)
    (k11 : PySem.W.keepIn K (.ref f11) = true)
    {f12 : Addr} {oc12 : Value} {od12 an12 : Option Addr} {sl12 : Array (Option Value)} {kV12 dc12 pm12 cd12 ct12 : Value}
    (a12 : PySem.W.nsIn K mainGlobals "_law_raised" = some (some (.ref f12)))
    (l12 : K.lookup f12 = some ⟨oc12, od12, .func (PySem.W.fnOf "_law_raised" "_law_raised" (defArgs s_L_raised) (defBody s_L_raised) (defScope s_L_raised) .none kV12 dc12 pm12 an12 cd12 ct12), sl12⟩)
    (c_12 : PySem.W.codeIn K cd12 "_law_raised" = true)
    (k12 : PySem.W.keepIn K (.ref f12) = true)
    {f13 : Addr} {oc13 : Value} {od13 an13 : Option Addr} {sl13 : Array (Option Value)} {kV13 dc13 pm13 cd13 ct13 : Value}
    (a13 : PySem.W.nsIn K mainGlobals "_law_caught" = some (some (.ref f13)))
    (l13 : K.lookup f13 = some ⟨oc13, od13, .func (PySem.W.fnOf "_law_caught" "_law_caught" (defArgs s_L_caught) (defBody s_L_caught) (defScope s_L_caught) .none kV13 dc13 pm13 an13 cd13 ct13), sl13⟩)
    (c_13 : PySem.W.codeIn K cd13 "_law_caught" = true)
    (k13 : PySem.W.keepIn K (.ref f13) = true)
    {f14 : Addr} {oc14 : Value} {od14 an14 : Option Addr} {sl14 : Array (Option Value)} {kV14 dc14 pm14 cd14 ct14 : Value}
    (a14 : PySem.W.nsIn K mainGlobals "_law_is_caught_by_base" = some (some (.ref f14)))
    (l14 : K.lookup f14 = some ⟨oc14, od14, .func (PySem.W.fnOf "_law_is_caught_by_base" "_law_is_caught_by_base" (defArgs s_L_is_caught_by_base) (defBody s_L_is_caught_by_base) (defScope s_L_is_caught_by_base) .none kV14 dc14 pm14 an14 cd14 ct14), sl14⟩)
    (c_14 : PySem.W.codeIn K cd14 "_law_is_caught_by_base" = true)
    (k14 : PySem.W.keepIn K (.ref f14) = true)
    {f15 : Addr} {oc15 : Value} {od15 an15 : Option Addr} {sl15 : Array (Option Value)} {kV15 dc15 pm15 cd15 ct15 : Value}
    (a15 : PySem.W.nsIn K mainGlobals "_law_value" = some (some (.ref f15)))
    (l15 : K.lookup f15 = some ⟨oc15, od15, .func (PySem.W.fnOf "_law_value" "_law_value" (defArgs s_L_value) (defBody s_L_value) (defScope s_L_value) .none kV15 dc15 pm15 an15 cd15 ct15), sl15⟩)
    (c_15 : PySem.W.codeIn K cd15 "_law_value" = true)
    (k15 : PySem.W.keepIn K (.ref f15) = true)
    {f16 : Addr} {oc16 : Value} {od16 an16 : Option Addr} {sl16 : Array (Option Value)} {kV16 dc16 pm16 cd16 ct16 : Value}
    (a16 : PySem.W.nsIn K mainGlobals "_law_cell_right" = some (some (.ref f16)))
    (l16 : K.lookup f16 = some ⟨oc16, od16, .func (PySem.W.fnOf "_law_cell_right" "_law_cell_right" (defArgs s_L_cell_right) (defBody s_L_cell_right) (defScope s_L_cell_right) .none kV16 dc16 pm16 an16 cd16 ct16), sl16⟩)
    (c_16 : PySem.W.codeIn K cd16 "_law_cell_right" = true)
    (k16 : PySem.W.keepIn K (.ref f16) = true)
    {f17 : Addr} {oc17 : Value} {od17 an17 : Option Addr} {sl17 : Array (Option Value)} {kV17 dc17 pm17 cd17 ct17 : Value}
    (a17 : PySem.W.nsIn K mainGlobals "law" = some (some (.ref f17)))
    (l17 : K.lookup f17 = some ⟨oc17, od17, .func (PySem.W.fnOf "law" "law" (defArgs s_law) (defBody s_law) (defScope s_law) .none kV17 dc17 pm17 an17 cd17 ct17), sl17⟩)
    (c_17 : PySem.W.codeIn K cd17 "law" = true)
    (k17 : PySem.W.keepIn K (.ref f17) = true)
    (z_ArithmeticError : PySem.W.nsIn K mainGlobals "ArithmeticError" = some none)
    (z_IndexError : PySem.W.nsIn K mainGlobals "IndexError" = some none)
    (z_KeyError : PySem.W.nsIn K mainGlobals "KeyError" = some none)
    (z_LookupError : PySem.W.nsIn K mainGlobals "LookupError" = some none)
    (z_OverflowError : PySem.W.nsIn K mainGlobals "OverflowError" = some none)
    (z_ValueError : PySem.W.nsIn K mainGlobals "ValueError" = some none)
    (z_ZeroDivisionError : PySem.W.nsIn K mainGlobals "ZeroDivisionError" = some none)
    (z_abs : PySem.W.nsIn K mainGlobals "abs" = some none)
    (z_int : PySem.W.nsIn K mainGlobals "int" = some none)
    (z_isinstance : PySem.W.nsIn K mainGlobals "isinstance" = some none)
    (z_len : PySem.W.nsIn K mainGlobals "len" = some none)
    (z_list : PySem.W.nsIn K mainGlobals "list" = some none)
    (z_max : PySem.W.nsIn K mainGlobals "max" = some none)
    (z_min : PySem.W.nsIn K mainGlobals "min" = some none)
    (z_range : PySem.W.nsIn K mainGlobals "range" = some none)
    (z_repr : PySem.W.nsIn K mainGlobals "repr" = some none)
    (z_str : PySem.W.nsIn K mainGlobals "str" = some none) :
    ∃ fd : FuncData, (∀ (s : Shared) (v : Value), BindsTo s fd ⟨[v], []⟩ [("_law_script", v)]) ∧ ∀ base : Heap, K.In base → base.Ns mainGlobals mg → GFn l.prog w K mg base CX0 5 fa fd ["_law_script"] (spLaw K) := by
  have e := hfa.symm.trans (PySem.W.mg_of X G a17)
  cases e
  have D1 : DefAt K mg "_law_mill" s_L_mill := DefAt.mk' (PySem.W.mg_of X G a1) l1 c_1 k1
  have D2 : DefAt K mg "_law_grain" s_L_grain := DefAt.mk' (PySem.W.mg_of X G a2) l2 c_2 k2
  have D3 : DefAt K mg "_law_one_of" s_L_one_of := DefAt.mk' (PySem.W.mg_of X G a3) l3 c_3 k3
  have D4 : DefAt K mg "_law_order" s_L_order := DefAt.mk' (PySem.W.mg_of X G a4) l4 c_4 k4
  have D5 : DefAt K mg "_law_letter" s_L_letter := DefAt.mk' (PySem.W.mg_of X G a5) l5 c_5 k5
  have D6 : DefAt K mg "_law_made" s_L_made := DefAt.mk' (PySem.W.mg_of X G a6) l6 c_6 k6
  have D7 : DefAt K mg "_law_made_plain" s_L_made_plain := DefAt.mk' (PySem.W.mg_of X G a7) l7 c_7 k7
  have D8 : DefAt K mg "_law_classes" s_L_classes := DefAt.mk' (PySem.W.mg_of X G a8) l8 c_8 k8
  have D9 : DefAt K mg "_law_bases" s_L_bases := DefAt.mk' (PySem.W.mg_of X G a9) l9 c_9 k9
  have D10 : DefAt K mg "_law_due" s_L_due := DefAt.mk' (PySem.W.mg_of X G a10) l10 c_10 k10
  have D11 : DefAt K mg "_law_is_kept" s_L_is_kept := DefAt.mk' (PySem.W.mg_of X G a11) l11 c_11 k11
  have D12 : DefAt K mg "_law_raised" s_L_raised := DefAt.mk' (PySem.W.mg_of X G a12) l12 c_12 k12
  have D13 : DefAt K mg "_law_caught" s_L_caught := DefAt.mk' (PySem.W.mg_of X G a13) l13 c_13 k13
  have D14 : DefAt K mg "_law_is_caught_by_base" s_L_is_caught_by_base := DefAt.mk' (PySem.W.mg_of X G a14) l14 c_14 k14
  have D15 : DefAt K mg "_law_value" s_L_value := DefAt.mk' (PySem.W.mg_of X G a15) l15 c_15 k15
  have D16 : DefAt K mg "_law_cell_right" s_L_cell_right := DefAt.mk' (PySem.W.mg_of X G a16) l16 c_16 k16
  have D17 : DefAt K mg "law" s_law := DefAt.mk' (PySem.W.mg_of X G a17) l17 c_17 k17
  have M : Txt mg := { ArithmeticError := PySem.W.mg_none_of X G z_ArithmeticError, IndexError := PySem.W.mg_none_of X G z_IndexError, KeyError := PySem.W.mg_none_of X G z_KeyError, LookupError := PySem.W.mg_none_of X G z_LookupError, OverflowError := PySem.W.mg_none_of X G z_OverflowError, ValueError := PySem.W.mg_none_of X G z_ValueError, ZeroDivisionError := PySem.W.mg_none_of X G z_ZeroDivisionError, abs := PySem.W.mg_none_of X G z_abs, int := PySem.W.mg_none_of X G z_int, isinstance := PySem.W.mg_none_of X G z_isinstance, len := PySem.W.mg_none_of X G z_len, list := PySem.W.mg_none_of X G z_list, max := PySem.W.mg_none_of X G z_max, min := PySem.W.mg_none_of X G z_min, range := PySem.W.mg_none_of X G z_range, repr := PySem.W.mg_none_of X G z_repr, str := PySem.W.mg_none_of X G z_str }
  have Er : Errs K mg ⟨cw, c0, c1, c2, c3, c4, c5, c6, c7, c8, c9, c10, c11, c12, i7, i8, i9, i10, i11, i12⟩ :=
    { w := ⟨PySem.W.mg_of X G a_cw, ⟨_, _, _, _, PySem.F.excBase_ValueError, x_cw⟩, kc_cw, ec_cw, tc_cw⟩
      c0 := ⟨PySem.W.mg_of X G a_c0, ⟨_, _, _, _, PySem.F.excBase_ValueError, x_c0⟩, kc_c0, ec_c0, tc_c0⟩
      c1 := ⟨PySem.W.mg_of X G a_c1, ⟨_, _, _, _, PySem.F.excBase_ValueError, x_c1⟩, kc_c1, ec_c1, tc_c1⟩
      c2 := ⟨PySem.W.mg_of X G a_c2, ⟨_, _, _, _, PySem.F.excBase_ValueError, x_c2⟩, kc_c2, ec_c2, tc_c2⟩
      c3 := ⟨PySem.W.mg_of X G a_c3, ⟨_, _, _, _, PySem.F.excBase_ValueError, x_c3⟩, kc_c3, ec_c3, tc_c3⟩
      c4 := ⟨PySem.W.mg_of X G a_c4, ⟨_, _, _, _, PySem.F.excBase_ValueError, x_c4⟩, kc_c4, ec_c4, tc_c4⟩
      c5 := ⟨PySem.W.mg_of X G a_c5, ⟨_, _, _, _, PySem.F.excBase_ValueError, x_c5⟩, kc_c5, ec_c5, tc_c5⟩
      c6 := ⟨PySem.W.mg_of X G a_c6, ⟨_, _, _, _, PySem.F.excBase_ValueError, x_c6⟩, kc_c6, ec_c6, tc_c6⟩
      c7 := ⟨{ gC := PySem.W.mg_of X G a_c7, cls := ⟨"ValueError", "ValueError.__new__", "ValueError.__init__", _, _, nm7, q7, e7n, bs7, sn7, sub7, ab7, col7, dd7, ma7, mb7, mc7, md7, me7, PySem.F.excBase_ValueError, by rfl, by rfl, by rfl, xl7⟩, over := ⟨_, _, PySem.F.store_ValueError, Wk.over_of xl7 (by rfl)⟩, sa := sa7, ga := hg_c7, gg := hk_c7, noN := no7, iC := ic7, tC := ti7, kC := kc_c7, exC := ec_c7, tyC := tc_c7, hdC := hd_c7, fn := ⟨_, _, _, _, _, _, _, _, _, _, _, _, _, _, _, fn7, cn7⟩ }⟩
      c8 := ⟨{ gC := PySem.W.mg_of X G a_c8, cls := ⟨"IndexError", "IndexError.__new__", "IndexError.__init__", _, _, nm8, q8, e8n, bs8, sn8, sub8, ab8, col8, dd8, ma8, mb8, mc8, md8, me8, PySem.F.excBase_IndexError, by rfl, by rfl, by rfl, xl8⟩, over := ⟨_, _, PySem.F.store_IndexError, Wk.over_of xl8 (by rfl)⟩, sa := sa8, ga := hg_c8, gg := hk_c8, noN := no8, iC := ic8, tC := ti8, kC := kc_c8, exC := ec_c8, tyC := tc_c8, hdC := hd_c8, fn := ⟨_, _, _, _, _, _, _, _, _, _, _, _, _, _, _, fn8, cn8⟩ }⟩
      c9 := ⟨{ gC := PySem.W.mg_of X G a_c9, cls := ⟨"LookupError", "LookupError.__new__", "LookupError.__init__", _, _, nm9, q9, e9n, bs9, sn9, sub9, ab9, col9, dd9, ma9, mb9, mc9, md9, me9, PySem.F.excBase_LookupError, by rfl, by rfl, by rfl, xl9⟩, over := ⟨_, _, Wk.key_store, Wk.over_of xl9 (by rfl)⟩, sa := sa9, ga := hg_c9, gg := hk_c9, noN := no9, iC := ic9, tC := ti9, kC := kc_c9, exC := ec_c9, tyC := tc_c9, hdC := hd_c9, fn := ⟨_, _, _, _, _, _, _, _, _, _, _, _, _, _, _, fn9, cn9⟩ }⟩
      c10 := ⟨{ gC := PySem.W.mg_of X G a_c10, cls := ⟨"OverflowError", "OverflowError.__new__", "OverflowError.__init__", _, _, nm10, q10, e10n, bs10, sn10, sub10, ab10, col10, dd10, ma10, mb10, mc10, md10, me10, PySem.F.excBase_OverflowError, by rfl, by rfl, by rfl, xl10⟩, over := ⟨_, _, PySem.F.store_OverflowError, Wk.over_of xl10 (by rfl)⟩, sa := sa10, ga := hg_c10, gg := hk_c10, noN := no10, iC := ic10, tC := ti10, kC := kc_c10, exC := ec_c10, tyC := tc_c10, hdC := hd_c10, fn := ⟨_, _, _, _, _, _, _, _, _, _, _, _, _, _, _, fn10, cn10⟩ }⟩
      c11 := ⟨{ gC := PySem.W.mg_of X G a_c11, cls := ⟨"LookupError", "LookupError.__new__", "LookupError.__init__", _, _, nm11, q11, e11n, bs11, sn11, sub11, ab11, col11, dd11, ma11, mb11, mc11, md11, me11, PySem.F.excBase_LookupError, by rfl, by rfl, by rfl, xl11⟩, over := ⟨_, _, PySem.F.store_LookupError, Wk.over_of xl11 (by rfl)⟩, sa := sa11, ga := hg_c11, gg := hk_c11, noN := no11, iC := ic11, tC := ti11, kC := kc_c11, exC := ec_c11, tyC := tc_c11, hdC := hd_c11, fn := ⟨_, _, _, _, _, _, _, _, _, _, _, _, _, _, _, fn11, cn11⟩ }⟩
      c12 := ⟨{ gC := PySem.W.mg_of X G a_c12, cls := ⟨"ArithmeticError", "ArithmeticError.__new__", "ArithmeticError.__init__", _, _, nm12, q12, e12n, bs12, sn12, sub12, ab12, col12, dd12, ma12, mb12, mc12, md12, me12, PySem.F.excBase_ArithmeticError, by rfl, by rfl, by rfl, xl12⟩, over := ⟨_, _, PySem.F.store_ArithmeticError, Wk.over_of xl12 (by rfl)⟩, sa := sa12, ga := hg_c12, gg := hk_c12, noN := no12, iC := ic12, tC := ti12, kC := kc_c12, exC := ec_c12, tyC := tc_c12, hdC := hd_c12, fn := ⟨_, _, _, _, _, _, _, _, _, _, _, _, _, _, _, fn12, cn12⟩ }⟩
      one := fun i hi j hj => by
        rcases ten hi with rfl | rfl | rfl | rfl | rfl | rfl | rfl | rfl | rfl | rfl | rfl | rfl | rfl <;> rcases ten hj with rfl | rfl | rfl | rfl | rfl | rfl | rfl | rfl | rfl | rfl | rfl | rfl | rfl
        · exact Wk.exm_sub ec_c0 hd_c0 tc_c0 u0_0
        · exact Wk.exm_sub ec_c1 hd_c1 tc_c1 u0_1
        · exact Wk.exm_sub ec_c2 hd_c2 tc_c2 u0_2
        · exact Wk.exm_sub ec_c3 hd_c3 tc_c3 u0_3
        · exact Wk.exm_sub ec_c4 hd_c4 tc_c4 u0_4
        · exact Wk.exm_sub ec_c5 hd_c5 tc_c5 u0_5
        · exact Wk.exm_sub ec_c6 hd_c6 tc_c6 u0_6
        · exact Wk.exm_sub ec_c7 hd_c7 tc_c7 u0_7
        · exact Wk.exm_sub ec_c8 hd_c8 tc_c8 u0_8
        · exact Wk.exm_sub ec_c9 hd_c9 tc_c9 u0_9
        · exact Wk.exm_sub ec_c10 hd_c10 tc_c10 u0_10
        · exact Wk.exm_sub ec_c11 hd_c11 tc_c11 u0_11
        · exact Wk.exm_sub ec_c12 hd_c12 tc_c12 u0_12
        · exact Wk.exm_sub ec_c0 hd_c0 tc_c0 u1_0
        · exact Wk.exm_sub ec_c1 hd_c1 tc_c1 u1_1
        · exact Wk.exm_sub ec_c2 hd_c2 tc_c2 u1_2
        · exact Wk.exm_sub ec_c3 hd_c3 tc_c3 u1_3
        · exact Wk.exm_sub ec_c4 hd_c4 tc_c4 u1_4
        · exact Wk.exm_sub ec_c5 hd_c5 tc_c5 u1_5
        · exact Wk.exm_sub ec_c6 hd_c6 tc_c6 u1_6
        · exact Wk.exm_sub ec_c7 hd_c7 tc_c7 u1_7
        · exact Wk.exm_sub ec_c8 hd_c8 tc_c8 u1_8
        · exact Wk.exm_sub ec_c9 hd_c9 tc_c9 u1_9
        · exact Wk.exm_sub ec_c10 hd_c10 tc_c10 u1_10
        · exact Wk.exm_sub ec_c11 hd_c11 tc_c11 u1_11
        · exact Wk.exm_sub ec_c12 hd_c12 tc_c12 u1_12
        · exact Wk.exm_sub ec_c0 hd_c0 tc_c0 u2_0
        · exact Wk.exm_sub ec_c1 hd_c1 tc_c1 u2_1
        · exact Wk.exm_sub ec_c2 hd_c2 tc_c2 u2_2
        · exact Wk.exm_sub ec_c3 hd_c3 tc_c3 u2_3
        · exact Wk.exm_sub ec_c4 hd_c4 tc_c4 u2_4
        · exact Wk.exm_sub ec_c5 hd_c5 tc_c5 u2_5
        · exact Wk.exm_sub ec_c6 hd_c6 tc_c6 u2_6
        · exact Wk.exm_sub ec_c7 hd_c7 tc_c7 u2_7
        · exact Wk.exm_sub ec_c8 hd_c8 tc_c8 u2_8
        · exact Wk.exm_sub ec_c9 hd_c9 tc_c9 u2_9
        · exact Wk.exm_sub ec_c10 hd_c10 tc_c10 u2_10
        · exact Wk.exm_sub ec_c11 hd_c11 tc_c11 u2_11
        · exact Wk.exm_sub ec_c12 hd_c12 tc_c12 u2_12
        · exact Wk.exm_sub ec_c0 hd_c0 tc_c0 u3_0
        · exact Wk.exm_sub ec_c1 hd_c1 tc_c1 u3_1
        · exact Wk.exm_sub ec_c2 hd_c2 tc_c2 u3_2
        · exact Wk.exm_sub ec_c3 hd_c3 tc_c3 u3_3
        · exact Wk.exm_sub ec_c4 hd_c4 tc_c4 u3_4
        · exact Wk.exm_sub ec_c5 hd_c5 tc_c5 u3_5
        · exact Wk.exm_sub ec_c6 hd_c6 tc_c6 u3_6
        · exact Wk.exm_sub ec_c7 hd_c7 tc_c7 u3_7
        · exact Wk.exm_sub ec_c8 hd_c8 tc_c8 u3_8
        · exact Wk.exm_sub ec_c9 hd_c9 tc_c9 u3_9
        · exact Wk.exm_sub ec_c10 hd_c10 tc_c10 u3_10
        · exact Wk.exm_sub ec_c11 hd_c11 tc_c11 u3_11
        · exact Wk.exm_sub ec_c12 hd_c12 tc_c12 u3_12
        · exact Wk.exm_sub ec_c0 hd_c0 tc_c0 u4_0
        · exact Wk.exm_sub ec_c1 hd_c1 tc_c1 u4_1
        · exact Wk.exm_sub ec_c2 hd_c2 tc_c2 u4_2
        · exact Wk.exm_sub ec_c3 hd_c3 tc_c3 u4_3
        · exact Wk.exm_sub ec_c4 hd_c4 tc_c4 u4_4
        · exact Wk.exm_sub ec_c5 hd_c5 tc_c5 u4_5
        · exact Wk.exm_sub ec_c6 hd_c6 tc_c6 u4_6
        · exact Wk.exm_sub ec_c7 hd_c7 tc_c7 u4_7
        · exact Wk.exm_sub ec_c8 hd_c8 tc_c8 u4_8
        · exact Wk.exm_sub ec_c9 hd_c9 tc_c9 u4_9
        · exact Wk.exm_sub ec_c10 hd_c10 tc_c10 u4_10
        · exact Wk.exm_sub ec_c11 hd_c11 tc_c11 u4_11
        · exact Wk.exm_sub ec_c12 hd_c12 tc_c12 u4_12
        · exact Wk.exm_sub ec_c0 hd_c0 tc_c0 u5_0
        · exact Wk.exm_sub ec_c1 hd_c1 tc_c1 u5_1
        · exact Wk.exm_sub ec_c2 hd_c2 tc_c2 u5_2
        · exact Wk.exm_sub ec_c3 hd_c3 tc_c3 u5_3
        · exact Wk.exm_sub ec_c4 hd_c4 tc_c4 u5_4
        · exact Wk.exm_sub ec_c5 hd_c5 tc_c5 u5_5
        · exact Wk.exm_sub ec_c6 hd_c6 tc_c6 u5_6
        · exact Wk.exm_sub ec_c7 hd_c7 tc_c7 u5_7
        · exact Wk.exm_sub ec_c8 hd_c8 tc_c8 u5_8
        · exact Wk.exm_sub ec_c9 hd_c9 tc_c9 u5_9
        · exact Wk.exm_sub ec_c10 hd_c10 tc_c10 u5_10
        · exact Wk.exm_sub ec_c11 hd_c11 tc_c11 u5_11
        · exact Wk.exm_sub ec_c12 hd_c12 tc_c12 u5_12
        · exact Wk.exm_sub ec_c0 hd_c0 tc_c0 u6_0
        · exact Wk.exm_sub ec_c1 hd_c1 tc_c1 u6_1
        · exact Wk.exm_sub ec_c2 hd_c2 tc_c2 u6_2
        · exact Wk.exm_sub ec_c3 hd_c3 tc_c3 u6_3
        · exact Wk.exm_sub ec_c4 hd_c4 tc_c4 u6_4
        · exact Wk.exm_sub ec_c5 hd_c5 tc_c5 u6_5
        · exact Wk.exm_sub ec_c6 hd_c6 tc_c6 u6_6
        · exact Wk.exm_sub ec_c7 hd_c7 tc_c7 u6_7
        · exact Wk.exm_sub ec_c8 hd_c8 tc_c8 u6_8
        · exact Wk.exm_sub ec_c9 hd_c9 tc_c9 u6_9
        · exact Wk.exm_sub ec_c10 hd_c10 tc_c10 u6_10
        · exact Wk.exm_sub ec_c11 hd_c11 tc_c11 u6_11
        · exact Wk.exm_sub ec_c12 hd_c12 tc_c12 u6_12
        · exact Wk.exm_sub ec_c0 hd_c0 tc_c0 u7_0
        · exact Wk.exm_sub ec_c1 hd_c1 tc_c1 u7_1
        · exact Wk.exm_sub ec_c2 hd_c2 tc_c2 u7_2
        · exact Wk.exm_sub ec_c3 hd_c3 tc_c3 u7_3
        · exact Wk.exm_sub ec_c4 hd_c4 tc_c4 u7_4
        · exact Wk.exm_sub ec_c5 hd_c5 tc_c5 u7_5
        · exact Wk.exm_sub ec_c6 hd_c6 tc_c6 u7_6
        · exact Wk.exm_sub ec_c7 hd_c7 tc_c7 u7_7
        · exact Wk.exm_sub ec_c8 hd_c8 tc_c8 u7_8
        · exact Wk.exm_sub ec_c9 hd_c9 tc_c9 u7_9
        · exact Wk.exm_sub ec_c10 hd_c10 tc_c10 u7_10
        · exact Wk.exm_sub ec_c11 hd_c11 tc_c11 u7_11
        · exact Wk.exm_sub ec_c12 hd_c12 tc_c12 u7_12
        · exact Wk.exm_sub ec_c0 hd_c0 tc_c0 u8_0
        · exact Wk.exm_sub ec_c1 hd_c1 tc_c1 u8_1
        · exact Wk.exm_sub ec_c2 hd_c2 tc_c2 u8_2
        · exact Wk.exm_sub ec_c3 hd_c3 tc_c3 u8_3
        · exact Wk.exm_sub ec_c4 hd_c4 tc_c4 u8_4
        · exact Wk.exm_sub ec_c5 hd_c5 tc_c5 u8_5
        · exact Wk.exm_sub ec_c6 hd_c6 tc_c6 u8_6
        · exact Wk.exm_sub ec_c7 hd_c7 tc_c7 u8_7
        · exact Wk.exm_sub ec_c8 hd_c8 tc_c8 u8_8
        · exact Wk.exm_sub ec_c9 hd_c9 tc_c9 u8_9
        · exact Wk.exm_sub ec_c10 hd_c10 tc_c10 u8_10
        · exact Wk.exm_sub ec_c11 hd_c11 tc_c11 u8_11
        · exact Wk.exm_sub ec_c12 hd_c12 tc_c12 u8_12
        · exact Wk.exm_sub ec_c0 hd_c0 tc_c0 u9_0
        · exact Wk.exm_sub ec_c1 hd_c1 tc_c1 u9_1
        · exact Wk.exm_sub ec_c2 hd_c2 tc_c2 u9_2
        · exact Wk.exm_sub ec_c3 hd_c3 tc_c3 u9_3
        · exact Wk.exm_sub ec_c4 hd_c4 tc_c4 u9_4
        · exact Wk.exm_sub ec_c5 hd_c5 tc_c5 u9_5
        · exact Wk.exm_sub ec_c6 hd_c6 tc_c6 u9_6
        · exact Wk.exm_sub ec_c7 hd_c7 tc_c7 u9_7
        · exact Wk.exm_sub ec_c8 hd_c8 tc_c8 u9_8
        · exact Wk.exm_sub ec_c9 hd_c9 tc_c9 u9_9
        · exact Wk.exm_sub ec_c10 hd_c10 tc_c10 u9_10
        · exact Wk.exm_sub ec_c11 hd_c11 tc_c11 u9_11
        · exact Wk.exm_sub ec_c12 hd_c12 tc_c12 u9_12
        · exact Wk.exm_sub ec_c0 hd_c0 tc_c0 u10_0
        · exact Wk.exm_sub ec_c1 hd_c1 tc_c1 u10_1
        · exact Wk.exm_sub ec_c2 hd_c2 tc_c2 u10_2
        · exact Wk.exm_sub ec_c3 hd_c3 tc_c3 u10_3
        · exact Wk.exm_sub ec_c4 hd_c4 tc_c4 u10_4
        · exact Wk.exm_sub ec_c5 hd_c5 tc_c5 u10_5
        · exact Wk.exm_sub ec_c6 hd_c6 tc_c6 u10_6
        · exact Wk.exm_sub ec_c7 hd_c7 tc_c7 u10_7
        · exact Wk.exm_sub ec_c8 hd_c8 tc_c8 u10_8
        · exact Wk.exm_sub ec_c9 hd_c9 tc_c9 u10_9
        · exact Wk.exm_sub ec_c10 hd_c10 tc_c10 u10_10
        · exact Wk.exm_sub ec_c11 hd_c11 tc_c11 u10_11
        · exact Wk.exm_sub ec_c12 hd_c12 tc_c12 u10_12
        · exact Wk.exm_sub ec_c0 hd_c0 tc_c0 u11_0
        · exact Wk.exm_sub ec_c1 hd_c1 tc_c1 u11_1
        · exact Wk.exm_sub ec_c2 hd_c2 tc_c2 u11_2
        · exact Wk.exm_sub ec_c3 hd_c3 tc_c3 u11_3
        · exact Wk.exm_sub ec_c4 hd_c4 tc_c4 u11_4
        · exact Wk.exm_sub ec_c5 hd_c5 tc_c5 u11_5
        · exact Wk.exm_sub ec_c6 hd_c6 tc_c6 u11_6
        · exact Wk.exm_sub ec_c7 hd_c7 tc_c7 u11_7
        · exact Wk.exm_sub ec_c8 hd_c8 tc_c8 u11_8
        · exact Wk.exm_sub ec_c9 hd_c9 tc_c9 u11_9
        · exact Wk.exm_sub ec_c10 hd_c10 tc_c10 u11_10
        · exact Wk.exm_sub ec_c11 hd_c11 tc_c11 u11_11
        · exact Wk.exm_sub ec_c12 hd_c12 tc_c12 u11_12
        · exact Wk.exm_sub ec_c0 hd_c0 tc_c0 u12_0
        · exact Wk.exm_sub ec_c1 hd_c1 tc_c1 u12_1
        · exact Wk.exm_sub ec_c2 hd_c2 tc_c2 u12_2
        · exact Wk.exm_sub ec_c3 hd_c3 tc_c3 u12_3
        · exact Wk.exm_sub ec_c4 hd_c4 tc_c4 u12_4
        · exact Wk.exm_sub ec_c5 hd_c5 tc_c5 u12_5
        · exact Wk.exm_sub ec_c6 hd_c6 tc_c6 u12_6
        · exact Wk.exm_sub ec_c7 hd_c7 tc_c7 u12_7
        · exact Wk.exm_sub ec_c8 hd_c8 tc_c8 u12_8
        · exact Wk.exm_sub ec_c9 hd_c9 tc_c9 u12_9
        · exact Wk.exm_sub ec_c10 hd_c10 tc_c10 u12_10
        · exact Wk.exm_sub ec_c11 hd_c11 tc_c11 u12_11
        · exact Wk.exm_sub ec_c12 hd_c12 tc_c12 u12_12
      base := fun i hi => by
        rcases ten hi with rfl | rfl | rfl | rfl | rfl | rfl | rfl | rfl | rfl | rfl | rfl | rfl | rfl
        · exact Wk.exm_sub ec_cw hd_cw tc_cw u0_w
        · exact Wk.exm_sub ec_cw hd_cw tc_cw u1_w
        · exact Wk.exm_sub ec_cw hd_cw tc_cw u2_w
        · exact Wk.exm_sub ec_cw hd_cw tc_cw u3_w
        · exact Wk.exm_sub ec_cw hd_cw tc_cw u4_w
        · exact Wk.exm_sub ec_cw hd_cw tc_cw u5_w
        · exact Wk.exm_sub ec_cw hd_cw tc_cw u6_w
        · exact Wk.exm_sub ec_cw hd_cw tc_cw u7_w
        · exact Wk.exm_sub ec_cw hd_cw tc_cw u8_w
        · exact Wk.exm_sub ec_cw hd_cw tc_cw u9_w
        · exact Wk.exm_sub ec_cw hd_cw tc_cw u10_w
        · exact Wk.exm_sub ec_cw hd_cw tc_cw u11_w
        · exact Wk.exm_sub ec_cw hd_cw tc_cw u12_w
      kit := fun i hi j hj => by
        rcases ten hi with rfl | rfl | rfl | rfl | rfl | rfl | rfl | rfl | rfl | rfl | rfl | rfl | rfl <;> rcases ten hj with rfl | rfl | rfl | rfl | rfl | rfl | rfl | rfl | rfl | rfl | rfl | rfl | rfl
        · exact Wk.kit_sub hd_c0 tc_c0 u0_0 u0_0
        · exact Wk.kit_sub hd_c1 tc_c1 u0_1 u0_0
        · exact Wk.kit_sub hd_c2 tc_c2 u0_2 u0_0
        · exact Wk.kit_sub hd_c3 tc_c3 u0_3 u0_0
        · exact Wk.kit_sub hd_c4 tc_c4 u0_4 u0_0
        · exact Wk.kit_sub hd_c5 tc_c5 u0_5 u0_0
        · exact Wk.kit_sub hd_c6 tc_c6 u0_6 u0_0
        · exact Wk.kit_sub hd_c7 tc_c7 u0_7 u0_0
        · exact Wk.kit_sub hd_c8 tc_c8 u0_8 u0_0
        · exact Wk.kit_sub hd_c9 tc_c9 u0_9 u0_0
        · exact Wk.kit_sub hd_c10 tc_c10 u0_10 u0_0
        · exact Wk.kit_sub hd_c11 tc_c11 u0_11 u0_0
        · exact Wk.kit_sub hd_c12 tc_c12 u0_12 u0_0
        · exact Wk.kit_sub hd_c0 tc_c0 u1_0 u1_1
        · exact Wk.kit_sub hd_c1 tc_c1 u1_1 u1_1
        · exact Wk.kit_sub hd_c2 tc_c2 u1_2 u1_1
        · exact Wk.kit_sub hd_c3 tc_c3 u1_3 u1_1
        · exact Wk.kit_sub hd_c4 tc_c4 u1_4 u1_1
        · exact Wk.kit_sub hd_c5 tc_c5 u1_5 u1_1
        · exact Wk.kit_sub hd_c6 tc_c6 u1_6 u1_1
        · exact Wk.kit_sub hd_c7 tc_c7 u1_7 u1_1
        · exact Wk.kit_sub hd_c8 tc_c8 u1_8 u1_1
        · exact Wk.kit_sub hd_c9 tc_c9 u1_9 u1_1
        · exact Wk.kit_sub hd_c10 tc_c10 u1_10 u1_1
        · exact Wk.kit_sub hd_c11 tc_c11 u1_11 u1_1
        · exact Wk.kit_sub hd_c12 tc_c12 u1_12 u1_1
        · exact Wk.kit_sub hd_c0 tc_c0 u2_0 u2_2
        · exact Wk.kit_sub hd_c1 tc_c1 u2_1 u2_2
        · exact Wk.kit_sub hd_c2 tc_c2 u2_2 u2_2
        · exact Wk.kit_sub hd_c3 tc_c3 u2_3 u2_2
        · exact Wk.kit_sub hd_c4 tc_c4 u2_4 u2_2
        · exact Wk.kit_sub hd_c5 tc_c5 u2_5 u2_2
        · exact Wk.kit_sub hd_c6 tc_c6 u2_6 u2_2
        · exact Wk.kit_sub hd_c7 tc_c7 u2_7 u2_2
        · exact Wk.kit_sub hd_c8 tc_c8 u2_8 u2_2
        · exact Wk.kit_sub hd_c9 tc_c9 u2_9 u2_2
        · exact Wk.kit_sub hd_c10 tc_c10 u2_10 u2_2
        · exact Wk.kit_sub hd_c11 tc_c11 u2_11 u2_2
        · exact Wk.kit_sub hd_c12 tc_c12 u2_12 u2_2
        · exact Wk.kit_sub hd_c0 tc_c0 u3_0 u3_3
        · exact Wk.kit_sub hd_c1 tc_c1 u3_1 u3_3
        · exact Wk.kit_sub hd_c2 tc_c2 u3_2 u3_3
        · exact Wk.kit_sub hd_c3 tc_c3 u3_3 u3_3
        · exact Wk.kit_sub hd_c4 tc_c4 u3_4 u3_3
        · exact Wk.kit_sub hd_c5 tc_c5 u3_5 u3_3
        · exact Wk.kit_sub hd_c6 tc_c6 u3_6 u3_3
        · exact Wk.kit_sub hd_c7 tc_c7 u3_7 u3_3
        · exact Wk.kit_sub hd_c8 tc_c8 u3_8 u3_3
        · exact Wk.kit_sub hd_c9 tc_c9 u3_9 u3_3
        · exact Wk.kit_sub hd_c10 tc_c10 u3_10 u3_3
        · exact Wk.kit_sub hd_c11 tc_c11 u3_11 u3_3
        · exact Wk.kit_sub hd_c12 tc_c12 u3_12 u3_3
        · exact Wk.kit_sub hd_c0 tc_c0 u4_0 u4_4
        · exact Wk.kit_sub hd_c1 tc_c1 u4_1 u4_4
        · exact Wk.kit_sub hd_c2 tc_c2 u4_2 u4_4
        · exact Wk.kit_sub hd_c3 tc_c3 u4_3 u4_4
        · exact Wk.kit_sub hd_c4 tc_c4 u4_4 u4_4
        · exact Wk.kit_sub hd_c5 tc_c5 u4_5 u4_4
        · exact Wk.kit_sub hd_c6 tc_c6 u4_6 u4_4
        · exact Wk.kit_sub hd_c7 tc_c7 u4_7 u4_4
        · exact Wk.kit_sub hd_c8 tc_c8 u4_8 u4_4
        · exact Wk.kit_sub hd_c9 tc_c9 u4_9 u4_4
        · exact Wk.kit_sub hd_c10 tc_c10 u4_10 u4_4
        · exact Wk.kit_sub hd_c11 tc_c11 u4_11 u4_4
        · exact Wk.kit_sub hd_c12 tc_c12 u4_12 u4_4
        · exact Wk.kit_sub hd_c0 tc_c0 u5_0 u5_5
        · exact Wk.kit_sub hd_c1 tc_c1 u5_1 u5_5
        · exact Wk.kit_sub hd_c2 tc_c2 u5_2 u5_5
        · exact Wk.kit_sub hd_c3 tc_c3 u5_3 u5_5
        · exact Wk.kit_sub hd_c4 tc_c4 u5_4 u5_5
        · exact Wk.kit_sub hd_c5 tc_c5 u5_5 u5_5
        · exact Wk.kit_sub hd_c6 tc_c6 u5_6 u5_5
        · exact Wk.kit_sub hd_c7 tc_c7 u5_7 u5_5
        · exact Wk.kit_sub hd_c8 tc_c8 u5_8 u5_5
        · exact Wk.kit_sub hd_c9 tc_c9 u5_9 u5_5
        · exact Wk.kit_sub hd_c10 tc_c10 u5_10 u5_5
        · exact Wk.kit_sub hd_c11 tc_c11 u5_11 u5_5
        · exact Wk.kit_sub hd_c12 tc_c12 u5_12 u5_5
        · exact Wk.kit_sub hd_c0 tc_c0 u6_0 u6_6
        · exact Wk.kit_sub hd_c1 tc_c1 u6_1 u6_6
        · exact Wk.kit_sub hd_c2 tc_c2 u6_2 u6_6
        · exact Wk.kit_sub hd_c3 tc_c3 u6_3 u6_6
        · exact Wk.kit_sub hd_c4 tc_c4 u6_4 u6_6
        · exact Wk.kit_sub hd_c5 tc_c5 u6_5 u6_6
        · exact Wk.kit_sub hd_c6 tc_c6 u6_6 u6_6
        · exact Wk.kit_sub hd_c7 tc_c7 u6_7 u6_6
        · exact Wk.kit_sub hd_c8 tc_c8 u6_8 u6_6
        · exact Wk.kit_sub hd_c9 tc_c9 u6_9 u6_6
        · exact Wk.kit_sub hd_c10 tc_c10 u6_10 u6_6
        · exact Wk.kit_sub hd_c11 tc_c11 u6_11 u6_6
        · exact Wk.kit_sub hd_c12 tc_c12 u6_12 u6_6
        · exact Wk.kit_sub hd_c0 tc_c0 u7_0 u7_7
        · exact Wk.kit_sub hd_c1 tc_c1 u7_1 u7_7
        · exact Wk.kit_sub hd_c2 tc_c2 u7_2 u7_7
        · exact Wk.kit_sub hd_c3 tc_c3 u7_3 u7_7
        · exact Wk.kit_sub hd_c4 tc_c4 u7_4 u7_7
        · exact Wk.kit_sub hd_c5 tc_c5 u7_5 u7_7
        · exact Wk.kit_sub hd_c6 tc_c6 u7_6 u7_7
        · exact Wk.kit_sub hd_c7 tc_c7 u7_7 u7_7
        · exact Wk.kit_sub hd_c8 tc_c8 u7_8 u7_7
        · exact Wk.kit_sub hd_c9 tc_c9 u7_9 u7_7
        · exact Wk.kit_sub hd_c10 tc_c10 u7_10 u7_7
        · exact Wk.kit_sub hd_c11 tc_c11 u7_11 u7_7
        · exact Wk.kit_sub hd_c12 tc_c12 u7_12 u7_7
        · exact Wk.kit_sub hd_c0 tc_c0 u8_0 u8_8
        · exact Wk.kit_sub hd_c1 tc_c1 u8_1 u8_8
        · exact Wk.kit_sub hd_c2 tc_c2 u8_2 u8_8
        · exact Wk.kit_sub hd_c3 tc_c3 u8_3 u8_8
        · exact Wk.kit_sub hd_c4 tc_c4 u8_4 u8_8
        · exact Wk.kit_sub hd_c5 tc_c5 u8_5 u8_8
        · exact Wk.kit_sub hd_c6 tc_c6 u8_6 u8_8
        · exact Wk.kit_sub hd_c7 tc_c7 u8_7 u8_8
        · exact Wk.kit_sub hd_c8 tc_c8 u8_8 u8_8
        · exact Wk.kit_sub hd_c9 tc_c9 u8_9 u8_8
        · exact Wk.kit_sub hd_c10 tc_c10 u8_10 u8_8
        · exact Wk.kit_sub hd_c11 tc_c11 u8_11 u8_8
        · exact Wk.kit_sub hd_c12 tc_c12 u8_12 u8_8
        · exact Wk.kit_sub hd_c0 tc_c0 u9_0 u9_9
        · exact Wk.kit_sub hd_c1 tc_c1 u9_1 u9_9
        · exact Wk.kit_sub hd_c2 tc_c2 u9_2 u9_9
        · exact Wk.kit_sub hd_c3 tc_c3 u9_3 u9_9
        · exact Wk.kit_sub hd_c4 tc_c4 u9_4 u9_9
        · exact Wk.kit_sub hd_c5 tc_c5 u9_5 u9_9
        · exact Wk.kit_sub hd_c6 tc_c6 u9_6 u9_9
        · exact Wk.kit_sub hd_c7 tc_c7 u9_7 u9_9
        · exact Wk.kit_sub hd_c8 tc_c8 u9_8 u9_9
        · exact Wk.kit_sub hd_c9 tc_c9 u9_9 u9_9
        · exact Wk.kit_sub hd_c10 tc_c10 u9_10 u9_9
        · exact Wk.kit_sub hd_c11 tc_c11 u9_11 u9_9
        · exact Wk.kit_sub hd_c12 tc_c12 u9_12 u9_9
        · exact Wk.kit_sub hd_c0 tc_c0 u10_0 u10_10
        · exact Wk.kit_sub hd_c1 tc_c1 u10_1 u10_10
        · exact Wk.kit_sub hd_c2 tc_c2 u10_2 u10_10
        · exact Wk.kit_sub hd_c3 tc_c3 u10_3 u10_10
        · exact Wk.kit_sub hd_c4 tc_c4 u10_4 u10_10
        · exact Wk.kit_sub hd_c5 tc_c5 u10_5 u10_10
        · exact Wk.kit_sub hd_c6 tc_c6 u10_6 u10_10
        · exact Wk.kit_sub hd_c7 tc_c7 u10_7 u10_10
        · exact Wk.kit_sub hd_c8 tc_c8 u10_8 u10_10
        · exact Wk.kit_sub hd_c9 tc_c9 u10_9 u10_10
        · exact Wk.kit_sub hd_c10 tc_c10 u10_10 u10_10
        · exact Wk.kit_sub hd_c11 tc_c11 u10_11 u10_10
        · exact Wk.kit_sub hd_c12 tc_c12 u10_12 u10_10
        · exact Wk.kit_sub hd_c0 tc_c0 u11_0 u11_11
        · exact Wk.kit_sub hd_c1 tc_c1 u11_1 u11_11
        · exact Wk.kit_sub hd_c2 tc_c2 u11_2 u11_11
        · exact Wk.kit_sub hd_c3 tc_c3 u11_3 u11_11
        · exact Wk.kit_sub hd_c4 tc_c4 u11_4 u11_11
        · exact Wk.kit_sub hd_c5 tc_c5 u11_5 u11_11
        · exact Wk.kit_sub hd_c6 tc_c6 u11_6 u11_11
        · exact Wk.kit_sub hd_c7 tc_c7 u11_7 u11_11
        · exact Wk.kit_sub hd_c8 tc_c8 u11_8 u11_11
        · exact Wk.kit_sub hd_c9 tc_c9 u11_9 u11_11
        · exact Wk.kit_sub hd_c10 tc_c10 u11_10 u11_11
        · exact Wk.kit_sub hd_c11 tc_c11 u11_11 u11_11
        · exact Wk.kit_sub hd_c12 tc_c12 u11_12 u11_11
        · exact Wk.kit_sub hd_c0 tc_c0 u12_0 u12_12
        · exact Wk.kit_sub hd_c1 tc_c1 u12_1 u12_12
        · exact Wk.kit_sub hd_c2 tc_c2 u12_2 u12_12
        · exact Wk.kit_sub hd_c3 tc_c3 u12_3 u12_12
        · exact Wk.kit_sub hd_c4 tc_c4 u12_4 u12_12
        · exact Wk.kit_sub hd_c5 tc_c5 u12_5 u12_12
        · exact Wk.kit_sub hd_c6 tc_c6 u12_6 u12_12
        · exact Wk.kit_sub hd_c7 tc_c7 u12_7 u12_12
        · exact Wk.kit_sub hd_c8 tc_c8 u12_8 u12_12
        · exact Wk.kit_sub hd_c9 tc_c9 u12_9 u12_12
        · exact Wk.kit_sub hd_c10 tc_c10 u12_10 u12_12
        · exact Wk.kit_sub hd_c11 tc_c11 u12_11 u12_12
        · exact Wk.kit_sub hd_c12 tc_c12 u12_12 u12_12
      kitW := fun i hi => by
        rcases ten hi with rfl | rfl | rfl | rfl | rfl | rfl | rfl | rfl | rfl | rfl | rfl | rfl | rfl
        · exact Wk.kit_sub hd_cw tc_cw u0_w u0_0
        · exact Wk.kit_sub hd_cw tc_cw u1_w u1_1
        · exact Wk.kit_sub hd_cw tc_cw u2_w u2_2
        · exact Wk.kit_sub hd_cw tc_cw u3_w u3_3
        · exact Wk.kit_sub hd_cw tc_cw u4_w u4_4
        · exact Wk.kit_sub hd_cw tc_cw u5_w u5_5
        · exact Wk.kit_sub hd_cw tc_cw u6_w u6_6
        · exact Wk.kit_sub hd_cw tc_cw u7_w u7_7
        · exact Wk.kit_sub hd_cw tc_cw u8_w u8_8
        · exact Wk.kit_sub hd_cw tc_cw u9_w u9_9
        · exact Wk.kit_sub hd_cw tc_cw u10_w u10_10
        · exact Wk.kit_sub hd_cw tc_cw u11_w u11_11
        · exact Wk.kit_sub hd_cw tc_cw u12_w u12_12
      exc := fun i hi => by
        rcases ten hi with rfl | rfl | rfl | rfl | rfl | rfl | rfl | rfl | rfl | rfl | rfl | rfl | rfl
        · exact ⟨hg_c0, hk_c0, ec_c0, hd_c0, ha_c0, hn, ht, hm_c0⟩
        · exact ⟨hg_c1, hk_c1, ec_c1, hd_c1, ha_c1, hn, ht, hm_c1⟩
        · exact ⟨hg_c2, hk_c2, ec_c2, hd_c2, ha_c2, hn, ht, hm_c2⟩
        · exact ⟨hg_c3, hk_c3, ec_c3, hd_c3, ha_c3, hn, ht, hm_c3⟩
        · exact ⟨hg_c4, hk_c4, ec_c4, hd_c4, ha_c4, hn, ht, hm_c4⟩
        · exact ⟨hg_c5, hk_c5, ec_c5, hd_c5, ha_c5, hn, ht, hm_c5⟩
        · exact ⟨hg_c6, hk_c6, ec_c6, hd_c6, ha_c6, hn, ht, hm_c6⟩
        · exact ⟨hg_c7, hk_c7, ec_c7, hd_c7, ha_c7, hn, ht, hm_c7⟩
        · exact ⟨hg_c8, hk_c8, ec_c8, hd_c8, ha_c8, hn, ht, hm_c8⟩
        · exact ⟨hg_c9, hk_c9, ec_c9, hd_c9, ha_c9, hn, ht, hm_c9⟩
        · exact ⟨hg_c10, hk_c10, ec_c10, hd_c10, ha_c10, hn, ht, hm_c10⟩
        · exact ⟨hg_c11, hk_c11, ec_c11, hd_c11, ha_c11, hn, ht, hm_c11⟩
        · exact ⟨hg_c12, hk_c12, ec_c12, hd_c12, ha_c12, hn, ht, hm_c12⟩ }
  have Eb : ErrB K ⟨cw, c0, c1, c2, c3, c4, c5, c6, c7, c8, c9, c10, c11, c12, i7, i8, i9, i10, i11, i12⟩ := ⟨fun i hi j hj => by
    rcases ten hi with rfl | rfl | rfl | rfl | rfl | rfl | rfl | rfl | rfl | rfl | rfl | rfl | rfl <;> rcases seven hj with rfl | rfl | rfl | rfl | rfl | rfl | rfl
    · exact Wk.kit_ty (by decide +kernel) v0_0
    · exact Wk.kit_ty (by decide +kernel) v0_1
    · exact Wk.kit_ty (by decide +kernel) v0_2
    · exact Wk.kit_ty (by decide +kernel) v0_3
    · exact Wk.kit_ty (by decide +kernel) v0_4
    · exact Wk.kit_ty (by decide +kernel) v0_5
    · exact Wk.kit_ty (by decide +kernel) v0_6
    · exact Wk.kit_ty (by decide +kernel) v1_0
    · exact Wk.kit_ty (by decide +kernel) v1_1
    · exact Wk.kit_ty (by decide +kernel) v1_2
    · exact Wk.kit_ty (by decide +kernel) v1_3
    · exact Wk.kit_ty (by decide +kernel) v1_4
    · exact Wk.kit_ty (by decide +kernel) v1_5
    · exact Wk.kit_ty (by decide +kernel) v1_6
    · exact Wk.kit_ty (by decide +kernel) v2_0
    · exact Wk.kit_ty (by decide +kernel) v2_1
    · exact Wk.kit_ty (by decide +kernel) v2_2
    · exact Wk.kit_ty (by decide +kernel) v2_3
    · exact Wk.kit_ty (by decide +kernel) v2_4
    · exact Wk.kit_ty (by decide +kernel) v2_5
    · exact Wk.kit_ty (by decide +kernel) v2_6
    · exact Wk.kit_ty (by decide +kernel) v3_0
    · exact Wk.kit_ty (by decide +kernel) v3_1
    · exact Wk.kit_ty (by decide +kernel) v3_2
    · exact Wk.kit_ty (by decide +kernel) v3_3
    · exact Wk.kit_ty (by decide +kernel) v3_4
    · exact Wk.kit_ty (by decide +kernel) v3_5
    · exact Wk.kit_ty (by decide +kernel) v3_6
    · exact Wk.kit_ty (by decide +kernel) v4_0
    · exact Wk.kit_ty (by decide +kernel) v4_1
    · exact Wk.kit_ty (by decide +kernel) v4_2
    · exact Wk.kit_ty (by decide +kernel) v4_3
    · exact Wk.kit_ty (by decide +kernel) v4_4
    · exact Wk.kit_ty (by decide +kernel) v4_5
    · exact Wk.kit_ty (by decide +kernel) v4_6
    · exact Wk.kit_ty (by decide +kernel) v5_0
    · exact Wk.kit_ty (by decide +kernel) v5_1
    · exact Wk.kit_ty (by decide +kernel) v5_2
    · exact Wk.kit_ty (by decide +kernel) v5_3
    · exact Wk.kit_ty (by decide +kernel) v5_4
    · exact Wk.kit_ty (by decide +kernel) v5_5
    · exact Wk.kit_ty (by decide +kernel) v5_6
    · exact Wk.kit_ty (by decide +kernel) v6_0
    · exact Wk.kit_ty (by decide +kernel) v6_1
    · exact Wk.kit_ty (by decide +kernel) v6_2
    · exact Wk.kit_ty (by decide +kernel) v6_3
    · exact Wk.kit_ty (by decide +kernel) v6_4
    · exact Wk.kit_ty (by decide +kernel) v6_5
    · exact Wk.kit_ty (by decide +kernel) v6_6
    · exact Wk.kit_ty (by decide +kernel) v7_0
    · exact Wk.kit_ty (by decide +kernel) v7_1
    · exact Wk.kit_ty (by decide +kernel) v7_2
    · exact Wk.kit_ty (by decide +kernel) v7_3
    · exact Wk.kit_ty (by decide +kernel) v7_4
    · exact Wk.kit_ty (by decide +kernel) v7_5
    · exact Wk.kit_ty (by decide +kernel) v7_6
    · exact Wk.kit_ty (by decide +kernel) v8_0
    · exact Wk.kit_ty (by decide +kernel) v8_1
    · exact Wk.kit_ty (by decide +kernel) v8_2
    · exact Wk.kit_ty (by decide +kernel) v8_3
    · exact Wk.kit_ty (by decide +kernel) v8_4
    · exact Wk.kit_ty (by decide +kernel) v8_5
    · exact Wk.kit_ty (by decide +kernel) v8_6
    · exact Wk.kit_ty (by decide +kernel) v9_0
    · exact Wk.kit_ty (by decide +kernel) v9_1
    · exact Wk.kit_ty (by decide +kernel) v9_2
    · exact Wk.kit_ty (by decide +kernel) v9_3
    · exact Wk.kit_ty (by decide +kernel) v9_4
    · exact Wk.kit_ty (by decide +kernel) v9_5
    · exact Wk.kit_ty (by decide +kernel) v9_6
    · exact Wk.kit_ty (by decide +kernel) v10_0
    · exact Wk.kit_ty (by decide +kernel) v10_1
    · exact Wk.kit_ty (by decide +kernel) v10_2
    · exact Wk.kit_ty (by decide +kernel) v10_3
    · exact Wk.kit_ty (by decide +kernel) v10_4
    · exact Wk.kit_ty (by decide +kernel) v10_5
    · exact Wk.kit_ty (by decide +kernel) v10_6
    · exact Wk.kit_ty (by decide +kernel) v11_0
    · exact Wk.kit_ty (by decide +kernel) v11_1
    · exact Wk.kit_ty (by decide +kernel) v11_2
    · exact Wk.kit_ty (by decide +kernel) v11_3
    · exact Wk.kit_ty (by decide +kernel) v11_4
    · exact Wk.kit_ty (by decide +kernel) v11_5
    · exact Wk.kit_ty (by decide +kernel) v11_6
    · exact Wk.kit_ty (by decide +kernel) v12_0
    · exact Wk.kit_ty (by decide +kernel) v12_1
    · exact Wk.kit_ty (by decide +kernel) v12_2
    · exact Wk.kit_ty (by decide +kernel) v12_3
    · exact Wk.kit_ty (by decide +kernel) v12_4
    · exact Wk.kit_ty (by decide +kernel) v12_5
    · exact Wk.kit_ty (by decide +kernel) v12_6⟩
  refine ⟨PySem.W.fnOf "law" "law" (defArgs s_law) (defBody s_law) (defScope s_law) .none kV17 dc17 pm17 an17 cd17 ct17, fun s v => .of_eq rfl, fun base kb nb => ?_⟩
  have S8 := str_ok8 (P := l.prog) (w := w) (base := base) ⟨s8, os8, ds8, vs8, ks8, ps8, as8, cs8, us8, ls8, fs8, cs_8, is8, if8⟩ M Er
  have S9 := str_ok9 (P := l.prog) (w := w) (base := base) ⟨s9, os9, ds9, vs9, ks9, ps9, as9, cs9, us9, ls9, fs9, cs_9, is9, if9⟩ M Er
  have C_L_mill := ok_L_mill (P := l.prog) (w := w) (base := base) D1 M 
  have C_L_grain := ok_L_grain (P := l.prog) (w := w) (base := base) D2 M 
  have C_L_one_of := ok_L_one_of (P := l.prog) (w := w) (base := base) D3 M C_L_grain
  have C_L_letter := ok_L_letter (P := l.prog) (w := w) (base := base) D5 M C_L_grain
  have C_L_order := ok_L_order (P := l.prog) (w := w) (base := base) D4 M C_L_grain
  have C_L_raised := ok_L_raised (P := l.prog) (w := w) (base := base) D12 M Er
  have C_L_caught := ok_L_caught (P := l.prog) (w := w) (base := base) D13 M Er C_L_raised
  have C_L_is_caught_by_base := ok_L_is_caught_by_base (P := l.prog) (w := w) (base := base) D14 M Er C_L_raised
  have C_L_made_plain := ok_L_made_plain (P := l.prog) (w := w) (base := base) D7 M Er
  have C_L_made := ok_L_made (P := l.prog) (w := w) (base := base) D6 M Er C_L_made_plain
  have C_L_classes := ok_L_classes (P := l.prog) (w := w) (base := base) D8 M Er
  have C_L_bases := ok_L_bases (P := l.prog) (w := w) (base := base) D9 M Er Eb
  have C_L_due := ok_L_due (P := l.prog) (w := w) (base := base) D10 M 
  have C_L_is_kept := ok_L_is_kept (P := l.prog) (w := w) (base := base) D11 M Er S8 S9
  have C_L_value := ok_L_value (P := l.prog) (w := w) (base := base) D15 M C_L_grain C_L_letter C_L_one_of
  have C_L_cell_right := ok_L_cell_right (P := l.prog) (w := w) (base := base) D16 M C_L_order C_L_value C_L_made C_L_caught C_L_is_caught_by_base C_L_classes C_L_bases C_L_due C_L_is_kept
  exact ok_law l17 c_17 M C_L_mill C_L_cell_right
end K01
open PySem PySem.W PyProof.Rows
set_option maxHeartbeats 0 in
theorem PySem.Challenge.cw_whichwalks_k01_whole_errors_holds : PySem.Challenge.rw_whichwalks_k01_whole_errors.Holds := by
  w_on; o_law; k_head; (case hw => w_witness2)
  k_fill
  refine Wk.walk_g (l := PySem.Challenge.rw_whichwalks_k01_whole_errors) (n := 63) (k := 5) (x := "_law_script") (CX := fun _ => L2.CX0) (sp := fun w => K01.spLaw _) rfl (by decide) rfl (by decide) (fun w h Y => PySem.W.kIn_of Y) ?F (fun _ _ a ns hl ho hS => K01.law_start ho hS hl) (fun _ _ _ _ _ h => h)
  case F =>
    intro w mg fa h KX G hmg
    refine' K01.all_mk KX G hmg ?a_cw ?a_c0 ?a_c1 ?a_c2 ?a_c3 ?a_c4 ?a_c5 ?a_c6 ?a_c7 ?a_c8 ?a_c9 ?a_c10 ?a_c11 ?a_c12 ?kc_cw ?ec_cw ?tc_cw ?x_cw ?kc_c0 ?ec_c0 ?tc_c0 ?x_c0 ?kc_c1 ?ec_c1 ?tc_c1 ?x_c1 ?kc_c2 ?ec_c2 ?tc_c2 ?x_c2 ?kc_c3 ?ec_c3 ?tc_c3 ?x_c3 ?kc_c4 ?ec_c4 ?tc_c4 ?x_c4 ?kc_c5 ?ec_c5 ?tc_c5 ?x_c5 ?kc_c6 ?ec_c6 ?tc_c6 ?x_c6 ?kc_c7 ?ec_c7 ?tc_c7 ?kc_c8 ?ec_c8 ?tc_c8 ?kc_c9 ?ec_c9 ?tc_c9 ?kc_c10 ?ec_c10 ?tc_c10 ?kc_c11 ?ec_c11 ?tc_c11 ?kc_c12 ?ec_c12 ?tc_c12 ?hg_c0 ?hk_c0 ?hd_c0 ?ha_c0 ?hm_c0 ?hg_c1 ?hk_c1 ?hd_c1 ?ha_c1 ?hm_c1 ?hg_c2 ?hk_c2 ?hd_c2 ?ha_c2 ?hm_c2 ?hg_c3 ?hk_c3 ?hd_c3 ?ha_c3 ?hm_c3 ?hg_c4 ?hk_c4 ?hd_c4 ?ha_c4 ?hm_c4 ?hg_c5 ?hk_c5 ?hd_c5 ?ha_c5 ?hm_c5 ?hg_c6 ?hk_c6 ?hd_c6 ?ha_c6 ?hm_c6 ?hg_c7 ?hk_c7 ?hd_c7 ?ha_c7 ?hm_c7 ?hg_c8 ?hk_c8 ?hd_c8 ?ha_c8 ?hm_c8 ?hg_c9 ?hk_c9 ?hd_c9 ?ha_c9 ?hm_c9 ?hg_c10 ?hk_c10 ?hd_c10 ?ha_c10 ?hm_c10 ?hg_c11 ?hk_c11 ?hd_c11 ?ha_c11 ?hm_c11 ?hg_c12 ?hk_c12 ?hd_c12 ?ha_c12 ?hm_c12 ?hn ?ht ?xl7 ?sa7 ?no7 ?ic7 ?ti7 ?fn7 ?cn7 ?xl8 ?sa8 ?no8 ?ic8 ?ti8 ?fn8 ?cn8 ?xl9 ?sa9 ?no9 ?ic9 ?ti9 ?fn9 ?cn9 ?xl10 ?sa10 ?no10 ?ic10 ?ti10 ?fn10 ?cn10 ?xl11 ?sa11 ?no11 ?ic11 ?ti11 ?fn11 ?cn11 ?xl12 ?sa12 ?no12 ?ic12 ?ti12 ?fn12 ?cn12 ?is8 ?if8 ?fs8 ?cs_8 ?is9 ?if9 ?fs9 ?cs_9 ?hd_cw ?u0_0 ?u0_1 ?u0_2 ?u0_3 ?u0_4 ?u0_5 ?u0_6 ?u0_7 ?u0_8 ?u0_9 ?u0_10 ?u0_11 ?u0_12 ?u0_w ?v0_0 ?v0_1 ?v0_2 ?v0_3 ?v0_4 ?v0_5 ?v0_6 ?u1_0 ?u1_1 ?u1_2 ?u1_3 ?u1_4 ?u1_5 ?u1_6 ?u1_7 ?u1_8 ?u1_9 ?u1_10 ?u1_11 ?u1_12 ?u1_w ?v1_0 ?v1_1 ?v1_2 ?v1_3 ?v1_4 ?v1_5 ?v1_6 ?u2_0 ?u2_1 ?u2_2 ?u2_3 ?u2_4 ?u2_5 ?u2_6 ?u2_7 ?u2_8 ?u2_9 ?u2_10 ?u2_11 ?u2_12 ?u2_w ?v2_0 ?v2_1 ?v2_2 ?v2_3 ?v2_4 ?v2_5 ?v2_6 ?u3_0 ?u3_1 ?u3_2 ?u3_3 ?u3_4 ?u3_5 ?u3_6 ?u3_7 ?u3_8 ?u3_9 ?u3_10 ?u3_11 ?u3_12 ?u3_w ?v3_0 ?v3_1 ?v3_2 ?v3_3 ?v3_4 ?v3_5 ?v3_6 ?u4_0 ?u4_1 ?u4_2 ?u4_3 ?u4_4 ?u4_5 ?u4_6 ?u4_7 ?u4_8 ?u4_9 ?u4_10 ?u4_11 ?u4_12 ?u4_w ?v4_0 ?v4_1 ?v4_2 ?v4_3 ?v4_4 ?v4_5 ?v4_6 ?u5_0 ?u5_1 ?u5_2 ?u5_3 ?u5_4 ?u5_5 ?u5_6 ?u5_7 ?u5_8 ?u5_9 ?u5_10 ?u5_11 ?u5_12 ?u5_w ?v5_0 ?v5_1 ?v5_2 ?v5_3 ?v5_4 ?v5_5 ?v5_6 ?u6_0 ?u6_1 ?u6_2 ?u6_3 ?u6_4 ?u6_5 ?u6_6 ?u6_7 ?u6_8 ?u6_9 ?u6_10 ?u6_11 ?u6_12 ?u6_w ?v6_0 ?v6_1 ?v6_2 ?v6_3 ?v6_4 ?v6_5 ?v6_6 ?u7_0 ?u7_1 ?u7_2 ?u7_3 ?u7_4 ?u7_5 ?u7_6 ?u7_7 ?u7_8 ?u7_9 ?u7_10 ?u7_11 ?u7_12 ?u7_w ?v7_0 ?v7_1 ?v7_2 ?v7_3 ?v7_4 ?v7_5 ?v7_6 ?u8_0 ?u8_1 ?u8_2 ?u8_3 ?u8_4 ?u8_5 ?u8_6 ?u8_7 ?u8_8 ?u8_9 ?u8_10 ?u8_11 ?u8_12 ?u8_w ?v8_0 ?v8_1 ?v8_2 ?v8_3 ?v8_4 ?v8_5 ?v8_6 ?u9_0 ?u9_1 ?u9_2 ?u9_3 ?u9_4 ?u9_5 ?u9_6 ?u9_7 ?u9_8 ?u9_9 ?u9_10 ?u9_11 ?u9_12 ?u9_w ?v9_0 ?v9_1 ?v9_2 ?v9_3 ?v9_4 ?v9_5 ?v9_6 ?u10_0 ?u10_1 ?u10_2 ?u10_3 ?u10_4 ?u10_5 ?u10_6 ?u10_7 ?u10_8 ?u10_9 ?u10_10 ?u10_11 ?u10_12 ?u10_w ?v10_0 ?v10_1 ?v10_2 ?v10_3 ?v10_4 ?v10_5 ?v10_6 ?u11_0 ?u11_1 ?u11_2 ?u11_3 ?u11_4 ?u11_5 ?u11_6 ?u11_7 ?u11_8 ?u11_9 ?u11_10 ?u11_11 ?u11_12 ?u11_w ?v11_0 ?v11_1 ?v11_2 ?v11_3 ?v11_4 ?v11_5 ?v11_6 ?u12_0 ?u12_1 ?u12_2 ?u12_3 ?u12_4 ?u12_5 ?u12_6 ?u12_7 ?u12_8 ?u12_9 ?u12_10 ?u12_11 ?u12_12 ?u12_w ?v12_0 ?v12_1 ?v12_2 ?v12_3 ?v12_4 ?v12_5 ?v12_6 ?a1 ?l1 ?c_1 ?k1 ?a2 ?l2 ?c_2 ?k2 ?a3 ?l3 ?c_3 ?k3 ?a4 ?l4 ?c_4 ?k4 ?a5 ?l5 ?c_5 ?k5 ?a6 ?l6 ?c_6 ?k6 ?a7 ?l7 ?c_7 ?k7 ?a8 ?l8 ?c_8 ?k8 ?a9 ?l9 ?c_9 ?k9 ?a10 ?l10 ?c_10 ?k10 ?a11 ?l11 ?c_11 ?k11 ?a12 ?l12 ?c_12 ?k12 ?a13 ?l13 ?c_13 ?k13 ?a14 ?l14 ?c_14 ?k14 ?a15 ?l15 ?c_15 ?k15 ?a16 ?l16 ?c_16 ?k16 ?a17 ?l17 ?c_17 ?k17 ?z_ArithmeticError ?z_IndexError ?z_KeyError ?z_LookupError ?z_OverflowError ?z_ValueError ?z_ZeroDivisionError ?z_abs ?z_int ?z_isinstance ?z_len ?z_list ?z_max ?z_min ?z_range ?z_repr ?z_str
    (case a_cw => k_is)
    (case a_c0 => k_is)
    (case a_c1 => k_is)
    (case a_c2 => k_is)
    (case a_c3 => k_is)
    (case a_c4 => k_is)
    (case a_c5 => k_is)
    (case a_c6 => k_is)
    (case a_c7 => k_is)
    (case a_c8 => k_is)
    (case a_c9 => k_is)
    (case a_c10 => k_is)
    (case a_c11 => k_is)
    (case a_c12 => k_is)
    (case xl7 => k_is)
    (case ic7 => k_is)
    (case xl8 => k_is)
    (case ic8 => k_is)
    (case xl9 => k_is)
    (case ic9 => k_is)
    (case xl10 => k_is)
    (case ic10 => k_is)
    (case xl11 => k_is)
    (case ic11 => k_is)
    (case xl12 => k_is)
    (case ic12 => k_is)
    (case is8 => k_is)
    (case is9 => k_is)
    (case kc_cw => k_is)
    (case ec_cw => k_is)
    (case tc_cw => k_is)
    (case x_cw => k_exc)
    (case kc_c0 => k_is)
    (case ec_c0 => k_is)
    (case tc_c0 => k_is)
    (case x_c0 => k_exc)
    (case kc_c1 => k_is)
    (case ec_c1 => k_is)
    (case tc_c1 => k_is)
    (case x_c1 => k_exc)
    (case kc_c2 => k_is)
    (case ec_c2 => k_is)
    (case tc_c2 => k_is)
    (case x_c2 => k_exc)
    (case kc_c3 => k_is)
    (case ec_c3 => k_is)
    (case tc_c3 => k_is)
    (case x_c3 => k_exc)
    (case kc_c4 => k_is)
    (case ec_c4 => k_is)
    (case tc_c4 => k_is)
    (case x_c4 => k_exc)
    (case kc_c5 => k_is)
    (case ec_c5 => k_is)
    (case tc_c5 => k_is)
    (case x_c5 => k_exc)
    (case kc_c6 => k_is)
    (case ec_c6 => k_is)
    (case tc_c6 => k_is)
    (case x_c6 => k_exc)
    (case kc_c7 => k_is)
    (case ec_c7 => k_is)
    (case tc_c7 => k_is)
    (case kc_c8 => k_is)
    (case ec_c8 => k_is)
    (case tc_c8 => k_is)
    (case kc_c9 => k_is)
    (case ec_c9 => k_is)
    (case tc_c9 => k_is)
    (case kc_c10 => k_is)
    (case ec_c10 => k_is)
    (case tc_c10 => k_is)
    (case kc_c11 => k_is)
    (case ec_c11 => k_is)
    (case tc_c11 => k_is)
    (case kc_c12 => k_is)
    (case ec_c12 => k_is)
    (case tc_c12 => k_is)
    (case hg_c0 => k_is)
    (case hk_c0 => k_is)
    (case hd_c0 => k_is)
    (case ha_c0 => k_is)
    (case hm_c0 => k_is)
    (case hg_c1 => k_is)
    (case hk_c1 => k_is)
    (case hd_c1 => k_is)
    (case ha_c1 => k_is)
    (case hm_c1 => k_is)
    (case hg_c2 => k_is)
    (case hk_c2 => k_is)
    (case hd_c2 => k_is)
    (case ha_c2 => k_is)
    (case hm_c2 => k_is)
    (case hg_c3 => k_is)
    (case hk_c3 => k_is)
    (case hd_c3 => k_is)
    (case ha_c3 => k_is)
    (case hm_c3 => k_is)
    (case hg_c4 => k_is)
    (case hk_c4 => k_is)
    (case hd_c4 => k_is)
    (case ha_c4 => k_is)
    (case hm_c4 => k_is)
    (case hg_c5 => k_is)
    (case hk_c5 => k_is)
    (case hd_c5 => k_is)
    (case ha_c5 => k_is)
    (case hm_c5 => k_is)
    (case hg_c6 => k_is)
    (case hk_c6 => k_is)
    (case hd_c6 => k_is)
    (case ha_c6 => k_is)
    (case hm_c6 => k_is)
    (case hg_c7 => k_is)
    (case hk_c7 => k_is)
    (case hd_c7 => k_is)
    (case ha_c7 => k_is)
    (case hm_c7 => k_is)
    (case hg_c8 => k_is)
    (case hk_c8 => k_is)
    (case hd_c8 => k_is)
    (case ha_c8 => k_is)
    (case hm_c8 => k_is)
    (case hg_c9 => k_is)
    (case hk_c9 => k_is)
    (case hd_c9 => k_is)
    (case ha_c9 => k_is)
    (case hm_c9 => k_is)
    (case hg_c10 => k_is)
    (case hk_c10 => k_is)
    (case hd_c10 => k_is)
    (case ha_c10 => k_is)
    (case hm_c10 => k_is)
    (case hg_c11 => k_is)
    (case hk_c11 => k_is)
    (case hd_c11 => k_is)
    (case ha_c11 => k_is)
    (case hm_c11 => k_is)
    (case hg_c12 => k_is)
    (case hk_c12 => k_is)
    (case hd_c12 => k_is)
    (case ha_c12 => k_is)
    (case hm_c12 => k_is)
    (case hn => k_is)
    (case ht => k_is)
    (case sa7 => k_is)
    (case no7 => k_is)
    (case ti7 => k_is)
    (case fn7 => k_is)
    (case cn7 => k_is)
    (case sa8 => k_is)
    (case no8 => k_is)
    (case ti8 => k_is)
    (case fn8 => k_is)
    (case cn8 => k_is)
    (case sa9 => k_is)
    (case no9 => k_is)
    (case ti9 => k_is)
    (case fn9 => k_is)
    (case cn9 => k_is)
    (case sa10 => k_is)
    (case no10 => k_is)
    (case ti10 => k_is)
    (case fn10 => k_is)
    (case cn10 => k_is)
    (case sa11 => k_is)
    (case no11 => k_is)
    (case ti11 => k_is)
    (case fn11 => k_is)
    (case cn11 => k_is)
    (case sa12 => k_is)
    (case no12 => k_is)
    (case ti12 => k_is)
    (case fn12 => k_is)
    (case cn12 => k_is)
    (case if8 => k_is)
    (case fs8 => k_is)
    (case cs_8 => k_is)
    (case if9 => k_is)
    (case fs9 => k_is)
    (case cs_9 => k_is)
    (case hd_cw => k_is)
    (case u0_0 => k_is)
    (case u0_1 => k_is)
    (case u0_2 => k_is)
    (case u0_3 => k_is)
    (case u0_4 => k_is)
    (case u0_5 => k_is)
    (case u0_6 => k_is)
    (case u0_7 => k_is)
    (case u0_8 => k_is)
    (case u0_9 => k_is)
    (case u0_10 => k_is)
    (case u0_11 => k_is)
    (case u0_12 => k_is)
    (case u0_w => k_is)
    (case v0_0 => k_is)
    (case v0_1 => k_is)
    (case v0_2 => k_is)
    (case v0_3 => k_is)
    (case v0_4 => k_is)
    (case v0_5 => k_is)
    (case v0_6 => k_is)
    (case u1_0 => k_is)
    (case u1_1 => k_is)
    (case u1_2 => k_is)
    (case u1_3 => k_is)
    (case u1_4 => k_is)
    (case u1_5 => k_is)
    (case u1_6 => k_is)
    (case u1_7 => k_is)
    (case u1_8 => k_is)
    (case u1_9 => k_is)
    (case u1_10 => k_is)
    (case u1_11 => k_is)
    (case u1_12 => k_is)
    (case u1_w => k_is)
    (case v1_0 => k_is)
    (case v1_1 => k_is)
    (case v1_2 => k_is)
    (case v1_3 => k_is)
    (case v1_4 => k_is)
    (case v1_5 => k_is)
    (case v1_6 => k_is)
    (case u2_0 => k_is)
    (case u2_1 => k_is)
    (case u2_2 => k_is)
    (case u2_3 => k_is)
    (case u2_4 => k_is)
    (case u2_5 => k_is)
    (case u2_6 => k_is)
    (case u2_7 => k_is)
    (case u2_8 => k_is)
    (case u2_9 => k_is)
    (case u2_10 => k_is)
    (case u2_11 => k_is)
    (case u2_12 => k_is)
    (case u2_w => k_is)
    (case v2_0 => k_is)
    (case v2_1 => k_is)
    (case v2_2 => k_is)
    (case v2_3 => k_is)
    (case v2_4 => k_is)
    (case v2_5 => k_is)
    (case v2_6 => k_is)
    (case u3_0 => k_is)
    (case u3_1 => k_is)
    (case u3_2 => k_is)
    (case u3_3 => k_is)
    (case u3_4 => k_is)
    (case u3_5 => k_is)
    (case u3_6 => k_is)
    (case u3_7 => k_is)
    (case u3_8 => k_is)
    (case u3_9 => k_is)
    (case u3_10 => k_is)
    (case u3_11 => k_is)
    (case u3_12 => k_is)
    (case u3_w => k_is)
    (case v3_0 => k_is)
    (case v3_1 => k_is)
    (case v3_2 => k_is)
    (case v3_3 => k_is)
    (case v3_4 => k_is)
    (case v3_5 => k_is)
    (case v3_6 => k_is)
    (case u4_0 => k_is)
    (case u4_1 => k_is)
    (case u4_2 => k_is)
    (case u4_3 => k_is)
    (case u4_4 => k_is)
    (case u4_5 => k_is)
    (case u4_6 => k_is)
    (case u4_7 => k_is)
    (case u4_8 => k_is)
    (case u4_9 => k_is)
    (case u4_10 => k_is)
    (case u4_11 => k_is)
    (case u4_12 => k_is)
    (case u4_w => k_is)
    (case v4_0 => k_is)
    (case v4_1 => k_is)
    (case v4_2 => k_is)
    (case v4_3 => k_is)
    (case v4_4 => k_is)
    (case v4_5 => k_is)
    (case v4_6 => k_is)
    (case u5_0 => k_is)
    (case u5_1 => k_is)
    (case u5_2 => k_is)
    (case u5_3 => k_is)
    (case u5_4 => k_is)
    (case u5_5 => k_is)
    (case u5_6 => k_is)
    (case u5_7 => k_is)
    (case u5_8 => k_is)
    (case u5_9 => k_is)
    (case u5_10 => k_is)
    (case u5_11 => k_is)
    (case u5_12 => k_is)
    (case u5_w => k_is)
    (case v5_0 => k_is)
    (case v5_1 => k_is)
    (case v5_2 => k_is)
    (case v5_3 => k_is)
    (case v5_4 => k_is)
    (case v5_5 => k_is)
    (case v5_6 => k_is)
    (case u6_0 => k_is)
    (case u6_1 => k_is)
    (case u6_2 => k_is)
    (case u6_3 => k_is)
    (case u6_4 => k_is)
    (case u6_5 => k_is)
    (case u6_6 => k_is)
    (case u6_7 => k_is)
    (case u6_8 => k_is)
    (case u6_9 => k_is)
    (case u6_10 => k_is)
    (case u6_11 => k_is)
    (case u6_12 => k_is)
    (case u6_w => k_is)
    (case v6_0 => k_is)
    (case v6_1 => k_is)
    (case v6_2 => k_is)
    (case v6_3 => k_is)
    (case v6_4 => k_is)
    (case v6_5 => k_is)
    (case v6_6 => k_is)
    (case u7_0 => k_is)
    (case u7_1 => k_is)
    (case u7_2 => k_is)
    (case u7_3 => k_is)
    (case u7_4 => k_is)
    (case u7_5 => k_is)
    (case u7_6 => k_is)
    (case u7_7 => k_is)
    (case u7_8 => k_is)
    (case u7_9 => k_is)
    (case u7_10 => k_is)
    (case u7_11 => k_is)
    (case u7_12 => k_is)
    (case u7_w => k_is)
    (case v7_0 => k_is)
    (case v7_1 => k_is)
    (case v7_2 => k_is)
    (case v7_3 => k_is)
    (case v7_4 => k_is)
    (case v7_5 => k_is)
    (case v7_6 => k_is)
    (case u8_0 => k_is)
    (case u8_1 => k_is)
    (case u8_2 => k_is)
    (case u8_3 => k_is)
    (case u8_4 => k_is)
    (case u8_5 => k_is)
    (case u8_6 => k_is)
    (case u8_7 => k_is)
    (case u8_8 => k_is)
    (case u8_9 => k_is)
    (case u8_10 => k_is)
    (case u8_11 => k_is)
    (case u8_12 => k_is)
    (case u8_w => k_is)
    (case v8_0 => k_is)
    (case v8_1 => k_is)
    (case v8_2 => k_is)
    (case v8_3 => k_is)
    (case v8_4 => k_is)
    (case v8_5 => k_is)
    (case v8_6 => k_is)
    (case u9_0 => k_is)
    (case u9_1 => k_is)
    (case u9_2 => k_is)
    (case u9_3 => k_is)
    (case u9_4 => k_is)
    (case u9_5 => k_is)
    (case u9_6 => k_is)
    (case u9_7 => k_is)
    (case u9_8 => k_is)
    (case u9_9 => k_is)
    (case u9_10 => k_is)
    (case u9_11 => k_is)
    (case u9_12 => k_is)
    (case u9_w => k_is)
    (case v9_0 => k_is)
    (case v9_1 => k_is)
    (case v9_2 => k_is)
    (case v9_3 => k_is)
    (case v9_4 => k_is)
    (case v9_5 => k_is)
    (case v9_6 => k_is)
    (case u10_0 => k_is)
    (case u10_1 => k_is)
    (case u10_2 => k_is)
    (case u10_3 => k_is)
    (case u10_4 => k_is)
    (case u10_5 => k_is)
    (case u10_6 => k_is)
    (case u10_7 => k_is)
    (case u10_8 => k_is)
    (case u10_9 => k_is)
    (case u10_10 => k_is)
    (case u10_11 => k_is)
    (case u10_12 => k_is)
    (case u10_w => k_is)
    (case v10_0 => k_is)
    (case v10_1 => k_is)
    (case v10_2 => k_is)
    (case v10_3 => k_is)
    (case v10_4 => k_is)
    (case v10_5 => k_is)
    (case v10_6 => k_is)
    (case u11_0 => k_is)
    (case u11_1 => k_is)
    (case u11_2 => k_is)
    (case u11_3 => k_is)
    (case u11_4 => k_is)
    (case u11_5 => k_is)
    (case u11_6 => k_is)
    (case u11_7 => k_is)
    (case u11_8 => k_is)
    (case u11_9 => k_is)
    (case u11_10 => k_is)
    (case u11_11 => k_is)
    (case u11_12 => k_is)
    (case u11_w => k_is)
    (case v11_0 => k_is)
    (case v11_1 => k_is)
    (case v11_2 => k_is)
    (case v11_3 => k_is)
    (case v11_4 => k_is)
    (case v11_5 => k_is)
    (case v11_6 => k_is)
    (case u12_0 => k_is)
    (case u12_1 => k_is)
    (case u12_2 => k_is)
    (case u12_3 => k_is)
    (case u12_4 => k_is)
    (case u12_5 => k_is)
    (case u12_6 => k_is)
    (case u12_7 => k_is)
    (case u12_8 => k_is)
    (case u12_9 => k_is)
    (case u12_10 => k_is)
    (case u12_11 => k_is)
    (case u12_12 => k_is)
    (case u12_w => k_is)
    (case v12_0 => k_is)
    (case v12_1 => k_is)
    (case v12_2 => k_is)
    (case v12_3 => k_is)
    (case v12_4 => k_is)
    (case v12_5 => k_is)
    (case v12_6 => k_is)
    (case a1 => k_is)
    (case l1 => k_is)
    (case c_1 => k_is)
    (case k1 => k_is)
    (case a2 => k_is)
    (case l2 => k_is)
    (case c_2 => k_is)
    (case k2 => k_is)
    (case a3 => k_is)
    (case l3 => k_is)
    (case c_3 => k_is)
    (case k3 => k_is)
    (case a4 => k_is)
    (case l4 => k_is)
    (case c_4 => k_is)
    (case k4 => k_is)
    (case a5 => k_is)
    (case l5 => k_is)
    (case c_5 => k_is)
    (case k5 => k_is)
    (case a6 => k_is)
    (case l6 => k_is)
    (case c_6 => k_is)
    (case k6 => k_is)
    (case a7 => k_is)
    (case l7 => k_is)
    (case c_7 => k_is)
    (case k7 => k_is)
    (case a8 => k_is)
    (case l8 => k_is)
    (case c_8 => k_is)
    (case k8 => k_is)
    (case a9 => k_is)
    (case l9 => k_is)
    (case c_9 => k_is)
    (case k9 => k_is)
    (case a10 => k_is)
    (case l10 => k_is)
    (case c_10 => k_is)
    (case k10 => k_is)
    (case a11 => k_is)
    (case l11 => k_is)
    (case c_11 => k_is)
    (case k11 => k_is)
    (case a12 => k_is)
    (case l12 => k_is)
    (case c_12 => k_is)
    (case k12 => k_is)
    (case a13 => k_is)
    (case l13 => k_is)
    (case c_13 => k_is)
    (case k13 => k_is)
    (case a14 => k_is)
    (case l14 => k_is)
    (case c_14 => k_is)
    (case k14 => k_is)
    (case a15 => k_is)
    (case l15 => k_is)
    (case c_15 => k_is)
    (case k15 => k_is)
    (case a16 => k_is)
    (case l16 => k_is)
    (case c_16 => k_is)
    (case k16 => k_is)
    (case a17 => k_is)
    (case l17 => k_is)
    (case c_17 => k_is)
    (case k17 => k_is)
    (case z_ArithmeticError => k_is)
    (case z_IndexError => k_is)
    (case z_KeyError => k_is)
    (case z_LookupError => k_is)
    (case z_OverflowError => k_is)
    (case z_ValueError => k_is)
    (case z_ZeroDivisionError => k_is)
    (case z_abs => k_is)
    (case z_int => k_is)
    (case z_isinstance => k_is)
    (case z_len => k_is)
    (case z_list => k_is)
    (case z_max => k_is)
    (case z_min => k_is)
    (case z_range => k_is)
    (case z_repr => k_is)
    (case z_str => k_is)
