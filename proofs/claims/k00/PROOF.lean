import PyProof.Rows.All
import Wide.All
import OpenK.AllK
import Wide.FinOn
import HandS.ForMost
import HandS.Codes
import PyProof.ReprRoads
import PyProof.ListStr
import PyProof.StrOps2
import PyProof.NeKinds
import HandS.Zip
import HandS.IsInst
import PyProof.Rows.SetFrom
import PyProof.Rows.SortShellAny
import HandS.Set
import HandS.SetFor
import HandS.TupAny
import PySem.Challenge.RW_whichwalks_k00_integers_names_and_sets
import HandS.Wide
import HandS.Style
import HandS.NoneIn
set_option Elab.async false
set_option linter.all false
set_option maxRecDepth 100000
/-! WkG: promises of defs that are called where no text of a list is under way (the stack has no guard). -/
namespace Wk
open PySem PySem.Spec PyProof.Rows L2

/-- room, and no guard on the stack -/
structure RoomG (k : Nat) (A : Around) : Prop where
  room : Room k A
  bare : A.guards = some []
theorem RoomG.mono {j k : Nat} {A : Around} (r : RoomG k A) (h : j ≤ k) : RoomG j A := ⟨r.room.mono h, r.bare⟩
theorem RoomG.deeper {k : Nat} {A : Around} (r : RoomG (k + 1) A) (env : Env) : RoomG k (A.deeper env) := ⟨r.room.deeper env, r.bare⟩
theorem RoomG.u64 {k : Nat} {A : Around} (r : RoomG k A) : A.units + 64 < cLine := by have := r.room.un; omega
theorem RoomG.hu {k : Nat} {A : Around} (r : RoomG k A) : A.units + 1 < cLine := hu_of r.room

structure GFn (P : Program) (w : World) (K : PySem.W.Frag) (mg : Str → Option Value) (base : Heap) (CX : CXT) (k : Nat) (f : Addr)
    (fd : FuncData) (ps : List Str) (sp : Sp) : Prop where
  len : ∀ vs H Q E, sp vs H Q E → vs.length = ps.length
  run : ∀ (A : Around) (outer : List Env) (s : Shared) (H : Hp) (args : Args) (us : List Value) (vs : List V) (Q : VK) (E : XK),
    RoomG k A → Env0 P w K mg base A outer s H → BindsTo s fd args (ps.zip us) → Vals vs us → sp vs H Q E →
      codeAny (model P w) A (.call (.ref f) args) (CR CX outer P w H s Q E) s

section
variable {P : Program} {w : World} {K : PySem.W.Frag} {mg : Str → Option Value} {base : Heap} {CX : CXT}
theorem GFn.mono {j k : Nat} {f : Addr} {fd : FuncData} {ps : List Str} {sp : Sp} (F : GFn P w K mg base CX j f fd ps sp) (h : j ≤ k) : GFn P w K mg base CX k f fd ps sp :=
  ⟨F.len, fun A outer s H args us vs Q E hr => F.run A outer s H args us vs Q E (hr.mono h)⟩

/-- a def by its body -/
theorem gfn_of {k : Nat} {f : Addr} {name qual : Str} {params : Arguments} {body : List Stmt} {scope : Scope} {dV kV doc pm cdv ct oc : Value}
    {an od : Option Addr} {osl : Array (Option Value)} {N ps : List Str} {sp : Sp}
    (lk : K.lookup f = some ⟨oc, od, .func (PySem.W.fnOf name qual params body scope dV kV doc pm an cdv ct), osl⟩)
    (hcd : PySem.W.codeIn K cdv qual = true) (S : FnScope N ps scope)
    (len : ∀ vs H Q E, sp vs H Q E → vs.length = ps.length)
    (hbody : ∀ (A : Around) (outer : List Env) (s : Shared) (H : Hp) (vs : List V) (Q : VK) (E : XK),
      RoomG k (A.deeper (envOfC qual scope s.heap.objs.size f cdv)) → sp vs H Q E →
      ∃ t, PSs (cxOf CX P w K mg base N qual scope f cdv A outer s H E) body t ∧ t { nx := fun _ H' => Q .non H', rt := Q } (start N vs) H) :
    GFn P w K mg base CX (k + 1) f (PySem.W.fnOf name qual params body scope dV kV doc pm an cdv ct) ps sp := by
  constructor
  · exact len
  · intro A outer s H args us vs Q E hr e0 hb r hsp
    have kin : K.In s.heap := e0.mod.kin.keeps fun b o e => (e0.bs b o e).1
    have nolim : s.heap.NoLimit := e0.mod.nolimit.keeps fun b o e => (e0.bs b o e).1
    have kinds : ∀ y ∈ ps.zip us, scope.names.lookup y.1 = some .local ∨
        (scope.names.lookup y.1 = some .cell ∧ ((cellsFrom (s.heap.objs.size + 1) scope.names []).lookup y.1).isSome = true) := by
      rintro ⟨n, v⟩ hy
      rcases S.par n (List.of_mem_zip hy).1 with q | q
      · exact .inl q
      · exact .inr ⟨q, PySem.W.cellsFrom_some _ _ _ (.inl q)⟩
    refine codeAny_call_function hr.room.depth (kin _ _ lk) rfl S.co S.gen rfl (PySem.W.codeRec_of kin hcd) (hb _ _ _ _ ?_)
    refine wpAny_newFunctionEnv_cells S.kind kinds ?_
    intro env he s1 x
    subst he
    refine ⟨nolim.keeps x.toInCall.keep, codeAny_func ?_⟩
    obtain ⟨t, ht, hq⟩ := hbody A outer s H vs Q E (hr.deeper _) hsp
    have I := inv_start (CX := CX) (E := E) S hr.room.hd e0 (len _ _ _ _ hsp) r x
    refine wpAny_mono (ht.run [] s1 (start N vs) H _ I hq) ?_ (fun e s' hs => hs)
    intro fl s' hs
    cases fl with
    | ret u => obtain ⟨v, σ', H', J, rv, q⟩ := hs; exact ⟨v, H', J.os, J.bare, J.base, J.hok, rv, q⟩
    | next => obtain ⟨σ', H', J, q⟩ := hs; exact ⟨.non, H', J.os, J.bare, J.base, J.hok, rfl, q⟩
    | brk => obtain ⟨_, _, _, q⟩ := hs; exact False.elim q
    | cont => obtain ⟨_, _, _, q⟩ := hs; exact False.elim q
end

section
variable {X : Cx} {CX : CXT} {k j : Nat} {f : Addr} {fd : FuncData} {ps : List Str} {sp : Sp} {E : XK} {x : Str} {p pos : Pos} {e : Expr} {es : List Expr} {t : TA}
theorem run_gfn {pins : List (Addr × Obj)} {σ : L2.St} {H : Hp} {s : Shared} {Q : VK} {us : List Value} {vs : List V}
    (F : GFn X.prog X.w X.K X.mg X.base CX k f fd ps sp) (hr : RoomG k X.A) (hb : Binds X.K fd ps []) (hx : Passes CX X E)
    (I : Inv X pins σ H s) (r : Vals vs us) (h : sp vs H Q E) :
    wpAny (model X.prog X.w) X.A (call (.ref f) us) (EP X pins σ Q) X.xe s := by
  have hl : (us ++ ([] : List Value)).length = ps.length := by
    rw [List.append_nil, ← r.length]; exact F.len _ _ _ _ h
  have bnd := hb s us I.kIn hl
  rw [List.append_nil] at bnd
  refine wpAny_call (codeAny_mono (F.run X.A X.stack s H ⟨us, []⟩ us vs Q E hr I.env0 bnd r h) ?_)
  intro r s' hq
  cases r with
  | error e => exact hx pins σ H s e s' I hq
  | ok fl =>
    cases fl with
    | ret u => exact I.after hq
    | next => exact False.elim hq
    | brk => exact False.elim hq
    | cont => exact False.elim hq

/-- a def of the module, ready to be called by its name -/
structure Gc (P : Program) (w : World) (K : PySem.W.Frag) (mg : Str → Option Value) (base : Heap) (CX : CXT) (k : Nat) (x : Str) (sp : Sp) : Prop where
  ex : ∃ (f : Addr) (fd : FuncData) (ps : List Str), GFn P w K mg base CX k f fd ps sp ∧ mg x = some (.ref f) ∧ PySem.W.keepIn K (.ref f) = true ∧ Binds K fd ps []
theorem pe_g (c : Gc X.prog X.w X.K X.mg X.base CX k x sp) (hr : RoomG j X.A) (hk : k ≤ j) (hg : Gl X x) (hx : Passes CX X E) (ha : PA X (e :: es) t)
    (hdb : (x == ("__debug__" : Str)) = false := by decide) (he : starEach (e :: es) X.env = (false, eval e X.env) :: starEach es X.env := by rfl)
    (hpl : (backTo pos (starEach es X.env)).any (·.1) = false := by rfl) :
    PE X (.Call (.Name x p) (e :: es) [] pos) (tCall sp [] E t) := by
  obtain ⟨f, fd, ps, F, hm, kp, b⟩ := c.ex
  refine ⟨fun pins s σ H Q I h => ?_⟩
  refine wpAny_Call_Name_kw (ld_glob I hg hm ?_ hdb)
  refine PySem.W.callWith_K (h₀ := X.base) I.ok.mod.kin kp (thn (ha.run pos pins s σ H _ I h) fun us s1 hh => ?_) he hpl
  obtain ⟨vs, H1, I1, r, q⟩ := hh
  refine ⟨I1.kIn, run_gfn F (hr.mono hk) b hx I1 r ?_⟩
  rw [List.append_nil] at q
  exact q
end

/-- a def of the text, found in the written part -/
structure DefAt (K : PySem.W.Frag) (mg : Str → Option Value) (x : Str) (st : Stmt) : Prop where
  ex : ∃ (f : Addr) (oc : Value) (od : Option Addr) (kV doc pm : Value) (an : Option Addr) (cdv ct : Value) (osl : Array (Option Value)),
    K.lookup f = some ⟨oc, od, .func (PySem.W.fnOf x x (defArgs st) (defBody st) (defScope st) .none kV doc pm an cdv ct), osl⟩ ∧
      PySem.W.codeIn K cdv x = true ∧ PySem.W.keepIn K (.ref f) = true ∧ mg x = some (.ref f)
section
variable {P : Program} {w : World} {K : PySem.W.Frag} {mg : Str → Option Value} {base : Heap} {CX : CXT}
theorem DefAt.mk' {x : Str} {st : Stmt} {f : Addr} {oc : Value} {od an : Option Addr} {osl : Array (Option Value)} {kV doc pm cdv ct : Value}
    (hm : mg x = some (.ref f)) (l : K.lookup f = some ⟨oc, od, .func (PySem.W.fnOf x x (defArgs st) (defBody st) (defScope st) .none kV doc pm an cdv ct), osl⟩)
    (c : PySem.W.codeIn K cdv x = true) (k : PySem.W.keepIn K (.ref f) = true) : DefAt K mg x st :=
  ⟨f, oc, od, kV, doc, pm, an, cdv, ct, osl, l, c, k, hm⟩
/-- the promise of a def, by its body. bnd: how arguments bind -/
theorem DefAt.ok {x : Str} {st : Stmt} {N ps : List Str} {k : Nat} {sp : Sp} (D : DefAt K mg x st) (S : FnScope N ps (defScope st))
    (bnd : ∀ (kV doc pm : Value) (an : Option Addr) (cdv ct : Value) (us : List Value), us.length = ps.length →
      bindArgs (PySem.W.fnOf x x (defArgs st) (defBody st) (defScope st) .none kV doc pm an cdv ct) ⟨us, []⟩ = pure (ps.zip us))
    (len : ∀ vs H Q E, sp vs H Q E → vs.length = ps.length)
    (body : ∀ (f : Addr) (cdv : Value) (A : Around) (outer : List Env) (s : Shared) (H : Hp) (vs : List V) (Q : VK) (E : XK),
      RoomG k (A.deeper (envOfC x (defScope st) s.heap.objs.size f cdv)) → sp vs H Q E →
      ∃ t, PSs (cxOf CX P w K mg base N x (defScope st) f cdv A outer s H E) (defBody st) t ∧ t { nx := fun _ H' => Q .non H', rt := Q } (start N vs) H) :
    Gc P w K mg base CX (k + 1) x sp := by
  obtain ⟨f, oc, od, kV, doc, pm, an, cdv, ct, osl, l, c, kp, hm⟩ := D.ex
  exact ⟨f, _, ps, gfn_of l c S len fun A outer s H vs Q E hr h => body f cdv A outer s H vs Q E hr h, hm, kp, .all (bnd kV doc pm an cdv ct)⟩
/-- .. of a def that lets nothing out -/
theorem DefAt.ok0 {x : Str} {st : Stmt} {N ps : List Str} {k : Nat} {sp : Sp} (D : DefAt K mg x st) (S : FnScope N ps (defScope st))
    (bnd : ∀ (kV doc pm : Value) (an : Option Addr) (cdv ct : Value) (us : List Value), us.length = ps.length →
      bindArgs (PySem.W.fnOf x x (defArgs st) (defBody st) (defScope st) .none kV doc pm an cdv ct) ⟨us, []⟩ = pure (ps.zip us))
    (len : ∀ vs H Q E, sp vs H Q E → vs.length = ps.length)
    (body : ∀ (f : Addr) (cdv : Value) (A : Around) (outer : List Env) (s : Shared) (H : Hp) (vs : List V) (Q : VK) (E : XK),
      RoomG k (A.deeper (envOfC x (defScope st) s.heap.objs.size f cdv)) → sp vs H Q E →
      ∃ t, PSs (cxOf CX0 P w K mg base N x (defScope st) f cdv A outer s H E).nox (defBody st) t ∧ t { nx := fun _ H' => Q .non H', rt := Q } (start N vs) H) :
    Gc P w K mg base CX0 (k + 1) x sp :=
  D.ok S bnd len fun f cdv A outer s H vs Q E hr h => by
    obtain ⟨t, ht, q⟩ := body f cdv A outer s H vs Q E hr h
    exact ⟨t, ht.nox, q⟩
end
end Wk
set_option Elab.async false
set_option linter.all false
set_option maxRecDepth 100000
/-! WkTop: a law's end from a promise of WkG's kind. -/
namespace Wk
open PySem PySem.Spec PyProof.Rows L2

/-- what is wanted of the law's own call -/
def LawDone (s₁ : Shared) (r : Result) (s' : Shared) : Prop := r = .ok (.ret (.bool true)) ∧ OldK s₁.heap s'.heap ∧ s'.os = s₁.os ∧ AllBare s'.gens

theorem law_g {P : Program} {w : World} {K : PySem.W.Frag} {mg mb : Str → Option Value} {CX : CXT} {k : Nat} {fa a : Addr} {fd : FuncData} {x : Str}
    {sp : Sp} {s₁ : Shared} {vs : List Value} {ns : List Int}
    (KX : K.In s₁.heap) (hns : s₁.heap.Ns mainGlobals mg) (hb : s₁.heap.Ns builtinsNs mb)
    (hbb : ∀ x : Str, x ≠ "__name__" → mb x = bootBuiltins x) (hlim : s₁.heap.NoLimit) (hg : s₁.gens = #[])
    (ha : s₁.heap.get? a = some { cls := .type "list", data := .seq vs.toArray }) (hi : IntsAre vs ns) (hl : ns.length ≤ sizeLine)
    (hr : RoomG k callerA)
    (F : ∀ base : Heap, K.In base → base.Ns mainGlobals mg → GFn P w K mg base CX k fa fd [x] sp)
    (hbind : ∀ (s : Shared) (u : Value), BindsTo s fd ⟨[u], []⟩ [(x, u)])
    (hsp : ∀ H : Hp, Only H → SqL K H a (ns.map V.int) → sp [.ref a] H (fun v _ => v = .bl true) fun _ _ _ => False)
    (hCX : ∀ H e s', CX [] H s₁ (fun _ _ _ => False) e s' → False) :
    codeAny (model P w) callerA (.call (.ref fa) ⟨[.ref a], []⟩) (LawDone s₁) s₁ := by
  have rv := vals_ints hi
  -- from an abstract heap that tracks the script at most
  have main : ∀ H : Hp, Only H → SqL K H a (ns.map V.int) → HOk P w H s₁.heap → (∀ b, H b ≠ none → b = a) → (H a ≠ none → K.lookup a = none) →
      codeAny (model P w) callerA (.call (.ref fa) ⟨[.ref a], []⟩) (LawDone s₁) s₁ := by
    intro H only sq hok onlyA notK
    have dictFree : ∀ {b : Addr} {o : Obj} {es : Array DictEntry} {ep : Nat}, s₁.heap.get? b = some o → o.data = .dict es ep → H b = none := by
      intro b o es ep e d
      cases q : H b with
      | none => rfl
      | some u =>
        have eb : b = a := onlyA b (by rw [q]; simp)
        rw [eb, ha] at e
        have e' := Option.some.inj e
        rw [← e'] at d
        have d' : Data.seq vs.toArray _ = Data.dict es ep := d
        cases d'
    have keepNs : ∀ {b : Addr} {m : Str → Option Value}, s₁.heap.Ns b m → (hidT s₁.heap H).Ns b m := by
      rintro b m ⟨o, es, ep, e, d, r⟩
      exact ⟨o, es, ep, hidT_get e (dictFree e d), d, r⟩
    have kinB : K.In (hidT s₁.heap H) := by
      intro b o e
      refine hidT_get (KX b o e) ?_
      cases q : H b with
      | none => rfl
      | some u =>
        have eb : b = a := onlyA b (by rw [q]; simp)
        rw [eb] at q e
        rw [notK (by rw [q]; simp)] at e
        cases e
    have md : Mod K mg (hidT s₁.heap H) := by
      obtain ⟨mc, h1, h2⟩ := hlim
      exact ⟨kinB, keepNs hns, ⟨mb, keepNs hb, hbb⟩, ⟨mc, keepNs h1, h2⟩⟩
    have noFr : frs ([] : List Env) = [] := rfl
    have e0 : Env0 P w K mg (hidT s₁.heap H) callerA [] s₁ H := by
      refine ⟨rfl, md, fun b o e => of_hidT e, Nat.le_of_eq (hidT_size _ _), trivial, ?_, hok, .of_eq hg⟩
      intro b hb
      rw [noFr] at hb
      cases hb
    have G := F _ kinB (keepNs hns)
    refine codeAny_mono (G.run callerA [] s₁ H ⟨[.ref a], []⟩ [.ref a] [.ref a] _ _ hr e0 (hbind s₁ (.ref a)) (.cons rfl .nil) (hsp H only sq)) ?_
    intro r s' h
    cases r with
    | error e => exact (hCX H e s' h).elim
    | ok fl =>
      cases fl with
      | next => exact False.elim h
      | brk => exact False.elim h
      | cont => exact False.elim h
      | ret u =>
        obtain ⟨v, H', os, bare, un, hok', r', q⟩ := h
        have q' : v = .bl true := q
        rw [q'] at r'
        have eu : u = Value.bool true := r'
        refine ⟨by rw [eu], OldK.of_keep fun b o e => ?_, os, bare⟩
        cases q : H b with
        | none => exact un.keep b o e q (by rw [noFr]; exact List.not_mem_nil) List.not_mem_nil
        | some u =>
          rcases only b with z | ⟨ob, xs, z⟩
          · rw [q] at z; cases z
          · obtain ⟨e1, _⟩ := hok b _ z
            obtain ⟨e2, _⟩ := hok' b _ (un.frzs b ob _ z)
            rw [e] at e1
            rw [e2]
            exact e1.symm
  cases hk : K.lookup a with
  | some o =>
    have e := KX a o hk
    rw [ha] at e
    have eo := Option.some.inj e
    rw [← eo] at hk
    refine main (fun _ => none) (fun _ => .inl rfl) (.inr ⟨_, vs.toArray, _, hk, rfl, rfl, rfl, by rw [List.size_toArray, hi.length]; exact hl, by simpa using rv⟩)
      (fun b u z => nomatch (show (none : Option HO) = some u from z)) (fun b z => absurd rfl z) fun z => absurd rfl z
  | none =>
    let Hs : Hp := fun b => if b = a then some (.frz { cls := .type "list", data := .seq vs.toArray } (.lst (ns.map V.int))) else none
    have at_a : Hs a = some (.frz { cls := .type "list", data := .seq vs.toArray } (.lst (ns.map V.int))) := if_pos rfl
    have off : ∀ b, b ≠ a → Hs b = none := fun b hb => if_neg hb
    refine main Hs ?_ (.inl (.inr ⟨_, at_a⟩)) ?_ ?_ fun _ => hk
    · intro b
      by_cases hb : b = a
      · exact .inr ⟨_, _, if_pos hb⟩
      · exact .inl (off b hb)
    · intro b u z
      by_cases hb : b = a
      · rw [hb, at_a] at z
        have z' := Option.some.inj z
        rw [hb, ← z']
        exact ⟨ha, by rw [List.length_map]; exact hl, vs, _, rv, ha⟩
      · rw [off b hb] at z
        cases z
    · intro b z
      by_cases hb : b = a
      · exact hb
      · exact absurd (off b hb) z

theorem roomCaller : RoomG 40 callerA := ⟨⟨rfl, by decide, by decide⟩, rfl⟩

/-- the goal that k_head leaves, from the law's promise -/
theorem walk_g {l : PySem.W.OpenLaw} {n k : Nat} {q : Program} {loose : List Str} {XP : (Str → Option Value) → Heap → Prop} {YP : World → Heap → Prop}
    {d : DefRec} {K : Params → PySem.W.Frag} {CX : World → CXT} {sp : World → Sp} {x : Str}
    (hn : l.most = some n) (hn2 : n ≤ sizeLine) (hdf : d.params.defaults = []) (hk : k ≤ 40)
    (hY : ∀ (w : World) (h : Heap), YP w h → (K w.params).In h)
    (F : ∀ (w : World) (mg : Str → Option Value) (fa : Addr) (h : Heap), (K w.params).In h → h.Ns mainGlobals mg → mg d.name = some (.ref fa) →
      ∃ fd : FuncData, (∀ (s : Shared) (u : Value), BindsTo s fd ⟨[u], []⟩ [(x, u)]) ∧
        ∀ base : Heap, (K w.params).In base → base.Ns mainGlobals mg → GFn l.prog w (K w.params) mg base (CX w) k fa fd [x] (sp w))
    (hsp : ∀ (w : World) (H : Hp) (a : Addr) (ns : List Int), ns.length ≤ n → Only H → SqL (K w.params) H a (ns.map V.int) →
      sp w [.ref a] H (fun v _ => v = .bl true) fun _ _ _ => False)
    (hCX : ∀ (w : World) (H : Hp) (s : Shared) (e : Value) (s' : Shared), CX w [] H s (fun _ _ _ => False) e s' → False) :
    PySem.W.WalkO q loose XP YP l.row.toRowW d [] (fun f vs => PySem.call f vs) := by
  refine Att.attach_call hn hdf ?_
  intro w s₀ s₁ mg mb fa o pm cd doc a vs ns G Y ho hd hcd hmg hobj hints hlen hg
  have kin := hY w _ Y
  obtain ⟨fd, hb, hF⟩ := F w mg fa _ kin G.T.g hmg
  exact law_g kin G.T.g G.T.b G.T.builtins G.T.nolimit hg hobj hints (Nat.le_trans hlen hn2) (roomCaller.mono hk) hF hb
    (fun H only sq => hsp w H a ns hlen only sq) fun H e s' => hCX w H s₁ e s'
end Wk
set_option Elab.async false
set_option linter.all false
set_option maxRecDepth 100000
set_option maxHeartbeats 2000000
/-! WkR: rules for repr of data, powers of any size, list of a text, text * int. -/
namespace Wk
open PySem PySem.Spec PyProof.Rows L2

section
variable {X : Cx} {H : Hp}
mutual
theorem dp_nodict {K : PySem.W.Frag} : ∀ (d : PyData) (v : V), Dp K H v d → d.hasDict = false
  | .none, _, _ => by simp only [PyData.hasDict]
  | .bool _, _, _ => by simp only [PyData.hasDict]
  | .int _, _, _ => by simp only [PyData.hasDict]
  | .str _, _, _ => by simp only [PyData.hasDict]
  | .list ds, _, h => by
    cases h with
    | lst hs ha => simp only [PyData.hasDict]; exact dpAll_nodict ds _ ha
  | .tuple ds, _, h => by
    cases h with
    | tup hs ha => simp only [PyData.hasDict]; exact dpAll_nodict ds _ ha
  | .dict _, _, h => by cases h
theorem dpAll_nodict {K : PySem.W.Frag} : ∀ (ds : List PyData) (vs : List V), DpAll K H vs ds → PyData.hasDictAll ds = false
  | [], _, _ => by simp only [PyData.hasDictAll]
  | d :: ds, _, h => by
    cases h with
    | cons h1 h2 => simp only [PyData.hasDictAll, dp_nodict d _ h1, dpAll_nodict ds _ h2, Bool.or_false]
end

/-- repr of data: the text that the data shows -/
def rRepr (K : PySem.W.Frag) : List V → Hp → VK → Prop := fun xs H Q => ∃ x d, xs = [x] ∧ Dp K H x d ∧ d.showable = true ∧ d.depth ≤ 60 ∧ d.shown.length ≤ sizeLine ∧ Q (.str d.shown) H
theorem call_reprD {k : Nat} (hr : RoomG k X.A) : CallR X (.builtin "repr") (rRepr X.K) := by
  intro pins s σ H xs us Q I r h
  obtain ⟨x, d, rfl, hd, hs, hdep, hz, q⟩ := h
  obtain ⟨u, rfl, ru⟩ := vals1 r
  have nod := dp_nodict d x hd
  have hun := hr.room.un
  obtain ⟨as, rd⟩ := Dp.reads I d x u hd ru
  have fin : ∀ (tk : Tok), EP X pins σ Q (.str d.shown tk) { s with toks := s.toks + 1 } := fun tk => ⟨.str d.shown, H, I.tok _, ⟨_, rfl⟩, q⟩
  cases hd with
  | non =>
    cases ru
    refine PySem.P.repr_of_none ?_
    have q' := fin s.toks
    simp only [PyData.shown] at q'
    exact q'
  | bl b =>
    cases ru
    refine PySem.P.repr_of_bool ?_
    have q' := fin s.toks
    simp only [PyData.shown] at q'
    exact q'
  | int i =>
    obtain ⟨t, rfl⟩ := ru
    simp only [PyData.showable, decide_eq_true_eq] at hs
    refine PySem.P.repr_of_int hs ?_
    have q' := fin s.toks
    simp only [PyData.shown] at q'
    exact q'
  | str x =>
    obtain ⟨t, rfl⟩ := ru
    simp only [PyData.shown] at hz
    refine PySem.P.repr_of_str ?_ hz
    have q' := fin s.toks
    simp only [PyData.shown] at q'
    exact q'
  | lst h1 h2 =>
    cases ru
    exact repr_of_reads' rd hs (PyData.noDict_hsm nod) hr.bare (by omega) (fun b o e => e) (fun h' u tk kp => ⟨.str _, H, I.kept (t' := tk) kp, ⟨_, rfl⟩, q⟩) hz
  | tup h1 h2 =>
    cases ru
    exact repr_of_reads' rd hs (PyData.noDict_hsm nod) hr.bare (by omega) (fun b o e => e) (fun h' u tk kp => ⟨.str _, H, I.kept (t' := tk) kp, ⟨_, rfl⟩, q⟩) hz

/-! ### powers -/
def CPowW (i j : Int) : Prop := 0 ≤ j ∧ (Builtin.Int.intBits i : Int) * j ≤ 2 ^ 27
theorem op_powW : OpR X (binaryOp .Pow) (rI CPowW fun i j => .int (i ^ j.toNat)) := opI fun _ _ _ _ _ _ _ hc q => pow_int hc.1 hc.2 q

/-! ### list(text) -/
def signsV (x : Str) : List V := x.cps.toList.map fun c => V.str ⟨#[c]⟩
theorem call_listS : CallR X (.type "list") (fun xs H Q => ∃ x, xs = [.str x] ∧ x.length ≤ sizeLine ∧ X.calm = true ∧ ∀ l, H l = none → Q (.ref l) (upd H l (.lst (signsV x)))) := by
  intro pins s σ H xs us Q I r h
  obtain ⟨x, rfl, hz, hc, q⟩ := h
  obtain ⟨u, rfl, ru⟩ := vals1 r
  obtain ⟨t, rfl⟩ := ru
  have hsz : x.cps.size ≤ sizeLine := hz
  refine call_list_str (I.ok.hd hc) x t (fun h' tk acc c kp e items => ?_) hsz
  obtain ⟨n1, n2⟩ := items
  have rv : Vals (signsV x) acc.toList := by
    have ex : ∀ (l : List Nat) (us : List Value), us.length = l.length → (∀ (i : Nat) (v : Value) (c : Nat), us[i]? = some v → l[i]? = some c → ∃ t, v = .str ⟨#[c]⟩ t) →
        Vals (l.map fun c => V.str ⟨#[c]⟩) us := by
      intro l
      induction l with
      | nil =>
        intro us hl _
        cases us with
        | nil => exact .nil
        | cons a b => cases hl
      | cons c l ih =>
        intro us hl hh
        cases us with
        | nil => cases hl
        | cons a b =>
          obtain ⟨t, e⟩ := hh 0 a c rfl rfl
          exact .cons ⟨t, e⟩ (ih b (Nat.succ.inj hl) fun i v c' h1 h2 => hh (i + 1) v c' (by simpa using h1) (by simpa using h2))
    refine ex x.cps.toList acc.toList (by rw [Array.length_toList, Array.length_toList]; exact n1) ?_
    intro i v c h1 h2
    have hi : acc[i]? = some v := by rw [← Array.getElem?_toList]; exact h1
    have at' := n2 i v hi
    obtain ⟨c', t', hc', ev⟩ := at'
    rw [Array.getElem?_toList] at h2
    rw [h2] at hc'
    have ec := Option.some.inj hc'
    subst ec
    exact ⟨t', ev⟩
  refine ⟨.ref s.heap.objs.size, _, I.laid (t' := tk) (o := .lst (signsV x)) kp (Nat.le_refl _) ?_, rfl, q _ (I.hok.fresh (Nat.le_refl _))⟩
  refine ⟨?_, acc.toList, c, rv, by simpa using e⟩
  show (signsV x).length ≤ sizeLine
  unfold signsV
  rw [List.length_map, Array.length_toList]
  exact hsz

/-! ### text * int -/
def timesS (x : Str) (n : Nat) : Str := ⟨(List.replicate n x.cps).foldl (· ++ ·) #[]⟩
theorem times_size (c : Array Nat) : ∀ (n : Nat) (acc : Array Nat), ((List.replicate n c).foldl (· ++ ·) acc).size = acc.size + n * c.size
  | 0, acc => by simp
  | n + 1, acc => by
    rw [List.replicate_succ, List.foldl_cons, times_size c n, Array.size_append, Nat.succ_mul]
    omega
theorem times_length (x : Str) (n : Nat) : (timesS x n).length = n * x.length := by
  show ((List.replicate n x.cps).foldl (· ++ ·) #[]).size = n * x.cps.size
  rw [times_size]
  simp
theorem op_repS : OpR X (binaryOp .Mult) (fun x y H Q => ∃ (a : Str) (n : Int), x = .str a ∧ y = .int n ∧ 2 ≤ n ∧ n ≤ 1000 ∧ 1 ≤ a.length ∧ a.length ≤ 1000 ∧ Q (.str (timesS a n.toNat)) H) := by
  intro pins s σ H x y v u Q I rx ry h
  obtain ⟨a, n, rfl, rfl, h2, h1000, l1, l2, q⟩ := h
  obtain ⟨t, rfl⟩ := rx
  obtain ⟨t', rfl⟩ := ry
  have n1 : ¬ n < 1 := by omega
  have nn : (n == 1 || a.length == 0) = false := by
    have e1 : (n == 1) = false := by
      apply beq_eq_false_iff_ne.mpr
      omega
    have e2 : (a.length == 0) = false := by
      apply beq_eq_false_iff_ne.mpr
      omega
    rw [e1, e2]; rfl
  have lt : a.length * n.toNat ≤ 1000 * 1000 := Nat.mul_le_mul l2 (by omega)
  refine PySem.P.mul_str ?_ (fun _ _ => ?_) (fun _ _ => ?_) ?_
  · have e1 : ¬ n < -(2 ^ 63 : Int) := by omega
    have e2 : ¬ n ≥ 2 ^ 63 := by omega
    rw [decide_eq_false e1, decide_eq_false e2]; rfl
  · have hd : (1000 : Int) ≤ (2 ^ 63 - 1) / n := by
      apply (Int.le_ediv_iff_mul_le (by omega)).mpr
      omega
    omega
  · show Builtin.Str.tooLong _ = false
    unfold Builtin.Str.tooLong
    first
      | (apply decide_eq_false; rw [sizeLine_eq]; omega)
      | (simp [sizeLine_eq]; omega)
      | (simp; omega)
  · rw [if_neg n1, nn]
    show (Made.str _).post _ s
    refine ⟨?_, ⟨.str _, H, I.tok _, ⟨_, rfl⟩, q⟩⟩
    show (timesS a n.toNat).length ≤ sizeLine
    rw [times_length, sizeLine_eq, Nat.mul_comm]
    omega

/-! ### xs == [], xs != [] -/
def rEqE (K : PySem.W.Frag) (neg : Bool) : R2 := fun x y H Q => ∃ p q xs, x = .ref p ∧ y = .ref q ∧ SqL K H p xs ∧ SqL K H q [] ∧ Q (.bl (if neg then !xs.isEmpty else xs.isEmpty)) H
theorem emptyV {its : List Value} {xs : List V} (r : Vals xs its) : its.isEmpty = xs.isEmpty := by cases r <;> rfl
theorem op_eqE {k : Nat} (hr : RoomG k X.A) : OpR X (compareOp .Eq) (rEqE X.K false) := by
  intro pins s σ H x y v u Q I rx ry h
  obtain ⟨p, q, xs, rfl, rfl, hp, hq, f⟩ := h
  cases rx
  cases ry
  obtain ⟨its, rv, l1, _⟩ := I.list hp
  obtain ⟨its2, rv2, l2, _⟩ := I.list hq
  cases rv2
  have hu : X.A.units < cLine := hr.room.units0
  cases rv with
  | nil => exact SeqAt.eq_listAt (e := fun _ => true) l1.isList l2.isList rfl hu (fun j h1 => absurd h1 (by simp)) ⟨.bl true, H, I, rfl, f⟩
  | cons a b => exact SeqAt.eq_list_lengthsAt l1.isList l2.isList (by simp) hu ⟨.bl false, H, I, rfl, f⟩
theorem op_neE {k : Nat} (hr : RoomG k X.A) : OpR X (compareOp .NotEq) (rEqE X.K true) := by
  intro pins s σ H x y v u Q I rx ry h
  obtain ⟨p, q, xs, rfl, rfl, hp, hq, f⟩ := h
  cases rx
  cases ry
  obtain ⟨its, rv, l1, _⟩ := I.list hp
  obtain ⟨its2, rv2, l2, _⟩ := I.list hq
  cases rv2
  have hu : X.A.units < cLine := hr.room.units0
  cases rv with
  | nil => exact SeqAt.RcNeAt.lists (e := fun _ => true) l1.isList l2.isList rfl hu (fun j h1 => absurd h1 (by simp)) X.prog X.w _ _ ⟨.bl false, H, I, rfl, f⟩
  | cons a b => exact SeqAt.RcNeAt.lists_lengths l1.isList l2.isList (by simp) hu X.prog X.w _ _ ⟨.bl true, H, I, rfl, f⟩
end
end Wk
set_option Elab.async false
set_option linter.all false
set_option maxRecDepth 100000
/-! WkS: the mill (three ints in a list) and what stays beside it. -/
namespace Wk
open PySem PySem.Spec PyProof.Rows L2

/-- the mill at m -/
def Ml (H : Hp) (m : Addr) : Prop := ∃ x y z : Int, H m = some (.lst [.int x, .int y, .int z]) ∧ 0 ≤ x
/-- all but the mill stays -/
structure Kp (m : Addr) (H H' : Hp) : Prop where
  keep : ∀ b o, b ≠ m → H b = some o → H' b = some o
  ml : Ml H' m
theorem Kp.refl {m : Addr} {H : Hp} (h : Ml H m) : Kp m H H := ⟨fun _ _ _ e => e, h⟩
theorem Kp.trans {m : Addr} {H H1 H2 : Hp} (a : Kp m H H1) (b : Kp m H1 H2) : Kp m H H2 := ⟨fun c o n e => b.keep c o n (a.keep c o n e), b.ml⟩
theorem Ml.ne {H : Hp} {m p : Addr} (h : Ml H m) (e : H p = none) : p ≠ m := by
  obtain ⟨x, y, z, q, _⟩ := h
  intro z
  rw [z, q] at e
  cases e
theorem Kp.free {m p : Addr} {H H' : Hp} (k : Kp m H H') (e : H' p = none) : H p = none := by
  have n := k.ml.ne e
  cases q : H p with
  | none => rfl
  | some o =>
    rw [k.keep p o n q] at e
    cases e
theorem Kp.new {m p : Addr} {H H' : Hp} {o : HO} (k : Kp m H H') (e : H' p = none) : Kp m H (upd H' p o) := by
  refine ⟨fun b u n q => ?_, ?_⟩
  · rw [upd_ne (ne_of_none (k.keep b u n q) e)]
    exact k.keep b u n q
  · obtain ⟨x, y, z, q, h⟩ := k.ml
    exact ⟨x, y, z, by rw [upd_ne (k.ml.ne e).symm]; exact q, h⟩
/-- an object that H did not have is changed -/
theorem Kp.mut {m p : Addr} {H H' : Hp} {o : HO} (k : Kp m H H') (e : H p = none) (n : p ≠ m) : Kp m H (upd H' p o) := by
  refine ⟨fun b u nb q => ?_, ?_⟩
  · rw [upd_ne (ne_of_none q e)]
    exact k.keep b u nb q
  · obtain ⟨x, y, z, q, h⟩ := k.ml
    exact ⟨x, y, z, by rw [upd_ne n.symm]; exact q, h⟩
/-- the mill itself is changed -/
theorem Kp.turn {m : Addr} {H H' : Hp} {x y z : Int} (k : Kp m H H') (h : 0 ≤ x) : Kp m H (upd H' m (.lst [.int x, .int y, .int z])) :=
  ⟨fun b u nb q => by rw [upd_ne nb]; exact k.keep b u nb q, ⟨x, y, z, upd_same, h⟩⟩
/-- the script: read only -/
def Scr (K : PySem.W.Frag) (H : Hp) (a : Addr) (ns : List Int) : Prop := SqL K H a (ns.map V.int) ∧ ∀ ys, H a ≠ some (.lst ys)
theorem Scr.ne {K : PySem.W.Frag} {H : Hp} {a m : Addr} {ns : List Int} (s : Scr K H a ns) (h : Ml H m) : a ≠ m := by
  intro e
  obtain ⟨x, y, z, q, _⟩ := h
  exact s.2 _ (by rw [e]; exact q)
theorem SqL.kept {K : PySem.W.Frag} {H H' : Hp} {a : Addr} {xs : List V} (h : SqL K H a xs) (k : ∀ o, H a = some o → H' a = some o) : SqL K H' a xs := by
  rcases h with (h | ⟨o, h⟩) | h
  · exact .inl (.inl (k _ h))
  · exact .inl (.inr ⟨o, k _ h⟩)
  · exact .inr h
theorem SqT.kept {K : PySem.W.Frag} {H H' : Hp} {a : Addr} {xs : List V} (h : SqT K H a xs) (k : ∀ o, H a = some o → H' a = some o) : SqT K H' a xs := by
  rcases h with (h | ⟨o, h⟩) | h
  · exact .inl (.inl (k _ h))
  · exact .inl (.inr ⟨o, k _ h⟩)
  · exact .inr h
end Wk
set_option Elab.async false
set_option linter.all false
set_option maxRecDepth 100000
/-! WkC: comprehensions over texts and zipped tuples; isinstance by kinds. -/
namespace Wk
open PySem PySem.Spec PyProof.Rows L2

/-- what a turn of a comprehension has to bring -/
def Turn1 (D : Addr) (g : TG) (tt : TT) (te : TE) (vs : List Nat) (σ : L2.St) (x : V) (H : Hp) (Nx : Hp → Prop) : Prop :=
  g x (wipe σ vs) H fun σ2 H2 => wipe σ2 vs = wipe σ vs ∧ tt σ2 H2 fun b H3 =>
    if b = true then te σ2 H3 fun y H4 => ∃ acc, H4 D = some (.lst acc) ∧ acc.length < sizeLine ∧ Nx (upd H4 D (.lst (acc ++ [y]))) else Nx H3
theorem turn_yes {D : Addr} {te : TE} {vs : List Nat} {σ : L2.St} {x : V} {H : Hp} {Nx : Hp → Prop} {i : Nat}
    (hw : wipe ((wipe σ vs).set i (some x)) vs = wipe σ vs)
    (he : te ((wipe σ vs).set i (some x)) H fun y H4 => ∃ acc, H4 D = some (.lst acc) ∧ acc.length < sizeLine ∧ Nx (upd H4 D (.lst (acc ++ [y])))) :
    Turn1 D (gName i) tYes te vs σ x H Nx := by
  refine ⟨hw, ?_⟩
  unfold tYes
  dsimp only
  rw [if_pos rfl]
  exact he
/-- over any walk whose turns are told -/
theorem lc_any {J : It} {n : Nat} {g : TG} {tt : TT} {te : TE} {vs : List Nat} {σ : L2.St} {H1 : Hp} {D : Addr} {Qd : Hp → Prop} (Pv : Nat → Hp → Prop)
    (h0 : Pv 0 (upd H1 D (.lst []))) (go : ∀ i H, i < n → Pv i H → J.go i H) (stop : ∀ H, Pv n H → J.stop n H)
    (hs : ∀ i x H H', i < n → Pv i H → J.yld i H x H' → Turn1 D g tt te vs σ x H' (Pv (i + 1))) (hd : ∀ H, Pv n H → Qd H) :
    ∃ W : Nat → Nat → Hp → Prop, (∃ m, W 0 m (upd H1 D (.lst []))) ∧ ∀ i m H, W i m H →
      (J.stop i H ∧ Qd H) ∨ (J.go i H ∧ ∃ Nx : Hp → Prop, (∀ H', Nx H' → ∃ m', m' < m ∧ W (i + 1) m' H') ∧ ∀ x H', J.yld i H x H' → g x (wipe σ vs) H' fun σ2 H2 => wipe σ2 vs = wipe σ vs ∧ tt σ2 H2 fun b H3 =>
        if b = true then te σ2 H3 fun y H4 => ∃ acc, H4 D = some (.lst acc) ∧ acc.length < sizeLine ∧ Nx (upd H4 D (.lst (acc ++ [y]))) else Nx H3) := by
  refine ⟨fun i m H => m = n - i ∧ i ≤ n ∧ Pv i H, ⟨n, rfl, Nat.zero_le _, h0⟩, ?_⟩
  rintro i m H ⟨em, hi, p⟩
  by_cases lt : i < n
  · exact .inr ⟨go i H lt p, Pv (i + 1), fun H' p' => ⟨n - (i + 1), by omega, rfl, lt, p'⟩, fun x H' y => hs i x H H' lt p y⟩
  · have ei : i = n := by omega
    subst ei
    exact .inl ⟨stop H p, hd H p⟩
theorem lc_str {x : Str} {g : TG} {tt : TT} {te : TE} {vs : List Nat} {σ : L2.St} {H1 : Hp} {D : Addr} {Qd : Hp → Prop} (Pv : Nat → Hp → Prop)
    (h0 : Pv 0 (upd H1 D (.lst []))) (hs : ∀ i c H, x.cps.toList[i]? = some c → Pv i H → Turn1 D g tt te vs σ (.str ⟨#[c]⟩) H (Pv (i + 1)))
    (hd : ∀ H, Pv x.cps.toList.length H → Qd H) :
    ∃ W : Nat → Nat → Hp → Prop, (∃ m, W 0 m (upd H1 D (.lst []))) ∧ ∀ i m H, W i m H →
      ((Its x).stop i H ∧ Qd H) ∨ ((Its x).go i H ∧ ∃ Nx : Hp → Prop, (∀ H', Nx H' → ∃ m', m' < m ∧ W (i + 1) m' H') ∧ ∀ y H', (Its x).yld i H y H' → g y (wipe σ vs) H' fun σ2 H2 => wipe σ2 vs = wipe σ vs ∧ tt σ2 H2 fun b H3 =>
        if b = true then te σ2 H3 fun y H4 => ∃ acc, H4 D = some (.lst acc) ∧ acc.length < sizeLine ∧ Nx (upd H4 D (.lst (acc ++ [y]))) else Nx H3) := by
  have en : x.cps.toList.length = x.cps.size := Array.length_toList
  refine lc_any (n := x.cps.toList.length) Pv h0 (fun i H lt p => (by rw [en] at lt; exact lt)) (fun H p => (by rw [en]; exact Nat.le_refl _)) (fun i v H H' lt p y => ?_) hd
  obtain ⟨rfl, c, hc, rfl⟩ := y
  exact hs i c _ (by rw [Array.getElem?_toList]; exact hc) p
theorem lc_zipT {K : PySem.W.Frag} {a b : Addr} {xs ys : List V} {g : TG} {tt : TT} {te : TE} {vs : List Nat} {σ : L2.St} {H1 : Hp} {D : Addr} {Qd : Hp → Prop} (Pv : Nat → Hp → Prop)
    (h0 : Pv 0 (upd H1 D (.lst []))) (hq : ∀ i H, Pv i H → SqT K H a xs ∧ SqT K H b ys)
    (hs : ∀ i x y H T, xs[i]? = some x → ys[i]? = some y → Pv i H → H T = none → Turn1 D g tt te vs σ (.ref T) (upd H T (.tup [x, y])) (Pv (i + 1)))
    (hd : ∀ H, Pv (min xs.length ys.length) H → Qd H) :
    ∃ W : Nat → Nat → Hp → Prop, (∃ m, W 0 m (upd H1 D (.lst []))) ∧ ∀ i m H, W i m H →
      ((RZ.ItzT K a b).stop i H ∧ Qd H) ∨ ((RZ.ItzT K a b).go i H ∧ ∃ Nx : Hp → Prop, (∀ H', Nx H' → ∃ m', m' < m ∧ W (i + 1) m' H') ∧ ∀ y H', (RZ.ItzT K a b).yld i H y H' → g y (wipe σ vs) H' fun σ2 H2 => wipe σ2 vs = wipe σ vs ∧ tt σ2 H2 fun b H3 =>
        if b = true then te σ2 H3 fun y H4 => ∃ acc, H4 D = some (.lst acc) ∧ acc.length < sizeLine ∧ Nx (upd H4 D (.lst (acc ++ [y]))) else Nx H3) := by
  refine lc_any (n := min xs.length ys.length) Pv h0 (fun i H lt p => ?_) (fun H p => ?_) (fun i v H H' lt p y => ?_) hd
  · obtain ⟨q1, q2⟩ := hq i H p
    have l1 : i < xs.length := by omega
    have l2 : i < ys.length := by omega
    exact ⟨xs, ys, xs[i], ys[i], q1, q2, List.getElem?_eq_getElem l1, List.getElem?_eq_getElem l2⟩
  · obtain ⟨q1, q2⟩ := hq _ H p
    exact ⟨xs, ys, q1, q2, by omega⟩
  · obtain ⟨q1, q2⟩ := hq i H p
    obtain ⟨T, x, y, rfl, nT, rfl, f1, f2⟩ := y
    exact hs i x y H T (f1 _ q1) (f2 _ q2) p nT

/-! ### all that was there stays -/
theorem same_new {H H' : Hp} {p : Addr} {o : HO} (s : Same H H') (e : H' p = none) : Same H (upd H' p o) := fun b u q => by
  rw [upd_ne (ne_of_none (s b u q) e)]
  exact s b u q
theorem same_mut {H H' : Hp} {p : Addr} {o : HO} (s : Same H H') (e : H p = none) : Same H (upd H' p o) := fun b u q => by
  rw [upd_ne (ne_of_none q e)]
  exact s b u q
theorem same_sqt {K : PySem.W.Frag} {H H' : Hp} {a : Addr} {xs : List V} (e : Same H H') (h : SqT K H a xs) : SqT K H' a xs := SqT.kept h (e a)

/-! ### kinds of values -/
/-- the value's built-in class -/
def Kd (K : PySem.W.Frag) (H : Hp) (v : V) (t : String) : Prop := TyOf K H v (.type t) ∧ t ∈ ["NoneType", "bool", "int", "str", "list", "tuple", "dict"]
theorem Kd.same {K : PySem.W.Frag} {H H' : Hp} {v : V} {t : String} (s : Same H H') (h : Kd K H v t) : Kd K H' v t := by
  obtain ⟨h, m⟩ := h
  refine ⟨?_, m⟩
  generalize ec : Value.type t = c at h
  cases h with
  | non => exact .non
  | bl x => exact .bl x
  | int i => exact .int i
  | str x => exact .str x
  | flt x => exact .flt x
  | lst e => exact .lst (s _ _ e)
  | frz e => exact .frz (s _ _ e)
  | tup e => exact .tup (s _ _ e)
  | dK e => exact .dK (s _ _ e)
  | dT e => exact .dT (s _ _ e)
  | ins e => cases ec
/-- what isinstance says of a kind -/
def isaB (t n : String) : Bool := decide (t = n) || (decide (t = "bool") && decide (n = "int"))
theorem kit_isa : ∀ t ∈ ["NoneType", "bool", "int", "str", "list", "tuple", "dict"], ∀ n ∈ ["bool", "int", "str", "list", "tuple", "dict"], kitB t n = some (isaB t n) := by decide +kernel
/-- isinstance(x, n) -/
def rIsa (K : PySem.W.Frag) : List V → Hp → VK → Prop := fun xs H Q => ∃ (x : V) (t n : String), xs = [x, .ty n] ∧ n ∈ ["bool", "int", "str", "list", "tuple", "dict"] ∧ Kd K H x t ∧ Q (.bl (isaB t n)) H
theorem call_isa {X : Cx} : CallR X (.builtin "isinstance") (rIsa X.K) := by
  intro pins s σ H xs us Q I r h
  obtain ⟨x, t, n, rfl, hn, hk, q⟩ := h
  exact call_isi pins s σ H _ us Q I r ⟨x, .ty n, .type t, .type n, isaB t n, rfl, .ty n, .base hk.1, kit_ty (kit_isa t hk.2 n hn), q⟩
end Wk
set_option Elab.async false
set_option linter.all false
set_option maxRecDepth 100000
set_option maxHeartbeats 4000000
/-! WkSet: set(tuple of texts), sorted(set of texts). -/
namespace Wk
open PySem PySem.Spec PyProof.Rows L2

/-! ### what a set of texts is -/
def txtOf (e : Int × Value) : Str := match e.2 with
  | .str x _ => x
  | _ => Str.empty
def GoodT (w : World) (e : Int × Value) : Prop := ∃ x tk, e.2 = Value.str x tk ∧ e.1 = hashStr w x
/-- the set of texts at a, its members those of S, its size n; its table can be walked -/
structure SetTAt (w : World) (o : Obj) (es : Array (Int × Value)) (t : SetTable) (S : Str → Bool) (n : Nat) : Prop where
  exact' : o.ExactSet
  good : ∀ e ∈ es.toList, GoodT w e
  nd : (es.toList.map txtOf).Nodup
  mem : ∀ k, S k = true ↔ k ∈ es.toList.map txtOf
  bound : es.size < scanBound
  fits : t.fits es.size = true
  size : es.size = n
  rises : Ris t.place.toList
  led : w.params.followText "set-order" = true ∨ t.led = true
def SetT (w : World) (h : Heap) (a : Addr) (S : Str → Bool) (n : Nat) : Prop :=
  ∃ o es ep t, h.get? a = some o ∧ o.data = .set es ep t ∧ SetTAt w o es t S n

section
variable {P : Program} {w : World} {h h' : Heap} {a : Addr} {S : Str → Bool} {n : Nat}
theorem SetT.at (R : SetT w h a S n) (k : ∀ o, h.get? a = some o → h'.get? a = some o) : SetT w h' a S n := by
  obtain ⟨o, es, ep, t, ho, r⟩ := R
  exact ⟨o, es, ep, t, k o ho, r⟩
theorem SetT.congr {S' : Str → Bool} (R : SetT w h a S n) (e : ∀ k, S' k = S k) : SetT w h a S' n := by
  have q : S' = S := funext e
  rw [q]; exact R
theorem goodT_elems {l : List (Int × Value)} (g : ∀ e ∈ l, GoodT w e) : ElemsOf (strKind P w) l := by
  intro e he
  obtain ⟨k, tk, h1, h2⟩ := g e he
  refine ⟨⟨k, ?_, h2⟩, ?_⟩
  · rw [h1]; show Value.isStrOf k (.str k tk) = true; simp [Value.isStrOf]
  · rw [h1] <;> rfl
theorem goodT_is {e : Int × Value} (g : GoodT w e) (k : Str) : (strKind P w).is k e.2 = true ↔ txtOf e = k := by
  obtain ⟨k0, tk, h1, _⟩ := g
  unfold txtOf
  rw [h1]
  show Value.isStrOf k (.str k0 tk) = true ↔ k0 = k
  constructor
  · intro q
    obtain ⟨t, e⟩ := Value.isStrOf_shape q
    injection e
  · intro q
    rw [q]; simp [Value.isStrOf]
theorem goodT_mem {l : List (Int × Value)} (g : ∀ e ∈ l, GoodT w e) (k : Str) :
    k ∈ l.map txtOf ↔ ∃ e ∈ l, (strKind P w).is k e.2 = true := by
  rw [List.mem_map]
  constructor
  · rintro ⟨e, he, q⟩; exact ⟨e, he, (goodT_is (g e he) k).2 q⟩
  · rintro ⟨e, he, q⟩; exact ⟨e, he, (goodT_is (g e he) k).1 q⟩
end

section
variable {P : Program} {w : World} {A : Around} {E : Value → Shared → Prop} {s : Shared} {a : Addr} {S : Str → Bool} {n : Nat}

/-- behind the table has taken the new member -/
theorem setT_tail {g : Bool → Sem Unit} (hg : ∀ (b : Bool) (s₁ : Shared) (Q' : Unit → Shared → Prop), Q' () s₁ → wpAny (model P w) A (g b) Q' E s₁)
    {o : Obj} {es : Array (Int × Value)} {ep : Nat} {t : SetTable} (ho : s.heap.get? a = some o) (hd : o.data = .set es ep t)
    {es1 : Array (Int × Value)} {t2 : SetTable} {S' : Str → Bool} (at1 : SetTAt w o es1 t2 S' es1.size)
    {wasDummy : Bool} {R : Option Bool → Shared → Prop}
    (hR : ∀ h', Heap.SameBut a s.heap h' → SetT w h' a S' es1.size → R (some true) { s with heap := h' }) :
    wpAny (model P w) A (do
        storeSet a es1 t2
        if (!wasDummy && t2.tooFull) = true then do
            g (relayAll t2 es1 (SetTable.grown es1.size)).2.2
            storeSet a (relayAll t2 es1 (SetTable.grown es1.size)).1 (relayAll t2 es1 (SetTable.grown es1.size)).2.1
            pure (some true)
          else pure (some true)) R E s := by
  refine wpAny_bind (wpAny_storeSet_of ho hd ?_ (fits_of_scanBound at1.bound))
  have stored := store_at (es' := es1) (t' := t2) ho hd
  have same1 := Heap.SameBut.update s.heap a (Obj.putSet es1 t2)
  split
  · have pm := relayAll_perm t2 es1 (SetTable.grown es1.size)
    have ft := relayAll_fits t2 es1 (SetTable.grown es1.size)
    have rs := relayAll_ris t2 es1 (SetTable.grown es1.size)
    have ld := relayAll_led t2 es1 (SetTable.grown es1.size)
    generalize relayAll t2 es1 (SetTable.grown es1.size) = Z at pm ft rs ld ⊢
    obtain ⟨es2, t3, gave⟩ := Z
    dsimp only at pm ft rs ld ⊢
    have size2 : es2.size = es1.size := by rw [← Array.length_toList, pm.length_eq, Array.length_toList]
    have bound2 : es2.size < scanBound := by rw [size2]; exact at1.bound
    refine wpAny_bind (hg _ _ _ ?_)
    refine wpAny_bind (wpAny_storeSet_of stored rfl ?_ (fits_of_scanBound bound2))
    have stored2 := store_at (es' := es2) (t' := t3) stored rfl
    refine wpAny_pure (hR _ (same1.trans (Heap.SameBut.update _ a _)) ⟨_, es2, _, t3, stored2, rfl, ?_⟩)
    exact {
      exact' := at1.exact'
      good := fun e he => at1.good e (pm.mem_iff.mp he)
      nd := (pm.map txtOf).nodup_iff.mpr at1.nd
      mem := fun k => (at1.mem k).trans (pm.map txtOf).mem_iff.symm
      bound := bound2
      fits := ft
      size := size2
      rises := rs
      led := at1.led.imp id fun z => by rw [ld]; exact z }
  · refine wpAny_pure (hR _ same1 ⟨_, es1, _, t2, stored, rfl, ?_⟩)
    exact ⟨at1.exact', at1.good, at1.nd, at1.mem, at1.bound, at1.fits, rfl, at1.rises, at1.led⟩

theorem setT_add {k : Str} {tk : Tok} {Q : Bool → Shared → Prop} (R : SetT w s.heap a S n) (room : n + 1 < scanBound)
    (hQ : ∀ h', Heap.SameBut a s.heap h' → SetT w h' a (fun j => S j || decide (j = k)) (if S k = true then n else n + 1) → Q (!S k) { s with heap := h' }) :
    wpAny (model P w) A (setAddHashed a (.str k tk) ((strKind P w).hash k)) Q E s := by
  obtain ⟨o, es, ep, t, ho, hd, T⟩ := R
  have isk : (strKind P w).is k (.str k tk) = true := by show Value.isStrOf k (.str k tk) = true; simp [Value.isStrOf]
  have scan : (Value.str k tk).scannable = true := rfl
  have elems : ElemsOf (strKind P w) es.toList := goodT_elems T.good
  unfold setAddHashed setAddHashedIn
  refine wpAny_holding (wpAny_bind (wpAny_setState_of ho hd T.fits ?_))
  dsimp only
  rw [byScan_of scan T.bound elems]
  simp only [↓reduceIte]
  unfold setAddByScan
  refine wpAny_bind ?_
  refine wpAny_bind (wpAny_rule ?_)
  refine wpAny_bind (wpAny_setScan_of isk ho hd T.fits elems ?_)
  cases found : List.findIdx? (fun e => (strKind P w).is k e.2) es.toList with
  | some j =>
    dsimp only
    obtain ⟨hj, pj, _⟩ := List.findIdx?_eq_some_iff_getElem.mp found
    have inS : S k = true := (T.mem k).2 ((goodT_mem (P := P) (w := w) T.good k).2 ⟨es.toList[j], List.getElem_mem hj, pj⟩)
    refine wpAny_pure (wpAny_pure ?_)
    have q := hQ s.heap (Heap.SameBut.refl a s.heap) ⟨o, es, ep, t, ho, hd, {
      exact' := T.exact', good := T.good, nd := T.nd, bound := T.bound, fits := T.fits, rises := T.rises, led := T.led
      size := by rw [if_pos inS]; exact T.size
      mem := fun i => by
        rw [Bool.or_eq_true, decide_eq_true_eq, ← T.mem i]
        exact ⟨fun z => z.elim id (fun e => e ▸ inS), .inl⟩ }⟩
    rw [inS] at q
    exact q
  | none =>
    dsimp only
    have notIn : k ∉ es.toList.map txtOf := by
      intro z
      obtain ⟨e, he, q⟩ := (goodT_mem (P := P) (w := w) T.good k).1 z
      have c := List.findIdx?_eq_none_iff.mp found e he
      rw [q] at c
      cases c
    have outS : S k = false := by
      cases q : S k with
      | false => rfl
      | true => exact absurd ((T.mem k).1 q) notIn
    have gave : ∀ (b : Bool) {s₁ : Shared} {Q' : Unit → Shared → Prop}, Q' () s₁ →
        wpAny (model P w) A (match b with | true => rule "set.scan.the-table-gave-way" | false => pure ()) Q' E s₁ := by
      intro b s₁ Q' q
      cases b <;> first | exact wpAny_pure q | exact wpAny_rule q
    have pm := layNew_perm t es ((strKind P w).hash k) (.str k tk)
    have ft := layNew_fits t es ((strKind P w).hash k) (.str k tk)
    have rs := layNew_ris t es ((strKind P w).hash k) (.str k tk) T.rises
    have ld := layNew_led t es ((strKind P w).hash k) (.str k tk)
    generalize layNew t es ((strKind P w).hash k) (.str k tk) = Z at pm ft rs ld ⊢
    obtain ⟨es1, t1, wasDummy, gv⟩ := Z
    dsimp only at pm ft rs ld ⊢
    rw [Array.toList_push] at pm
    have pc : es1.toList.Perm (((strKind P w).hash k, Value.str k tk) :: es.toList) := pm.trans (List.perm_append_singleton _ _)
    have pk : (es1.toList.map txtOf).Perm (k :: es.toList.map txtOf) := pc.map txtOf
    have size1 : es1.size = n + 1 := by rw [← Array.length_toList, pc.length_eq, List.length_cons, Array.length_toList, T.size]
    have led1 : w.params.followText "set-order" = true ∨ t1.led = true := T.led.imp id fun z => by rw [ld]; exact z
    have mk : ∀ t2 : SetTable, t2.fits es1.size = true → Ris t2.place.toList → (w.params.followText "set-order" = true ∨ t2.led = true) →
        SetTAt w o es1 t2 (fun j => S j || decide (j = k)) es1.size := fun t2 f2 r2 l2 => {
      exact' := T.exact'
      good := fun e he => by
        rcases List.mem_cons.mp (pc.mem_iff.mp he) with z | z
        · rw [z]; exact ⟨k, tk, rfl, rfl⟩
        · exact T.good e z
      nd := pk.nodup_iff.mpr (List.nodup_cons.mpr ⟨notIn, T.nd⟩)
      mem := fun i => by
        rw [Bool.or_eq_true, decide_eq_true_eq, T.mem i, pk.mem_iff, List.mem_cons]
        exact Or.comm
      bound := by rw [size1]; exact room
      fits := f2
      size := rfl
      rises := r2
      led := l2 }
    have fin : ∀ h', Heap.SameBut a s.heap h' → SetT w h' a (fun j => S j || decide (j = k)) es1.size → Q true { s with heap := h' } := by
      intro h' sb r
      have q := hQ h' sb
      rw [outS] at q
      rw [size1] at r
      exact q r
    refine wpAny_bind (gave _ ?_)
    split
    · refine wpAny_bind ?_
      rw [hashByValue_scannable 8 scan]
      refine wpAny_pure ?_
      refine setT_tail ?_ ho hd (mk _ ?_ ?_ ?_) ?_
      · intro b s₁ Q' q
        cases b <;> first | exact wpAny_pure q | exact wpAny_rule q
      · first | (split <;> first | exact ft | exact SetTable.fits_plain_off ft) | exact ft
      · first | (split <;> exact rs) | exact rs
      · first | (split <;> exact led1) | exact led1
      · intro h' sb r
        dsimp only
        exact wpAny_pure (fin h' sb r)
    · refine wpAny_bind (wpAny_pure ?_)
      simp only [↓reduceIte]
      refine setT_tail ?_ ho hd (mk _ ft rs led1) ?_
      · intro b s₁ Q' q
        cases b <;> first | exact wpAny_pure q | exact wpAny_rule q
      · intro h' sb r
        dsimp only
        exact wpAny_pure (fin h' sb r)

/-! ### set(tuple of texts) -/
theorem setT_begin {h : Heap} {ys : List Str} {led : Bool} (el : led = !w.params.followText "set-order")
    (ho : h.get? a = some { cls := .type "set", dict := none, data := .set #[] 0 (.fresh 0 0 led) }) : SetT w h a (fun j => decide (j ∈ ys.take 0)) 0 := by
  refine ⟨_, #[], 0, _, ho, rfl, ?_⟩
  exact {
    exact' := ⟨rfl, rfl, rfl⟩
    good := fun e he => by simp at he
    nd := by simp
    mem := fun k => by simp
    bound := by decide
    fits := by rfl
    size := rfl
    rises := List.Pairwise.nil
    led := by
      show _ ∨ led = true
      rw [el]
      cases w.params.followText "set-order" with
      | false => exact .inr rfl
      | true => exact .inl rfl }

theorem setT_update {I : Addr} {fp wr : List Addr} {G : Array GenState → Array GenState → Prop} {Pv : Nat → Value → Prop} {St : Nat → Shared → Prop}
    {R : Result → Shared → Prop} (ys : List Str)
    (W : WalksS P w A.in1 I fp wr G ys.length Pv St) (T : Addr) (outside : T ∉ fp) (small : ys.length + 1 < scanBound)
    (vals : ∀ i v, Pv i v → ∃ k t, ys[i]? = some k ∧ v = .str k t) :
    ∀ (left i : Nat) (s : Shared), ys.length - i = left → i ≤ ys.length → St i s → (∃ c, c ≤ i ∧ SetT w s.heap T (fun j => decide (j ∈ ys.take i)) c) →
      (∀ s' c, Moved (T :: wr) G s s' → c ≤ ys.length → SetT w s'.heap T (fun j => decide (j ∈ ys)) c → R (.ok (.ret .none)) s') →
      codeAny (model P w) A (.builtin "set.update.loop" ⟨[.ref T, .ref I], []⟩) R s := by
  have outside' : T ∉ wr := fun h => outside (W.sub _ h)
  have more : ∀ b ∈ wr, b ∈ T :: wr := fun b hb => List.mem_cons_of_mem _ hb
  intro left
  induction left with
  | zero =>
    intro i s el hi st ⟨c, hc, hS⟩ fin
    have ei : i = ys.length := by omega
    subst ei
    refine codeAny_builtin F.entry_set_update_loop ?_
    rw [Around.under_plainId F.plain_set_update_loop _]
    show wpAny _ A.in1 (pyNext (.ref I) >>= _) _ _ s
    refine wpAny_bind (W.done s _ _ st fun s' hm => ?_)
    show wpAny _ A.in1 (ret Value.none) _ _ s'
    rw [List.take_length] at hS
    exact wpAny_pure (fin s' c (hm.mono more) hc (hS.at fun o e => hm.heap T o outside' e))
  | succ left ih =>
    intro i s el hi st ⟨c, hc, hS⟩ fin
    have lt : i < ys.length := by omega
    refine codeAny_builtin F.entry_set_update_loop ?_
    rw [Around.under_plainId F.plain_set_update_loop _]
    show wpAny _ A.in1 (pyNext (.ref I) >>= _) _ _ s
    refine wpAny_bind (W.item i s _ _ lt st fun v s' hP st' hm => ?_)
    obtain ⟨z, t, hz, rfl⟩ := vals i v hP
    have hS' : SetT w s'.heap T (fun j => decide (j ∈ ys.take i)) c := hS.at fun o e => hm.heap T o outside' e
    show wpAny _ A.in1 (holding [Value.str z t] (setAdd T (.str z t)) >>= _) _ _ s'
    refine wpAny_bind (wpAny_holding ?_)
    unfold setAdd
    refine wpAny_holding ?_
    refine wpAny_bind ((strKind P w).pyHash (k := z) (by show Value.isStrOf z (.str z t) = true; simp [Value.isStrOf]) ?_)
    refine setT_add (s := { s' with toks := s'.toks + 1 }) hS' (by omega) fun h' sb hS2 => ?_
    have next : SetT w h' T (fun j => decide (j ∈ ys.take (i + 1))) (if decide (z ∈ ys.take i) = true then c else c + 1) := hS2.congr fun j => by
      rw [List.take_add_one, hz]
      simp [List.mem_append]
    have few : (if decide (z ∈ ys.take i) = true then c else c + 1) ≤ i + 1 := by
      split <;> omega
    refine wpAny_pure ⟨plainId_quiet F.plain_set_update_loop _,
      ih (i + 1) _ (by omega) lt (W.frame _ s' _ _ st' (Nat.le_succ _) fun b hb o e => ?_) ⟨_, few, next⟩ fun s'' c2 hm'' hc'' hS'' => ?_⟩
    · rw [sb.2 b (fun h : b = T => outside (by rw [← h]; exact hb))]
      exact e
    refine fin s'' c2 (Moved.trans W.gtrans ((hm.mono more).then_heap (Nat.le_succ _) fun b o hb e => ?_) hm'') hc'' hS''
    rw [sb.2 b (fun h : b = T => hb (by rw [h]; exact List.mem_cons_self))]
    exact e

theorem call_setT {l : Addr} {items : Array Value} (ys : List Str) {Q : Value → Shared → Prop} (calm : A.handled = none) (hl : s.heap.IsTuple l items)
    (hit : StrsAre items.toList ys) (small : ys.length + 1 < scanBound)
    (h : ∀ (h' : Heap) (tk c : Nat), SetT w h' s.heap.objs.size (fun j => decide (j ∈ ys)) c → c ≤ ys.length →
      (∀ b o, s.heap.get? b = some o → h'.get? b = some o) → Q (.ref s.heap.objs.size) { s with heap := h', toks := tk }) :
    wpAny (model P w) A (call (.type "set") [.ref l]) Q E s := by
  have at_i : ∀ {us : List Value} {zs : List Str}, StrsAre us zs → ∀ (i : Nat) (v : Value), us[i]? = some v → ∃ k t, zs[i]? = some k ∧ v = .str k t := by
    intro us zs r
    induction r with
    | nil => intro i v e; simp at e
    | cons y t r ih =>
      intro i v e
      cases i with
      | zero => exact ⟨y, t, rfl, (Option.some.inj e).symm⟩
      | succ i => exact ih i v (by simpa using e)
  have len_i : ∀ {us : List Value} {zs : List Str}, StrsAre us zs → us.length = zs.length := by
    intro us zs r
    induction r with
    | nil => rfl
    | cons y t r ih => rw [List.length_cons, List.length_cons, ih]
  have sizeI : items.size = ys.length := by rw [← Array.length_toList]; exact len_i hit
  generalize eLed : (!w.params.followText "set-order") = led at *
  obtain ⟨c, tl, hmro⟩ := F.called_set.mro
  have hmade := F.called_set.made
  have hsub := F.called_set.sub
  refine wpAny_call (codeAny_of_tree ?_)
  show wpAny _ _ (callAny (.type "set") _) _ _ _
  refine wpAny_pure ⟨Code.quiet_builtin _ (by decide +kernel), codeAny_builtin F.entry_type_call ?_⟩
  rw [Around.under_plain (weight_type_call_type "set" [.ref l] []) rfl]
  have h1 := F.called_set.notType
  have h2 := F.called_set.canCreate
  have hct := F.typeCall_set_1 (.ref l)
  repeat (any_goals (first | assumption | wp_step))
  have fresh := code_set_led1 (P := P) (w := w) (A := A.in1) (s := s) (.ref l) (E := E)
    (Q₁ := fun obj s₁ => obj = .ref s.heap.objs.size ∧ s₁ = { s with heap := s.heap.push { cls := .type "set", dict := none, data := .set #[] 0 (.fresh 0 0 led) } })
    (by rw [eLed]; exact ⟨rfl, rfl⟩)
  refine codeAny_mono fresh fun r s₁ hr => ?_
  cases r with
  | error e => exact hr
  | ok fl =>
  cases fl with
  | ret obj =>
    obtain ⟨rfl, rfl⟩ := hr
    have atS : (s.heap.push { cls := .type "set", dict := none, data := .set #[] 0 (.fresh 0 0 led) }).get? s.heap.objs.size
        = some { cls := .type "set", dict := none, data := .set #[] 0 (.fresh 0 0 led) } := Heap.get?_push_size _ rfl
    have isSet : Shared.TypeIs { s with heap := s.heap.push { cls := .type "set", dict := none, data := .set #[] 0 (.fresh 0 0 led) } } (.ref s.heap.objs.size) "set" := ⟨_, atS, rfl⟩
    have hli := F.called_set.init.lookup
    have hbi := F.called_set.init.bind (.ref s.heap.objs.size)
    repeat (any_goals (first | assumption | wp_step))
    refine codeAny_mono (codeAny_call_builtin (R := wants (fun r s₂ => r = .none ∧ ∃ h' tk c, s₂ = { s with heap := h', toks := tk } ∧
        SetT w h' s.heap.objs.size (fun j => decide (j ∈ ys)) c ∧ c ≤ ys.length ∧ (∀ b o, s.heap.get? b = some o → h'.get? b = some o)) E)
        F.called_set.init.plain F.entry_set_init (check_set_init_1 isSet ?_)) fun r₂ s₂ hr₂ => ?_
    · obtain ⟨ol, hol, hcl, nl, hdl⟩ := hl
      obtain ⟨ocls, odict, odata, oslots⟩ := ol
      simp only at hcl hdl
      subst hcl
      subst hdl
      have lS : l < s.heap.objs.size := Heap.lt_size hol
      have tupl : (s.heap.push { cls := .type "set", dict := none, data := .set #[] 0 (.fresh 0 0 led) }).IsTuple l items := ⟨_, Heap.get?_push_of_some _ hol, rfl, nl, rfl⟩
      have hol' := Heap.get?_push_of_some { cls := .type "set", dict := none, data := .set #[] 0 (.fresh 0 0 led) } hol
      have hsls := F.sub_tuple_set
      have hslf := F.sub_tuple_frozenset
      have notDict : (Value.type "tuple" == Value.type "dict") = false := by decide
      unfold Builtin.«set.__init__» noKeywords Builtin.Frozenset.updateFrom
      generalize hPI : pyIter = PI
      wp_walk
      subst hPI
      refine wpAny_pyIter_tuple tupl ?_
      refine wpAny_bind (wpAny_runValue ?_)
      have calm3 : A.in1.in1.in1.handled = none := by simp [calm]
      have pushSize : (s.heap.push { cls := .type "set", dict := none, data := .set #[] 0 (.fresh 0 0 led) }).objs.size = s.heap.objs.size + 1 := Heap.size_push ..
      have itNe : l ≠ (s.heap.push { cls := .type "set", dict := none, data := .set #[] 0 (.fresh 0 0 led) }).objs.size := by
        rw [pushSize]; exact Nat.ne_of_lt (Nat.lt_succ_of_lt lS)
      have out : s.heap.objs.size ∉ [(s.heap.push { cls := .type "set", dict := none, data := .set #[] 0 (.fresh 0 0 led) }).objs.size, l] := by
        rw [pushSize]
        simp only [List.mem_cons, List.mem_singleton, List.not_mem_nil, or_false, not_or]
        exact ⟨Nat.ne_of_lt (Nat.lt_succ_self _), Nat.ne_of_gt lS⟩
      have W0 := (Walks.tuple (prog := P) (w := w) calm3 (s.heap.push { cls := .type "set", dict := none, data := .set #[] 0 (.fresh 0 0 led) }).objs.size l itNe items).toS
      rw [sizeI] at W0
      refine setT_update ys W0 s.heap.objs.size out small (fun i v hv => at_i hit i v (by rw [Array.getElem?_toList]; exact hv)) (ys.length - 0) 0 _ (by omega) (Nat.zero_le _)
        ⟨⟨_, Heap.get?_push_size _ rfl, rfl, rfl⟩, tupl.push _⟩ ?begin ?fin
      case begin =>
        exact ⟨0, Nat.le_refl 0, setT_begin eLed.symm (Heap.get?_push_of_some _ atS)⟩
      case fin =>
        intro s' c' hm hc' hS'
        obtain ⟨h', g2, d', tk', os'⟩ := s'
        have eg : g2 = s.gens := hm.gens
        have ed : d' = s.drawn := hm.drawn
        have eo : os' = s.os := hm.os
        subst eg
        subst ed
        subst eo
        show wpAny _ _ _ _ _ _
        refine wpAny_pure ?_
        show wpAny _ _ (ret Value.none) _ _ _
        refine wpAny_pure ⟨rfl, h', tk', c', rfl, hS', hc', fun b o e => ?_⟩
        have lb : b < s.heap.objs.size := Heap.lt_size e
        refine hm.heap b o ?_ (Heap.get?_push_of_some _ (Heap.get?_push_of_some _ e))
        rw [pushSize]
        simp only [List.mem_cons, List.mem_singleton, List.not_mem_nil, or_false, not_or]
        exact ⟨Nat.ne_of_lt lb, Nat.ne_of_lt (Nat.lt_succ_of_lt lb)⟩
    · cases r₂ with
      | error e => exact hr₂
      | ok fl₂ =>
        cases fl₂ with
        | ret r =>
          obtain ⟨rfl, h', tk, c', rfl, hS', hc', hk'⟩ := hr₂
          repeat (any_goals (first | assumption | wp_step))
          exact h _ _ _ hS' hc' hk'
        | _ => exact hr₂.elim
  | _ => exact hr.elim
end
end Wk
set_option Elab.async false
set_option linter.all false
set_option maxRecDepth 100000
set_option maxHeartbeats 4000000
/-! WkSet2: sorted(set of texts), and both as rules of the layer. -/
namespace Wk
open PySem PySem.Spec PyProof.Rows L2

theorem strsOf : ∀ (l : List Value), (∀ v ∈ l, ∃ k tk, v = Value.str k tk) → ∃ ys, StrsAre l ys
  | [], _ => ⟨[], .nil⟩
  | v :: l, h => by
    obtain ⟨k, tk, e⟩ := h v List.mem_cons_self
    obtain ⟨ys, r⟩ := strsOf l fun u hu => h u (List.mem_cons_of_mem _ hu)
    rw [e]
    exact ⟨k :: ys, .cons k tk r⟩
theorem strsOf_map : ∀ {l : List (Int × Value)} {w : World} {ys : List Str}, (∀ e ∈ l, GoodT w e) → StrsAre (l.map (·.2)) ys → ys = l.map txtOf
  | [], _, _, _, r => by
    cases r
    rfl
  | e :: l, w, ys, g, r => by
    obtain ⟨x, tk, h1, _⟩ := g e List.mem_cons_self
    rw [List.map_cons, h1] at r
    cases r with
    | cons y t r' =>
      have ih := strsOf_map (fun e' he => g e' (List.mem_cons_of_mem _ he)) r'
      rw [List.map_cons, ← ih]
      unfold txtOf
      rw [h1]
theorem strs_vals : ∀ {us : List Value} {ys : List Str}, StrsAre us ys → Vals (ys.map V.str) us
  | _, _, .nil => .nil
  | _, _, .cons y t r => .cons ⟨t, rfl⟩ (strs_vals r)
theorem vals_strsAre : ∀ {us : List Value} {ys : List Str}, Vals (ys.map V.str) us → StrsAre us ys
  | us, [], r => by
    cases r
    exact .nil
  | us, y :: ys, r => by
    cases r with
    | cons r1 r2 =>
      obtain ⟨t, rfl⟩ := r1
      exact .cons y t (vals_strsAre r2)
theorem strs_len : ∀ {us : List Value} {ys : List Str}, StrsAre us ys → us.length = ys.length
  | _, _, .nil => rfl
  | _, _, .cons y t r => by rw [List.length_cons, List.length_cons, strs_len r]
theorem strs_perm_txt {us vs : List Value} {ys zs : List Str} (ru : StrsAre us ys) (rv : StrsAre vs zs) (p : us.Perm vs) : ys.Perm zs := by
  let f : Value → Str := fun v => match v with | .str x _ => x | _ => Str.empty
  have e : ∀ {us : List Value} {ys : List Str}, StrsAre us ys → us.map f = ys := by
    intro us ys r
    induction r with
    | nil => rfl
    | cons y t r ih => rw [List.map_cons, ih]
  rw [← e ru, ← e rv]
  exact p.map f

section
variable {P : Program} {w : World} {A : Around} {E : Value → Shared → Prop} {s : Shared} {a : Addr} {S : Str → Bool} {n : Nat}
theorem sorted_setT {Q : Value → Shared → Prop} (R : SetT w s.heap a S n) (calm : A.handled = none) (few : n ≤ 1000)
    (hQ : ∀ s' p (out : Array Value) (c : Nat) (ys : List Str), (∀ b o, s.heap.get? b = some o → s'.heap.get? b = some o) → s'.gens = s.gens → s'.os = s.os →
      s.heap.objs.size ≤ p → s'.heap.get? p = some (seqObj "list" out c) → StrsAre out.toList ys → ys.Nodup → sortedS ys = true →
      (∀ k, k ∈ ys ↔ S k = true) → ys.length = n → Q (.ref p) s') :
    wpAny (model P w) A (call (.builtin "sorted") [.ref a]) Q E s := by
  obtain ⟨o, es, ep, t, ho, hd, T⟩ := R
  refine Calls.call_function_entry kind_sorted plain_sorted entry_sorted (args_sorted1 _) ?_
  unfold Builtin.«sorted»
  refine wpAny_bind (m := checkCount "sorted" 1 1 _) (wpAny_pure ?_)
  refine wpAny_bind (collect_set (A := A.in1) calm ⟨o, ho, T.exact'.1, hd⟩ T.fits T.bound T.rises T.led fun s1 vs k1 hz g1 o1 pm => ?_)
  obtain ⟨zs, rz⟩ := strsOf (es.toList.map (·.2)) (fun v hv => by
    obtain ⟨e, he, q⟩ := List.mem_map.mp hv
    obtain ⟨k, tk, h1, _⟩ := T.good e he
    exact ⟨k, tk, by rw [← q]; exact h1⟩)
  have ez := strsOf_map T.good rz
  obtain ⟨ys, ry⟩ := strsOf vs (fun v hv => by
    obtain ⟨e, he, q⟩ := List.mem_map.mp (pm.mem_iff.mp hv)
    obtain ⟨k, tk, h1, _⟩ := T.good e he
    exact ⟨k, tk, by rw [← q]; exact h1⟩)
  have py : ys.Perm (es.toList.map txtOf) := by
    rw [← ez]
    exact strs_perm_txt ry rz pm
  have lenV : vs.length = n := by rw [pm.length_eq, List.length_map, Array.length_toList]; exact T.size
  refine wpAny_bind (wpAny_newList ?_ (by rw [lenV, sizeLine_eq]; omega))
  have atL : (s1.heap.push (seqObj "list" vs.toArray 0)).get? s1.heap.objs.size = some (seqObj "list" vs.toArray 0) := Heap.get?_push_size _ rfl
  have small : vs.length ≤ sizeLine := by rw [lenV, sizeLine_eq]; omega
  refine wpAny_bind (wpAny_holding (wpAny_call_entry slot_list_sort ⟨_, atL, rfl⟩ entry_list_sort
    (list_sort_treeKAny strKind_oneLt atL ry.keysOf (fun v₁ v₂ rest e => keyKind_strs (by rw [← e]; exact ry)) small fun st' hp hs => ⟨_, rfl, ?_⟩) (args_list_sort _)))
  obtain ⟨ss, r1, r2, r3⟩ := sorted_out_str ry hp hs
  obtain ⟨c, hc⟩ := sortedHeap_at (vs := vs) (out := (arrOf st').map (·.2)) atL
  have pn : ss.Perm (es.toList.map txtOf) := r2.trans py
  refine wpAny_pure ⟨_, rfl, hQ _ s1.heap.objs.size _ c ss (fun b u e => ?_) g1 o1 hz hc r1 (pn.nodup_iff.mpr T.nd) r3 (fun k => ?_) ?_⟩
  · have q := k1 b u e
    have lt := Heap.lt_size q
    show (sortedHeap (s1.heap.push (seqObj "list" vs.toArray 0)) s1.heap.objs.size vs _).get? b = some u
    rw [sortedHeap_old (Nat.ne_of_lt lt) (by rw [size_push']; exact Nat.lt_succ_of_lt lt)]
    exact Heap.get?_push_of_some _ q
  · rw [pn.mem_iff, ← T.mem k]
  · rw [pn.length_eq, List.length_map, Array.length_toList]
    exact T.size
end

/-! ### as rules -/
def SetTO (w : World) (a : Addr) (S : Str → Bool) (n : Nat) : HO := .ext fun h => SetT w h a S n
section
variable {X : Cx}
theorem setTO_new {w : World} {P : Program} {H : Hp} {h : Heap} {a : Addr} {S : Str → Bool} {n : Nat} (R : SetT w h a S n) : ObjOk P w H h a (SetTO w a S n) := by
  have R0 := R
  obtain ⟨o, es, ep, t, ho, r⟩ := R0
  exact ⟨R, ⟨o, ho⟩, fun h1 h2 p k => SetT.at p k⟩
/-- set(t), t a tuple of texts -/
def rSetT (K : PySem.W.Frag) (w : World) : List V → Hp → VK → Prop := fun xs H Q => ∃ (l : Addr) (ys : List Str), xs = [.ref l] ∧ SqT K H l (ys.map V.str) ∧ ys.length ≤ 1000 ∧
  ∀ p n, H p = none → n ≤ ys.length → Q (.ref p) (upd H p (SetTO w p (fun j => decide (j ∈ ys)) n))
theorem call_setTup (hc : X.calm = true) : CallR X (.type "set") (rSetT X.K X.w) := by
  intro pins s σ H xs us Q I r h
  obtain ⟨l, ys, rfl, hs, few, q⟩ := h
  obtain ⟨u, rfl, ru⟩ := vals1 r
  cases ru
  obtain ⟨its, rv, tup, _⟩ := I.tuple hs
  refine call_setT ys (I.ok.hd hc) tup (by simpa using vals_strsAre rv) (Nat.lt_of_le_of_lt (Nat.succ_le_succ few) (by decide)) fun h' tk c R le kp => ?_
  exact ⟨.ref s.heap.objs.size, _, I.laid (t' := tk) kp (Nat.le_refl _) (setTO_new R), rfl, q _ c (I.hok.fresh (Nat.le_refl _)) le⟩
/-- sorted(S), S a set of texts -/
def rSortSetT (w : World) : List V → Hp → VK → Prop := fun xs H Q => ∃ (a : Addr) (S : Str → Bool) (n : Nat), xs = [.ref a] ∧ H a = some (SetTO w a S n) ∧ n ≤ 1000 ∧
  ∀ (ys : List Str) (p : Addr), ys.Nodup → sortedS ys = true → (∀ k, k ∈ ys ↔ S k = true) → ys.length = n → H p = none → Q (.ref p) (upd H p (.lst (ys.map V.str)))
theorem call_sortedSetT (hc : X.calm = true) : CallR X (.builtin "sorted") (rSortSetT X.w) := by
  intro pins s σ H xs us Q I r h
  obtain ⟨a, S, n, rfl, ha, few, q⟩ := h
  have R : SetT X.w s.heap a S n := (I.hok a _ ha).1
  obtain ⟨u, rfl, ru⟩ := vals1 r
  cases ru
  refine sorted_setT R (I.ok.hd hc) few fun s' p out c ys k g o hp hg rs nd srt mem len => ?_
  have lenOk : (ys.map V.str).length ≤ sizeLine := by rw [List.length_map, len, sizeLine_eq]; omega
  have fresh : H p = none := I.hok.fresh hp
  have rv : Vals (ys.map V.str) out.toList := strs_vals rs
  obtain ⟨hp', gs', dr', tk', os'⟩ := s'
  have eo : os' = s.os := o
  subst eo
  have J : Inv X pins σ (upd H p (.lst (ys.map V.str))) { s with heap := hp', gens := gs', drawn := dr', toks := tk' } :=
    I.call (ch := []) (Un.laid k hp fresh) (I.hok.laid k hp ⟨lenOk, out.toList, c, rv, by simpa using hg⟩) (by rw [show gs' = s.gens from g]; exact I.bare) (fun _ z => nomatch z)
  exact ⟨.ref p, _, J, rfl, q ys p nd srt mem len fresh⟩
end
end Wk
set_option Elab.async false
set_option linter.all false
set_option maxRecDepth 100000
/-! WkK: rules with the written part by its own name (a comprehension's block has another context of the same written part). -/
namespace Wk
open PySem PySem.Spec PyProof.Rows L2
section
variable {X : Cx} {K : PySem.W.Frag} {k : Nat}
def rLenSeq (K : PySem.W.Frag) : List V → Hp → VK → Prop := fun xs H Q => ∃ p ys, xs = [.ref p] ∧ (SqL K H p ys ∨ SqT K H p ys) ∧ Q (.int ys.length) H
def rLenStr : List V → Hp → VK → Prop := fun xs H Q => ∃ z : Str, xs = [.str z] ∧ z.length ≤ sizeLine ∧ Q (.int z.length) H
def rListOf (K : PySem.W.Frag) : List V → Hp → VK → Prop := fun xs H Q => ∃ p ys, xs = [.ref p] ∧ (SqL K H p ys ∨ SqT K H p ys) ∧ ∀ l, H l = none → Q (.ref l) (upd H l (.lst ys))
theorem call_len_seqK (e : X.K = K) : CallR X (.builtin "len") (rLenSeq K) := by subst e; exact call_len_seq
theorem call_len_strK (e : X.K = K) : CallR X (.builtin "len") rLenStr := by subst e; exact call_len_str
theorem call_list_ofK (e : X.K = K) : CallR X (.type "list") (rListOf K) := by subst e; exact call_list_of
theorem ix_listK (e : X.K = K) : IxR X (rIxL K) := by subst e; exact ix_list
theorem ix_tupK (e : X.K = K) : IxR X (rIxT K) := by subst e; exact ix_tup
theorem sl_listK (e : X.K = K) : SlR X (rSlL K) := by subst e; exact sl_list
theorem sl_tupAK (e : X.K = K) : SlR X (rSlA K) := by subst e; exact sl_tupA
theorem op_in_seqK (e : X.K = K) : OpR X (compareOp .In) (rIn K false) := by subst e; exact op_in_seq
theorem op_notIn_seqK (e : X.K = K) : OpR X (compareOp .NotIn) (rIn K true) := by subst e; exact op_notIn_seq
theorem op_eqDK (e : X.K = K) (hr : RoomG k X.A) : OpR X (compareOp .Eq) (rEqD K) := by subst e; exact op_eqD hr.u64
theorem op_neDK (e : X.K = K) (hr : RoomG k X.A) : OpR X (compareOp .NotEq) (rNeD K) := by subst e; exact op_neD hr.u64
theorem op_eqEK (e : X.K = K) (hr : RoomG k X.A) : OpR X (compareOp .Eq) (rEqE K false) := by subst e; exact op_eqE hr
theorem op_neEK (e : X.K = K) (hr : RoomG k X.A) : OpR X (compareOp .NotEq) (rEqE K true) := by subst e; exact op_neE hr
theorem cr_allK (e : X.K = K) (hc : X.calm = true) : CallR X (.builtin "all") (rAll K) := by subst e; exact cr_all hc
theorem cr_anyK (e : X.K = K) (hc : X.calm = true) : CallR X (.builtin "any") (rAny K) := by subst e; exact cr_any hc
theorem call_isaK (e : X.K = K) : CallR X (.builtin "isinstance") (rIsa K) := by subst e; exact call_isa
theorem cr_sortedSK (e : X.K = K) : CallR X (.builtin "sorted") (rSortedS K) := by subst e; exact cr_sortedS
theorem call_reprK (e : X.K = K) (hr : RoomG k X.A) : CallR X (.builtin "repr") (rRepr K) := by subst e; exact call_reprD hr
theorem op_catTK (e : X.K = K) : OpR X (binaryOp .Add) (rCatT K) := by subst e; exact op_catT
section
variable {o ee : Expr} {es : List Expr} {to : TE} {t : TA} {name : Str} {apos cpos : Pos} {T id : String} {r : V → List V → Hp → VK → Prop} {te : TE}
theorem pe_bmK (eK : X.K = K) (pa : PlainAttrs T) (slot : Slot T name id) (hty : typeOf (.builtin id) = pure (.type "method_descriptor")) (hm : MtR X id r) (ho : PE X o to) (ha : PA X (ee :: es) t)
    (hbase : attributeBase o name X.env (eval o X.env) = eval o X.env := by rfl)
    (hfew : ((backTo cpos (starEach (ee :: es) X.env)).all (fun x => !x.1) && (backToKw cpos (keywordEach [] X.env)).all (fun x => x.1.isSome)
      && decide ((ee :: es).length + ([] : List Keyword).length + (if ([] : List Keyword).isEmpty then 0 else 1) < 30)) = true := by rfl)
    (hline : (apos.endLine == cpos.line) = true := by rfl) (hs : starEach (ee :: es) X.env = (false, eval ee X.env) :: starEach es X.env := by rfl)
    (hplain : (backTo cpos (starEach es X.env)).any (·.1) = false := by rfl) :
    PE X (.Call (.Attribute o name apos) (ee :: es) [] cpos) (tBM K T r to t) := by
  subst eK
  exact pe_bm pa slot hty hm ho ha hbase hfew hline hs hplain
def rJoin (K : PySem.W.Frag) : V → List V → Hp → VK → Prop := fun x xs H Q => ∃ a p, ∃ ys : List Str, x = .str a ∧ xs = [.ref p] ∧ (SqL K H p (ys.map V.str) ∨ SqT K H p (ys.map V.str)) ∧
  (ys.map (·.length)).sum + ys.length * a.length ≤ 16777216 ∧ Q (.str (Txt.join a ys)) H
theorem pe_joinK {apos pos : Pos} (eK : X.K = K) (ho : PE X o to) (he : PE X ee te) (hs : starEach [ee] X.env = [(false, eval ee X.env)] := by rfl)
    (hbase : attributeBase o "join" X.env (eval o X.env) = eval o X.env := by rfl) (hline : (apos.endLine == pos.line) = true := by rfl) :
    PE X (.Call (.Attribute o "join" apos) [ee] [] pos) (tM1 (rJoin K) to te) := by
  subst eK
  exact pe_join ho he hs hbase hline
end
end
end Wk
set_option Elab.async false
set_option linter.all false
set_option maxRecDepth 100000
/-! the text -/
namespace K00
open PySem PySem.Spec PyProof.Rows L2 Wk
def topS (i : Nat) : Stmt := PySem.Challenge.pw_whichwalks_k00_integers_names_and_sets.main.body.getD i (.Pass ⟨0, 0, 0, 0⟩)
abbrev s_is_integer : Stmt := topS 2
abbrev NN_is_integer : List Str := ["value"]
abbrev PP_is_integer : List Str := ["value"]
theorem sc_is_integer : FnScope NN_is_integer PP_is_integer (defScope s_is_integer) := ⟨rfl, rfl, rfl, by decide +kernel, rfl, by decide +kernel, by decide +kernel⟩
abbrev s_is_name : Stmt := topS 3
abbrev NN_is_name : List Str := ["value", "letter"]
abbrev PP_is_name : List Str := ["value"]
theorem sc_is_name : FnScope NN_is_name PP_is_name (defScope s_is_name) := ⟨rfl, rfl, rfl, by decide +kernel, rfl, by decide +kernel, by decide +kernel⟩
abbrev s_is_set : Stmt := topS 4
abbrev NN_is_set : List Str := ["value", "name", "one", "other"]
abbrev PP_is_set : List Str := ["value"]
theorem sc_is_set : FnScope NN_is_set PP_is_set (defScope s_is_set) := ⟨rfl, rfl, rfl, by decide +kernel, rfl, by decide +kernel, by decide +kernel⟩
abbrev s_L_mill : Stmt := topS 6
abbrev NN_L_mill : List Str := ["_law_script", "_law_at", "_law_cell", "_law_great", "_law_mixed"]
abbrev PP_L_mill : List Str := ["_law_script", "_law_at"]
theorem sc_L_mill : FnScope NN_L_mill PP_L_mill (defScope s_L_mill) := ⟨rfl, rfl, rfl, by decide +kernel, rfl, by decide +kernel, by decide +kernel⟩
abbrev s_L_grain : Stmt := topS 7
abbrev NN_L_grain : List Str := ["_law_mill_here", "_law_total", "_law_found", "_law_one", "_law_two"]
abbrev PP_L_grain : List Str := ["_law_mill_here", "_law_total"]
theorem sc_L_grain : FnScope NN_L_grain PP_L_grain (defScope s_L_grain) := ⟨rfl, rfl, rfl, by decide +kernel, rfl, by decide +kernel, by decide +kernel⟩
abbrev s_L_one_of : Stmt := topS 8
abbrev NN_L_one_of : List Str := ["_law_mill_here", "_law_items"]
abbrev PP_L_one_of : List Str := ["_law_mill_here", "_law_items"]
theorem sc_L_one_of : FnScope NN_L_one_of PP_L_one_of (defScope s_L_one_of) := ⟨rfl, rfl, rfl, by decide +kernel, rfl, by decide +kernel, by decide +kernel⟩
abbrev s_L_order : Stmt := topS 9
abbrev NN_L_order : List Str := ["_law_mill_here", "_law_items", "_law_waits", "_law_turn"]
abbrev PP_L_order : List Str := ["_law_mill_here", "_law_items"]
theorem sc_L_order : FnScope NN_L_order PP_L_order (defScope s_L_order) := ⟨rfl, rfl, rfl, by decide +kernel, rfl, by decide +kernel, by decide +kernel⟩
abbrev s_L_letter : Stmt := topS 10
abbrev NN_L_letter : List Str := ["_law_mill_here"]
abbrev PP_L_letter : List Str := ["_law_mill_here"]
theorem sc_L_letter : FnScope NN_L_letter PP_L_letter (defScope s_L_letter) := ⟨rfl, rfl, rfl, by decide +kernel, rfl, by decide +kernel, by decide +kernel⟩
abbrev s_L_many_names : Stmt := topS 11
abbrev NN_L_many_names : List Str := ["_law_mill_here", "_law_much", "_law_body", "_law_lot", "_law_found", "_law_at", "_law_spot", "_law_sign"]
abbrev PP_L_many_names : List Str := ["_law_mill_here", "_law_much"]
theorem sc_L_many_names : FnScope NN_L_many_names PP_L_many_names (defScope s_L_many_names) := ⟨rfl, rfl, rfl, by decide +kernel, rfl, by decide +kernel, by decide +kernel⟩
abbrev s_L_spelled : Stmt := topS 12
abbrev NN_L_spelled : List Str := ["_law_value", "_law_sign"]
abbrev PP_L_spelled : List Str := ["_law_value"]
theorem sc_L_spelled : FnScope NN_L_spelled PP_L_spelled (defScope s_L_spelled) := ⟨rfl, rfl, rfl, by decide +kernel, rfl, by decide +kernel, by decide +kernel⟩
abbrev s_L_is_set : Stmt := topS 13
abbrev NN_L_is_set : List Str := ["_law_value", "_law_name"]
abbrev PP_L_is_set : List Str := ["_law_value"]
theorem sc_L_is_set : FnScope NN_L_is_set PP_L_is_set (defScope s_L_is_set) := ⟨rfl, rfl, rfl, by decide +kernel, rfl, by decide +kernel, by decide +kernel⟩
abbrev s_L_is_short : Stmt := topS 14
abbrev NN_L_is_short : List Str := ["_law_value"]
abbrev PP_L_is_short : List Str := ["_law_value"]
theorem sc_L_is_short : FnScope NN_L_is_short PP_L_is_short (defScope s_L_is_short) := ⟨rfl, rfl, rfl, by decide +kernel, rfl, by decide +kernel, by decide +kernel⟩
abbrev s_L_bounds : Stmt := topS 15
abbrev NN_L_bounds : List Str := ["_law_mill_here", "_law_cell", "_law_great", "_law_near"]
abbrev PP_L_bounds : List Str := ["_law_mill_here", "_law_cell"]
theorem sc_L_bounds : FnScope NN_L_bounds PP_L_bounds (defScope s_L_bounds) := ⟨rfl, rfl, rfl, by decide +kernel, rfl, by decide +kernel, by decide +kernel⟩
abbrev s_L_texts : Stmt := topS 16
abbrev NN_L_texts : List Str := ["_law_mill_here", "_law_found", "_law_turn", "_law_text", "_law_at", "_law_spot", "_law_odd"]
abbrev PP_L_texts : List Str := ["_law_mill_here"]
theorem sc_L_texts : FnScope NN_L_texts PP_L_texts (defScope s_L_texts) := ⟨rfl, rfl, rfl, by decide +kernel, rfl, by decide +kernel, by decide +kernel⟩
abbrev s_L_tuples : Stmt := topS 17
abbrev NN_L_tuples : List Str := ["_law_mill_here", "_law_one", "_law_two", "_law_last", "_law_found", "_law_odd"]
abbrev PP_L_tuples : List Str := ["_law_mill_here"]
theorem sc_L_tuples : FnScope NN_L_tuples PP_L_tuples (defScope s_L_tuples) := ⟨rfl, rfl, rfl, by decide +kernel, rfl, by decide +kernel, by decide +kernel⟩
abbrev s_L_cell_right : Stmt := topS 18
abbrev NN_L_cell_right : List Str := ["_law_script", "_law_at", "_law_mill_here", "_law_cell", "_law_values", "_law_turn", "_law_value", "_law_found"]
abbrev PP_L_cell_right : List Str := ["_law_script", "_law_at"]
theorem sc_L_cell_right : FnScope NN_L_cell_right PP_L_cell_right (defScope s_L_cell_right) := ⟨rfl, rfl, rfl, by decide +kernel, rfl, by decide +kernel, by decide +kernel⟩
abbrev s_law : Stmt := topS 19
abbrev NN_law : List Str := ["_law_script", "_law_at"]
abbrev PP_law : List Str := ["_law_script"]
theorem sc_law : FnScope NN_law PP_law (defScope s_law) := ⟨rfl, rfl, rfl, by decide +kernel, rfl, by decide +kernel, by decide +kernel⟩
structure Txt (mg : Str → Option Value) : Prop where
  abs : mg "abs" = none
  all : mg "all" = none
  bool : mg "bool" = none
  int : mg "int" = none
  isinstance : mg "isinstance" = none
  len : mg "len" = none
  list : mg "list" = none
  max : mg "max" = none
  min : mg "min" = none
  range : mg "range" = none
  repr : mg "repr" = none
  set : mg "set" = none
  sorted : mg "sorted" = none
  str : mg "str" = none
  tuple : mg "tuple" = none
  zip : mg "zip" = none
  MAX_LETTERS : ∃ u, mg "MAX_LETTERS" = some u ∧ RelV (.int 8) u
end K00
set_option Elab.async false
set_option linter.all false
set_option maxRecDepth 100000
set_option maxHeartbeats 4000000
/-! the mill -/
namespace K00
open PySem PySem.Spec PyProof.Rows L2 Wk
section
variable {P : Program} {w : World} {K : PySem.W.Frag} {mg : Str → Option Value} {base : Heap}

theorem pj {i j : Int} (h : 0 < j) : (fun _ j : Int => 0 < j) i j := h
def spGrain : Sp := fun vs H Q _ => ∃ (m : Addr) (t : Int), vs = [.ref m, .int t] ∧ Ml H m ∧ 0 < t ∧ t < 1073741824 ∧
  ∀ H' r, Kp m H H' → 0 ≤ r → r < t → Q (.int r) H'

theorem ok_L_grain (D : DefAt K mg "_law_grain" s_L_grain) (M : Txt mg) : Gc P w K mg base CX0 1 "_law_grain" spGrain := by
  refine D.ok0 sc_L_grain (fun kV doc pm an cdv ct us hl => match us, hl with | [_, _], _ => rfl) (fun vs H Q E h => by obtain ⟨m, t, rfl, _⟩ := h; rfl)
    (fun f cdv A outer s H vs Q E hr h => ?_)
  have nd := sc_L_grain.nd
  obtain ⟨m, t, rfl, ml, t0, t1, q⟩ := h
  refine ⟨_, (pss_cons (ps_if (pt_cmpR op_gt (pe_ix ix_list (pv 0) pe_int (fun _ _ => rfl)) pe_int (nomark _))
      (pss_cons (ps_set (i := 2) nd rfl (Or.inl rfl) (pe_op op_mod (pe_callTy call_int1 (by rfl) M.int (by decide +kernel) (pa_cons (pe_ix ix_list (pv 0) pe_int (fun _ _ => rfl)) pa_nil)) (pv 1)))
      (pss_cons (ps_asg (pe_op op_fdiv (pe_ix ix_list (pv 0) pe_int (fun _ _ => rfl)) (pv 1)) (pg_sub (pv 0) pe_int set_list))
      (pss_one (ps_ret (pv 2))))) pss_nil)
      (pss_cons (ps_asg (pe_op op_add (pe_ix ix_list (pv 0) pe_int (fun _ _ => rfl)) pe_int) (pg_sub (pv 0) pe_int set_list))
      (pss_cons (ps_set (i := 3) nd rfl (Or.inl rfl) (pe_op op_mod (pe_callTy call_int1 (by rfl) M.int (by decide +kernel) (pa_cons (pe_op op_add (pe_ix ix_list (pv 0) pe_int (fun _ _ => rfl)) (pe_op op_mul pe_int (pe_ix ix_list (pv 0) pe_int (fun _ _ => rfl)))) pa_nil)) pe_int))
      (pss_cons (ps_set (i := 4) nd rfl (Or.inl rfl) (pe_op op_add (pe_op op_mul (pe_op op_mod (pe_callTy call_int1 (by rfl) M.int (by decide +kernel) (pa_cons (pe_op op_mul (pv 3) (pv 3)) pa_nil)) pe_int) (pv 3)) (pe_op op_mul pe_int (pe_ix ix_list (pv 0) pe_int (fun _ _ => rfl)))))
      (pss_one (ps_ret (pe_op op_mod (pe_callTy call_int1 (by rfl) M.int (by decide +kernel) (pa_cons (pe_op op_fdiv (pe_op op_mod (pe_callTy call_int1 (by rfl) M.int (by decide +kernel) (pa_cons (pv 4) pa_nil)) pe_int) pe_int) pa_nil)) (pv 1)))))))), ?_⟩
  obtain ⟨x, y, z, hm, x0⟩ := ml
  have at0 : ∀ {x y z : Int}, atI [V.int x, V.int y, V.int z] 0 = some (.int x) := fun {x y z} => atI_nat (j := 0) rfl
  have at1 : ∀ {x y z : Int}, atI [V.int x, V.int y, V.int z] 1 = some (.int y) := fun {x y z} => atI_nat (j := 1) rfl
  have at2 : ∀ {x y z : Int}, atI [V.int x, V.int y, V.int z] 2 = some (.int z) := fun {x y z} => atI_nat (j := 2) rfl
  have ml : Ml H m := ⟨x, y, z, hm, x0⟩
  -- if mill[0] > 0
  refine ⟨_, rfl, _, _, _, _, rfl, rfl, .inl (.inl hm), at0, _, _, rfl, rfl, _, rfl, ?_⟩
  by_cases hx : (0 : Int) < x
  · rw [decide_eq_true hx]
    refine iteT ?_
    refine ⟨_, rfl, _, _, _, _, rfl, rfl, .inl (.inl hm), at0, .inl ⟨_, rfl, ?_⟩⟩
    refine ⟨_, rfl, _, _, rfl, rfl, t0, ?_⟩
    -- mill[0] = mill[0] // total
    refine ⟨_, rfl, _, _, _, _, rfl, rfl, .inl (.inl hm), at0, _, rfl, _, _, rfl, rfl, ⟨t0, t1⟩, ?_⟩
    refine ⟨_, rfl, _, _, _, 0, rfl, rfl, hm, rfl, _, rfl, ?_⟩
    exact q _ _ ((Kp.refl ml).turn (Int.ediv_nonneg (Int.le_of_lt hx) (Int.le_of_lt t0))) (Int.emod_nonneg _ (by omega)) (Int.emod_lt_of_pos _ t0)
  · rw [decide_eq_false hx]
    refine iteF ?_
    -- mill[2] = mill[2] + 1
    refine ⟨_, rfl, _, _, _, _, rfl, rfl, .inl (.inl hm), at2, _, _, rfl, rfl, ?_⟩
    refine ⟨_, rfl, _, _, _, 2, rfl, rfl, hm, rfl, ?_⟩
    have hm1 : upd H m (.lst ([V.int x, V.int y, V.int z].set 2 (.int (z + 1)))) m = some (.lst [.int x, .int y, .int (z + 1)]) := upd_same
    have k1 : Kp m H (upd H m (.lst ([V.int x, V.int y, V.int z].set 2 (.int (z + 1))))) := (Kp.refl ml).turn x0
    -- one = ..
    refine ⟨_, rfl, _, _, _, _, rfl, rfl, .inl (.inl hm1), at1, _, rfl, _, _, _, _, rfl, rfl, .inl (.inl hm1), at2, _, _, rfl, rfl, .inl (by decide), _, _, rfl, rfl, ?_⟩
    refine .inl ⟨_, rfl, _, _, rfl, rfl, pj (i := 0) (by decide), ?_⟩
    generalize e1 : ((y + 1000381 * (z + 1)) % 2305843009213693951 : Int) = one
    have b1 : 0 ≤ one ∧ one < 2305843009213693951 := by
      rw [← e1]
      exact ⟨Int.emod_nonneg _ (by decide), Int.emod_lt_of_pos _ (by decide)⟩
    -- two = ..
    refine ⟨_, rfl, _, rfl, _, _, rfl, rfl, .inl (by omega), .inl ⟨_, rfl, _, _, rfl, rfl, pj (i := 0) (by decide), ?_⟩⟩
    refine ⟨_, rfl, _, _, rfl, rfl, .inr (by omega), ?_⟩
    refine ⟨_, rfl, _, _, _, _, rfl, rfl, .inl (.inl hm1), at2, _, _, rfl, rfl, .inl (by decide), _, _, rfl, rfl, ?_⟩
    -- return
    refine ⟨_, rfl, .inl ⟨_, rfl, _, _, rfl, rfl, pj (i := 0) (by decide), _, _, rfl, rfl, ⟨by decide, by decide⟩, .inl ⟨_, rfl, _, rfl, _, _, rfl, rfl, t0, ?_⟩⟩⟩
    exact q _ _ k1 (Int.emod_nonneg _ (by omega)) (Int.emod_lt_of_pos _ t0)

/-- an item of a list, drawn -/
def spOneOf (K : PySem.W.Frag) : Sp := fun vs H Q _ => ∃ (m l : Addr) (xs : List V), vs = [.ref m, .ref l] ∧ Ml H m ∧ l ≠ m ∧ H l = some (.lst xs) ∧ 0 < xs.length ∧ xs.length ≤ 1000 ∧
  ∀ H' v, Kp m H H' → v ∈ xs → Q v H'
theorem ok_L_one_of (D : DefAt K mg "_law_one_of" s_L_one_of) (M : Txt mg) (C_L_grain : Gc P w K mg base CX0 1 "_law_grain" spGrain) :
    Gc P w K mg base CX0 2 "_law_one_of" (spOneOf K) := by
  refine D.ok0 sc_L_one_of (fun kV doc pm an cdv ct us hl => match us, hl with | [_, _], _ => rfl) (fun vs H Q E h => by obtain ⟨m, l, xs, rfl, _⟩ := h; rfl)
    (fun f cdv A outer s H vs Q E hr h => ?_)
  have nd := sc_L_one_of.nd
  obtain ⟨m, l, xs, rfl, ml, ne, hl, l0, l1, q⟩ := h
  refine ⟨_, (pss_one (ps_ret (pe_ix ix_list (pv 1) (pe_g C_L_grain hr (by decide) (by rfl) pass0 (pa_cons (pv 0) (pa_cons (pe_callB call_len_seq (by rfl) M.len (by decide +kernel) (pa_cons (pv 1) pa_nil)) pa_nil))) (fun _ _ => rfl)))), ?_⟩
  refine ⟨_, rfl, _, rfl, _, rfl, _, _, rfl, .inl (.inl (.inl hl)), m, _, rfl, ml, by omega, by omega, fun H1 r k r0 r1 => ?_⟩
  obtain ⟨j, rfl⟩ := Int.eq_ofNat_of_zero_le r0
  have hj : j < xs.length := by omega
  refine ⟨_, _, _, xs[j], rfl, rfl, .inl (.inl (k.keep _ _ ne hl)), atI_nat (j := j) (List.getElem?_eq_getElem hj), ?_⟩
  exact q _ _ k (List.getElem_mem hj)

/-- a letter -/
def spLetter : Sp := fun vs H Q _ => ∃ (m : Addr), vs = [.ref m] ∧ Ml H m ∧ ∀ H' (c : Nat), Kp m H H' → 97 ≤ c → c ≤ 122 → Q (.str ⟨#[c]⟩) H'
theorem abc_at : ∀ j : Nat, j < 26 → ("abcdefghijklmnopqrstuvwxyz" : Str).cps.toList[j]? = some (97 + j) := by decide +kernel
theorem ok_L_letter (D : DefAt K mg "_law_letter" s_L_letter) (M : Txt mg) (C_L_grain : Gc P w K mg base CX0 1 "_law_grain" spGrain) :
    Gc P w K mg base CX0 2 "_law_letter" spLetter := by
  refine D.ok0 sc_L_letter (fun kV doc pm an cdv ct us hl => match us, hl with | [_], _ => rfl) (fun vs H Q E h => by obtain ⟨m, rfl, _⟩ := h; rfl)
    (fun f cdv A outer s H vs Q E hr h => ?_)
  have nd := sc_L_letter.nd
  obtain ⟨m, rfl, ml, q⟩ := h
  refine ⟨_, (pss_one (ps_ret (pe_ix ix_str pe_str (pe_g C_L_grain hr (by decide) (by rfl) pass0 (pa_cons (pv 0) (pa_cons pe_int pa_nil))) (fun _ _ => rfl)))), ?_⟩
  refine ⟨_, rfl, m, 26, rfl, ml, by decide, by decide, fun H1 r k r0 r1 => ?_⟩
  obtain ⟨j, rfl⟩ := Int.eq_ofNat_of_zero_le r0
  refine ⟨_, _, 97 + j, rfl, rfl, by decide, atI_nat (j := j) (abc_at j (by omega)), ?_⟩
  exact q _ _ k (by omega) (by omega)

/-- the mill of a cell -/
def spMill (K : PySem.W.Frag) : Sp := fun vs H Q _ => ∃ (a : Addr) (at' : Nat) (ns : List Int), vs = [.ref a, .int at'] ∧ SqL K H a (ns.map V.int) ∧ at' ≤ 1000 ∧
  ∀ p x y z, H p = none → 0 ≤ x → Q (.ref p) (upd H p (.lst [.int x, .int y, .int z]))
theorem ok_L_mill (D : DefAt K mg "_law_mill" s_L_mill) (M : Txt mg) : Gc P w K mg base CX0 1 "_law_mill" (spMill K) := by
  refine D.ok0 sc_L_mill (fun kV doc pm an cdv ct us hl => match us, hl with | [_, _], _ => rfl) (fun vs H Q E h => by obtain ⟨a, at', ns, rfl, _⟩ := h; rfl)
    (fun f cdv A outer s H vs Q E hr h => ?_)
  have nd := sc_L_mill.nd
  obtain ⟨a, at', ns, rfl, sq, small, q⟩ := h
  refine ⟨_, (pss_cons (ps_set (i := 2) nd rfl (Or.inl rfl) (pe_ifExp (pt_cmpR op_lt (pv 1) (pe_callB call_len_seq (by rfl) M.len (by decide +kernel) (pa_cons (pv 0) pa_nil)) (nomark _)) (pe_ix ix_list (pv 0) (pv 1) (fun _ _ => rfl)) (pe_op op_add (pe_op op_mul pe_int (pv 1)) pe_int)))
      (pss_cons (ps_set (i := 3) nd rfl (Or.inl rfl) (pe_op op_mod (pe_callTy call_int1 (by rfl) M.int (by decide +kernel) (pa_cons (pe_callB call_abs (by rfl) M.abs (by decide +kernel) (pa_cons (pv 2) pa_nil)) pa_nil)) (pe_op op_powW (pe_op op_powW pe_int pe_int) pe_int)))
      (pss_cons (ps_set (i := 4) nd rfl (Or.inl rfl) (pe_op op_add (pe_op op_add (pe_op op_add (pe_op op_mul (pe_op op_mod (pe_callTy call_int1 (by rfl) M.int (by decide +kernel) (pa_cons (pv 3) pa_nil)) pe_int) pe_int) (pe_op op_mul pe_int (pv 1))) (pe_op op_mul pe_int (pe_callTy call_int1 (by rfl) M.int (by decide +kernel) (pa_cons (pe_cmpR op_lt (pv 2) pe_int (nomark _)) pa_nil)))) pe_int))
      (pss_one (ps_ret (pe_lst (pa_cons (pe_callB (call_max2 rfl) (by rfl) M.max (by decide +kernel) (pa_cons pe_int (pa_cons (pe_op op_sub (pv 3) (pe_op op_powW pe_int pe_int)) pa_nil))) (pa_cons (pe_op op_mod (pe_callTy call_int1 (by rfl) M.int (by decide +kernel) (pa_cons (pv 4) pa_nil)) pe_int) (pa_cons pe_int pa_nil))))))))), ?_⟩
  refine ⟨_, rfl, _, rfl, _, _, rfl, .inl sq, _, _, rfl, rfl, _, rfl, ite2 (fun hc => ?_) (fun hc => ?_)⟩
  · have lt : at' < ns.length := by
      have := of_decide_eq_true hc
      rw [List.length_map] at this
      omega
    refine ⟨_, rfl, _, rfl, _, _, _, .int ns[at'], rfl, rfl, sq, atI_nat (j := at') (by rw [List.getElem?_map, List.getElem?_eq_getElem lt]; rfl), ?_⟩
    generalize ns[at'] = cell
    -- great
    refine ⟨_, rfl, _, rfl, .inl ⟨_, rfl, _, _, rfl, rfl, ⟨by decide, by decide⟩, _, _, rfl, rfl, ⟨by decide, by decide +kernel⟩, _, _, rfl, rfl, pj (i := 0) (by decide +kernel), ?_⟩⟩
    generalize ((if cell < 0 then -cell else cell) % (10 ^ Int.toNat 58) ^ Int.toNat 11 : Int) = great
    -- mixed
    refine ⟨_, rfl, .inl ⟨_, rfl, _, _, rfl, rfl, pj (i := 0) (by decide), ?_⟩⟩
    refine ⟨_, _, rfl, rfl, .inr (by decide), ?_⟩
    refine ⟨_, rfl, _, _, rfl, rfl, .inl (by decide), _, _, rfl, rfl, ?_⟩
    refine ⟨_, rfl, _, _, rfl, rfl, .inr ⟨_, rfl, _, _, rfl, rfl, .inl (by decide), _, _, rfl, rfl, _, _, rfl, rfl, ?_⟩⟩
    -- the list
    refine ⟨_, rfl, _, _, rfl, rfl, ⟨by decide, by decide⟩, _, _, rfl, rfl, _, _, rfl, ?_⟩
    refine ⟨_, rfl, .inl ⟨_, rfl, _, _, rfl, rfl, pj (i := 0) (by decide), (by show 3 ≤ sizeLine; decide), fun p np => ?_⟩⟩
    refine q p _ _ _ np ?_
    split <;> omega
  · refine ⟨_, rfl, _, _, rfl, rfl, .inl (by decide), _, _, rfl, rfl, ?_⟩
    generalize (47 * (at' : Int) + 19 : Int) = cell
    -- great
    refine ⟨_, rfl, _, rfl, .inl ⟨_, rfl, _, _, rfl, rfl, ⟨by decide, by decide⟩, _, _, rfl, rfl, ⟨by decide, by decide +kernel⟩, _, _, rfl, rfl, pj (i := 0) (by decide +kernel), ?_⟩⟩
    generalize ((if cell < 0 then -cell else cell) % (10 ^ Int.toNat 58) ^ Int.toNat 11 : Int) = great
    -- mixed
    refine ⟨_, rfl, .inl ⟨_, rfl, _, _, rfl, rfl, pj (i := 0) (by decide), ?_⟩⟩
    refine ⟨_, _, rfl, rfl, .inr (by decide), ?_⟩
    refine ⟨_, rfl, _, _, rfl, rfl, .inl (by decide), _, _, rfl, rfl, ?_⟩
    refine ⟨_, rfl, _, _, rfl, rfl, .inr ⟨_, rfl, _, _, rfl, rfl, .inl (by decide), _, _, rfl, rfl, _, _, rfl, rfl, ?_⟩⟩
    -- the list
    refine ⟨_, rfl, _, _, rfl, rfl, ⟨by decide, by decide⟩, _, _, rfl, rfl, _, _, rfl, ?_⟩
    refine ⟨_, rfl, .inl ⟨_, rfl, _, _, rfl, rfl, pj (i := 0) (by decide), (by show 3 ≤ sizeLine; decide), fun p np => ?_⟩⟩
    refine q p _ _ _ np ?_
    split <;> omega
end
end K00
set_option Elab.async false
set_option linter.all false
set_option maxRecDepth 100000
set_option maxHeartbeats 4000000
/-! integers and names -/
namespace K00
open PySem PySem.Spec PyProof.Rows L2 Wk

/-! ### the mathematics -/
def lowC (c : Nat) : Bool := decide (97 ≤ c) && decide (c ≤ 122)
def nameS (x : Str) : Bool := decide (1 ≤ x.length) && decide (x.length ≤ 8) && x.cps.toList.all lowC
def nameV : V → Bool
  | .str x => nameS x
  | _ => false
def big60 : Int := 10 ^ 60
def intV : V → Bool
  | .int i => decide (0 - 10 ^ Int.toNat 60 < i) && decide (i < 10 ^ Int.toNat 60)
  | _ => false
theorem abs_lt (i : Int) : decide ((if i < 0 then -i else i) < 10 ^ Int.toNat 60) = (decide (0 - 10 ^ Int.toNat 60 < i) && decide (i < 10 ^ Int.toNat 60)) := by
  have e : (10 : Int) ^ Int.toNat 60 = 1000000000000000000000000000000000000000000000000000000000000 := by decide +kernel
  rw [e]
  by_cases h1 : i < 0
  · rw [if_pos h1]
    by_cases h2 : -i < 1000000000000000000000000000000000000000000000000000000000000
    · rw [decide_eq_true h2, decide_eq_true (by omega), decide_eq_true (by omega)]; rfl
    · rw [decide_eq_false h2, decide_eq_false (by omega), Bool.false_and]
  · rw [if_neg h1]
    by_cases h2 : i < 1000000000000000000000000000000000000000000000000000000000000
    · rw [decide_eq_true h2, decide_eq_true (by omega)]; rfl
    · rw [decide_eq_false h2, Bool.and_false]
theorem lt_a (c : Nat) : (!decide (([c] : List Nat) < [97])) = decide (97 ≤ c) := by
  by_cases h : c < 97
  · rw [decide_eq_true (List.cons_lt_cons_iff.mpr (.inl h)), decide_eq_false (by omega)]; rfl
  · rw [decide_eq_false (fun z => by
      rcases List.cons_lt_cons_iff.mp z with z | ⟨_, z⟩
      · exact h z
      · exact absurd z (by decide)), decide_eq_true (by omega)]; rfl
theorem lt_z (c : Nat) : (!decide (([122] : List Nat) < [c])) = decide (c ≤ 122) := by
  by_cases h : 122 < c
  · rw [decide_eq_true (List.cons_lt_cons_iff.mpr (.inl h)), decide_eq_false (by omega)]; rfl
  · rw [decide_eq_false (fun z => by
      rcases List.cons_lt_cons_iff.mp z with z | ⟨_, z⟩
      · exact h z
      · exact absurd z (by decide)), decide_eq_true (by omega)]; rfl

section
variable {P : Program} {w : World} {K : PySem.W.Frag} {mg : Str → Option Value} {base : Heap}

def spInt (K : PySem.W.Frag) : Sp := fun vs H Q _ => ∃ (v : V) (t : String), vs = [v] ∧ Kd K H v t ∧ Q (.bl (intV v)) H
theorem kd_int {H : Hp} {v : V} {t : String} (h : Kd K H v t) : t = "int" → ∃ i, v = .int i := by
  rintro rfl
  obtain ⟨h, _⟩ := h
  generalize ec : Value.type "int" = c at h
  cases h <;> first | exact ⟨_, rfl⟩ | (injection ec with e; exact absurd e (by decide)) | cases ec
theorem kd_str {H : Hp} {v : V} {t : String} (h : Kd K H v t) : t = "str" → ∃ i, v = .str i := by
  rintro rfl
  obtain ⟨h, _⟩ := h
  generalize ec : Value.type "str" = c at h
  cases h <;> first | exact ⟨_, rfl⟩ | (injection ec with e; exact absurd e (by decide)) | cases ec
theorem kd_int' {H : Hp} {v : V} {t : String} (h : Kd K H v t) : t ≠ "int" → intV v = false := by
  intro n
  obtain ⟨h, _⟩ := h
  cases v with
  | int i =>
    generalize ec : Value.type t = c at h
    cases h
    injection ec with e
    exact absurd e n
  | _ => rfl
theorem kd_str' {H : Hp} {v : V} {t : String} (h : Kd K H v t) : t ≠ "str" → nameV v = false := by
  intro n
  obtain ⟨h, _⟩ := h
  cases v with
  | str i =>
    generalize ec : Value.type t = c at h
    cases h
    injection ec with e
    exact absurd e n
  | _ => rfl

theorem ok_is_integer (D : DefAt K mg "is_integer" s_is_integer) (M : Txt mg) : Gc P w K mg base CX0 1 "is_integer" (spInt K) := by
  refine D.ok0 sc_is_integer (fun kV doc pm an cdv ct us hl => match us, hl with | [_], _ => rfl) (fun vs H Q E h => by obtain ⟨v, t, rfl, _⟩ := h; rfl)
    (fun f cdv A outer s H vs Q E hr h => ?_)
  have nd := sc_is_integer.nd
  obtain ⟨v, t, rfl, hk, q⟩ := h
  refine ⟨_, (pss_one (ps_ret (pe_and (pe_callB call_isa (by rfl) M.isinstance (by decide +kernel) (pa_cons (pv 0) (pa_cons (pe_bltn (v := .ty "int") (by rfl) M.int (by decide +kernel) rfl) pa_nil))) (pe_and (pe_not (pe_callB call_isa (by rfl) M.isinstance (by decide +kernel) (pa_cons (pv 0) (pa_cons (pe_bltn (v := .ty "bool") (by rfl) M.bool (by decide +kernel) rfl) pa_nil)))) (pe_one (pe_cmpR op_lt (pe_callB call_abs (by rfl) M.abs (by decide +kernel) (pa_cons (pv 0) pa_nil)) (pe_op op_powW pe_int pe_int) (nomark _))))))), ?_⟩
  refine ⟨_, rfl, _, t, "int", rfl, by decide, hk, _, rfl, ?_⟩
  by_cases e1 : t = "int"
  · obtain ⟨i, rfl⟩ := kd_int hk e1
    subst e1
    refine iteT ?_
    refine ⟨_, rfl, _, "int", "bool", rfl, by decide, hk, _, rfl, _, rfl, ?_⟩
    refine iteT ?_
    refine ⟨_, rfl, _, rfl, _, _, rfl, rfl, ⟨by decide, by decide⟩, _, _, rfl, rfl, ?_⟩
    show Q (.bl (decide ((if i < 0 then -i else i) < 10 ^ Int.toNat 60))) H
    rw [abs_lt]
    exact q
  · have q' : Q (.bl false) H := by rw [kd_int' hk e1] at q; exact q
    by_cases e2 : t = "bool"
    · subst e2
      refine iteT ?_
      refine ⟨_, rfl, _, "bool", "bool", rfl, by decide, hk, _, rfl, _, rfl, ?_⟩
      exact iteF q'
    · have e3 : isaB t "int" = false := by
        unfold isaB
        rw [decide_eq_false e1, decide_eq_false e2]; rfl
      rw [e3]
      exact iteF q'
theorem ok_L_is_short (D : DefAt K mg "_law_is_short" s_L_is_short) (M : Txt mg) : Gc P w K mg base CX0 1 "_law_is_short" (spInt K) := by
  refine D.ok0 sc_L_is_short (fun kV doc pm an cdv ct us hl => match us, hl with | [_], _ => rfl) (fun vs H Q E h => by obtain ⟨v, t, rfl, _⟩ := h; rfl)
    (fun f cdv A outer s H vs Q E hr h => ?_)
  have nd := sc_L_is_short.nd
  obtain ⟨v, t, rfl, hk, q⟩ := h
  refine ⟨_, (pss_one (ps_ret (pe_and (pe_callB call_isa (by rfl) M.isinstance (by decide +kernel) (pa_cons (pv 0) (pa_cons (pe_bltn (v := .ty "int") (by rfl) M.int (by decide +kernel) rfl) pa_nil))) (pe_and (pe_not (pe_callB call_isa (by rfl) M.isinstance (by decide +kernel) (pa_cons (pv 0) (pa_cons (pe_bltn (v := .ty "bool") (by rfl) M.bool (by decide +kernel) rfl) pa_nil)))) (pe_and (pe_cmpR op_lt (pe_op op_sub pe_int (pe_op op_powW pe_int pe_int)) (pv 0) (nomark _)) (pe_one (pe_cmpR op_lt (pv 0) (pe_op op_powW pe_int pe_int) (nomark _)))))))), ?_⟩
  refine ⟨_, rfl, _, t, "int", rfl, by decide, hk, _, rfl, ?_⟩
  by_cases e1 : t = "int"
  · obtain ⟨i, rfl⟩ := kd_int hk e1
    subst e1
    refine iteT ?_
    refine ⟨_, rfl, _, "int", "bool", rfl, by decide, hk, _, rfl, _, rfl, ?_⟩
    refine iteT ?_
    refine ⟨_, _, rfl, rfl, ⟨by decide, by decide⟩, _, _, rfl, rfl, _, rfl, _, _, rfl, rfl, _, rfl, ?_⟩
    by_cases h1 : 0 - 10 ^ Int.toNat 60 < i
    · rw [decide_eq_true h1]
      refine iteT ?_
      refine ⟨_, rfl, _, _, rfl, rfl, ⟨by decide, by decide⟩, _, _, rfl, rfl, ?_⟩
      have e : intV (.int i) = decide (i < 10 ^ Int.toNat 60) := by
        show (decide (0 - 10 ^ Int.toNat 60 < i) && _) = _
        rw [decide_eq_true h1, Bool.true_and]
      rw [e] at q
      exact q
    · rw [decide_eq_false h1]
      refine iteF ?_
      have e : intV (.int i) = false := by
        show (decide (0 - 10 ^ Int.toNat 60 < i) && _) = _
        rw [decide_eq_false h1, Bool.false_and]
      rw [e] at q
      exact q
  · have q' : Q (.bl false) H := by rw [kd_int' hk e1] at q; exact q
    by_cases e2 : t = "bool"
    · subst e2
      refine iteT ?_
      refine ⟨_, rfl, _, "bool", "bool", rfl, by decide, hk, _, rfl, _, rfl, ?_⟩
      exact iteF q'
    · have e3 : isaB t "int" = false := by
        unfold isaB
        rw [decide_eq_false e1, decide_eq_false e2]; rfl
      rw [e3]
      exact iteF q'

def spName (K : PySem.W.Frag) : Sp := fun vs H Q _ => ∃ (v : V) (t : String), vs = [v] ∧ Kd K H v t ∧ (∀ x, v = .str x → x.length ≤ 1000) ∧ ∀ H', Same H H' → Q (.bl (nameV v)) H'
theorem isa_not {t n : String} (h : t ≠ n) (h2 : n ≠ "int") : isaB t n = false := by
  unfold isaB
  rw [decide_eq_false h, decide_eq_false h2, Bool.and_false]; rfl
theorem sz1000 {n : Nat} (h : n ≤ 1000) : n ≤ sizeLine := Nat.le_trans h (by decide)
theorem szl {n : Nat} (h : n < 1000) : n < sizeLine := Nat.lt_of_lt_of_le h (by decide)
theorem ok_is_name (D : DefAt K mg "is_name" s_is_name) (M : Txt mg) : Gc P w K mg base CX0 1 "is_name" (spName K) := by
  refine D.ok0 sc_is_name (fun kV doc pm an cdv ct us hl => match us, hl with | [_], _ => rfl) (fun vs H Q E h => by obtain ⟨v, t, rfl, _⟩ := h; rfl)
    (fun f cdv A outer s H vs Q E hr h => ?_)
  have nd := sc_is_name.nd
  obtain ⟨v, t, rfl, hk, few, q⟩ := h
  refine ⟨_, (pss_cons (ps_if (PW.pt (pw_or (pt_not (pt_val (pe_callB call_isa (by rfl) M.isinstance (by decide +kernel) (pa_cons (pv 0) (pa_cons (pe_bltn (v := .ty "str") (by rfl) M.str (by decide +kernel) rfl) pa_nil))))) (pw_or1 (pt_not (pt_chain op_le op_le pe_int (pe_callB call_len_str (by rfl) M.len (by decide +kernel) (pa_cons (pv 0) pa_nil)) (C8.pe_gc rfl M.MAX_LETTERS))))))
      (pss_one (ps_ret pe_bl)) pss_nil)
      (pss_one (ps_ret (pe_callB (cr_all rfl) (by rfl) M.all (by decide +kernel) (pa_cons (pe_lc (own := [("letter", 1)]) (by rfl) nd (pi_str (pv 0)) (blkOk_by (own := [("letter", 1)]) (N := NN_is_name) (sc := defScope s_is_name) (by decide +kernel)) (fun _ _ _ _ _ => pg_name (i := 1) nd rfl (Or.inl rfl)) (fun _ _ _ _ _ => pts_nil) (fun _ _ _ _ _ => (pe_chain op_le_str op_le_str pe_str (pv 1) pe_str))) pa_nil))))), ?_⟩
  refine ⟨_, rfl, _, t, "str", rfl, by decide, hk, _, rfl, ?_⟩
  by_cases e1 : t = "str"
  · obtain ⟨x, rfl⟩ := kd_str hk e1
    subst e1
    have fx := few x rfl
    refine iteF ?_
    refine ⟨_, rfl, x, rfl, sz1000 fx, _, _, rfl, rfl, _, rfl, ?_⟩
    by_cases h1 : 1 ≤ x.length
    · have h1' : (1 : Int) ≤ (x.length : Int) := by omega
      rw [decide_eq_true h1']
      refine iteT ?_
      refine ⟨_, _, rfl, rfl, _, rfl, ?_⟩
      by_cases h2 : x.length ≤ 8
      · have h2' : (x.length : Int) ≤ 8 := by omega
        rw [decide_eq_true h2']
        refine iteF ?_
        -- all([..])
        refine ⟨_, rfl, x, rfl, fun D nD => ?_⟩
        refine lc_str (fun i H1 => Same H H1 ∧ H1 D = some (.lst ((x.cps.toList.take i).map fun c => V.bl (lowC c)))) ⟨same_new (Same.refl H) nD, upd_same⟩
          (fun i c H1 hc hp => ?_) (fun H1 hp => ?_)
        · obtain ⟨sm, e⟩ := hp
          have hi : i < x.cps.toList.length := (List.getElem?_eq_some_iff.mp hc).1
          have lim : ((x.cps.toList.take i).map fun c => V.bl (lowC c)).length < sizeLine := by
            rw [List.length_map, List.length_take]
            have : x.cps.toList.length = x.length := Array.length_toList
            exact szl (by omega)
          have nxt : ∀ b : Bool, b = lowC c → (Same H (upd H1 D (.lst (((x.cps.toList.take i).map fun c => V.bl (lowC c)) ++ [V.bl b]))) ∧
              upd H1 D (.lst (((x.cps.toList.take i).map fun c => V.bl (lowC c)) ++ [V.bl b])) D = some (.lst ((x.cps.toList.take (i + 1)).map fun c => V.bl (lowC c)))) := by
            intro b eb
            refine ⟨same_mut sm nD, ?_⟩
            rw [upd_same, List.take_add_one, hc, List.map_append, eb]; rfl
          refine turn_yes rfl ?_
          refine ⟨_, rfl, _, _, rfl, rfl, _, rfl, ?_⟩
          by_cases g1 : 97 ≤ c
          · have g1' : (!decide (([c] : List Nat) < [97])) = true := by rw [lt_a, decide_eq_true g1]
            refine (if_pos g1').mpr ?_
            refine ⟨_, _, rfl, rfl, _, e, lim, nxt _ ?_⟩
            show (!decide (([122] : List Nat) < [c])) = lowC c
            rw [lt_z]
            unfold lowC
            rw [decide_eq_true g1, Bool.true_and]
          · have g1' : ¬ (!decide (([c] : List Nat) < [97])) = true := by rw [lt_a, decide_eq_false g1]; exact Bool.false_ne_true
            refine (if_neg g1').mpr ?_
            refine ⟨_, e, lim, nxt _ ?_⟩
            unfold lowC
            rw [decide_eq_false g1, Bool.false_and]
        · obtain ⟨sm, e⟩ := hp
          rw [List.take_length] at e
          refine ⟨D, x.cps.toList.map lowC, rfl, .inl (.inl (by rw [List.map_map]; exact e)), ?_⟩
          have en : nameV (.str x) = (x.cps.toList.map lowC).all id := by
            show (decide (1 ≤ x.length) && decide (x.length ≤ 8) && x.cps.toList.all lowC) = _
            rw [decide_eq_true h1, decide_eq_true h2, List.all_map]; rfl
          rw [← en]
          exact q _ sm
      · have h2' : ¬ (x.length : Int) ≤ 8 := by omega
        rw [decide_eq_false h2']
        refine iteT ?_
        have en : nameV (.str x) = false := by
          show (decide (1 ≤ x.length) && decide (x.length ≤ 8) && x.cps.toList.all lowC) = _
          rw [decide_eq_false h2, Bool.and_false, Bool.false_and]
        rw [en] at q
        exact q _ (Same.refl H)
    · have h1' : ¬ (1 : Int) ≤ (x.length : Int) := by omega
      rw [decide_eq_false h1']
      refine iteF ?_
      refine ⟨_, rfl, iteT ?_⟩
      have en : nameV (.str x) = false := by
        show (decide (1 ≤ x.length) && decide (x.length ≤ 8) && x.cps.toList.all lowC) = _
        rw [decide_eq_false h1, Bool.false_and, Bool.false_and]
      rw [en] at q
      exact q _ (Same.refl H)
  · rw [isa_not e1 (by decide)]
    refine iteT (iteT ?_)
    rw [kd_str' hk e1] at q
    exact q _ (Same.refl H)
end
end K00
set_option Elab.async false
set_option linter.all false
set_option maxRecDepth 100000
set_option maxHeartbeats 4000000
/-! spelled, sets -/
namespace K00
open PySem PySem.Spec PyProof.Rows L2 Wk

theorem abc_low : ∀ c ∈ ("abcdefghijklmnopqrstuvwxyz" : Str).cps.toList, lowC c = true := by decide +kernel
theorem low_abc {c : Nat} (h : lowC c = true) : c ∈ ("abcdefghijklmnopqrstuvwxyz" : Str).cps.toList := by
  unfold lowC at h
  obtain ⟨h1, h2⟩ := Bool.and_eq_true_iff.mp h
  have h1 := of_decide_eq_true h1
  have h2 := of_decide_eq_true h2
  have e := abc_at (c - 97) (by omega)
  rw [show 97 + (c - 97) = c by omega] at e
  exact List.mem_of_getElem? e
theorem abc_dec (c : Nat) : (!decide (c ∈ ("abcdefghijklmnopqrstuvwxyz" : Str).cps.toList)) = !lowC c := by
  cases h : lowC c with
  | true => rw [decide_eq_true (low_abc h)]
  | false => rw [decide_eq_false fun z => by rw [abc_low c z] at h; cases h]
theorem filt_empty (l : List Nat) : (l.filter fun c => !lowC c).isEmpty = l.all lowC := by
  induction l with
  | nil => rfl
  | cons c l ih =>
    rw [List.filter_cons, List.all_cons]
    cases lowC c with
    | true => rw [if_neg (by simp), ih]; rfl
    | false => rw [if_pos (by simp)]; rfl

section
variable {P : Program} {w : World} {K : PySem.W.Frag} {mg : Str → Option Value} {base : Heap}
theorem ok_L_spelled (D : DefAt K mg "_law_spelled" s_L_spelled) (M : Txt mg) : Gc P w K mg base CX0 1 "_law_spelled" (spName K) := by
  refine D.ok0 sc_L_spelled (fun kV doc pm an cdv ct us hl => match us, hl with | [_], _ => rfl) (fun vs H Q E h => by obtain ⟨v, t, rfl, _⟩ := h; rfl)
    (fun f cdv A outer s H vs Q E hr h => ?_)
  have nd := sc_L_spelled.nd
  obtain ⟨v, t, rfl, hk, few, q⟩ := h
  refine ⟨_, (pss_cons (ps_if (PW.pt (pw_or (pt_not (pt_val (pe_callB call_isa (by rfl) M.isinstance (by decide +kernel) (pa_cons (pv 0) (pa_cons (pe_bltn (v := .ty "str") (by rfl) M.str (by decide +kernel) rfl) pa_nil))))) (pw_or (pt_cmpR op_eq (pe_callB call_len_str (by rfl) M.len (by decide +kernel) (pa_cons (pv 0) pa_nil)) pe_int (nomark _)) (pw_or1 (pt_cmpR op_gt (pe_callB call_len_str (by rfl) M.len (by decide +kernel) (pa_cons (pv 0) pa_nil)) pe_int (nomark _))))))
      (pss_one (ps_ret pe_bl)) pss_nil)
      (pss_one (ps_ret (pe_cmpR (op_eqE hr) (pe_lc (own := [("_law_sign", 1)]) (by rfl) nd (pi_str (pv 0)) (blkOk_by (own := [("_law_sign", 1)]) (N := NN_L_spelled) (sc := defScope s_L_spelled) (by decide +kernel)) (fun _ _ _ _ _ => pg_name (i := 1) nd rfl (Or.inl rfl)) (fun _ _ _ _ _ => pts_one (pt_cmpR op_notIn_sign (pv 1) pe_str rfl)) (fun _ _ _ _ _ => (pv 1))) (pe_lst pa_nil) (nomark _))))), ?_⟩
  refine ⟨_, rfl, _, t, "str", rfl, by decide, hk, _, rfl, ?_⟩
  by_cases e1 : t = "str"
  · obtain ⟨x, rfl⟩ := kd_str hk e1
    subst e1
    have fx := few x rfl
    refine iteF ?_
    refine ⟨_, rfl, x, rfl, sz1000 fx, rfl, _, rfl, ?_⟩
    by_cases h0 : x.length = 0
    · have en : nameV (.str x) = false := by
        show (decide (1 ≤ x.length) && decide (x.length ≤ 8) && x.cps.toList.all lowC) = _
        rw [decide_eq_false (show ¬ 1 ≤ x.length by omega), Bool.false_and, Bool.false_and]
      have d0 : decide (V.int (x.length : Int) = V.int 0) = true := decide_eq_true (by rw [h0]; rfl)
      rw [d0]
      refine iteT (iteT ?_)
      rw [en] at q
      exact q _ (Same.refl H)
    · have d0 : decide (V.int (x.length : Int) = V.int 0) = false := decide_eq_false (fun z => h0 (by injection z with z; omega))
      rw [d0]
      refine iteF ?_
      refine ⟨_, rfl, x, rfl, sz1000 fx, _, _, rfl, rfl, _, rfl, ?_⟩
      by_cases h8 : x.length ≤ 8
      · rw [decide_eq_false (show ¬ (8 : Int) < (x.length : Int) by omega)]
        refine iteF ?_
        refine ⟨_, rfl, x, rfl, fun D nD => ?_⟩
        refine lc_str (fun i H1 => Same H H1 ∧ H1 D = some (.lst (((x.cps.toList.take i).filter fun c => !lowC c).map fun c => V.str ⟨#[c]⟩))) ⟨same_new (Same.refl H) nD, upd_same⟩
          (fun i c H1 hc hp => ?_) (fun H1 hp => ?_)
        · obtain ⟨sm, e⟩ := hp
          have hi : i < x.cps.toList.length := (List.getElem?_eq_some_iff.mp hc).1
          have lim : (((x.cps.toList.take i).filter fun c => !lowC c).map fun c => V.str ⟨#[c]⟩).length < sizeLine := by
            rw [List.length_map]
            have a1 := List.length_filter_le (fun c => !lowC c) (x.cps.toList.take i)
            rw [List.length_take] at a1
            have : x.cps.toList.length = x.length := Array.length_toList
            exact szl (by omega)
          refine ⟨rfl, ?_⟩
          refine ⟨_, rfl, c, _, rfl, rfl, _, rfl, ?_⟩
          rw [abc_dec]
          cases hb : lowC c with
          | true =>
            refine iteF ⟨sm, ?_⟩
            rw [e, List.take_add_one, hc, List.filter_append]
            show _ = some (HO.lst (List.map _ (_ ++ List.filter (fun c => !lowC c) [c])))
            rw [List.filter_cons, hb, if_neg (by simp), List.filter_nil, List.append_nil]
          | false =>
            refine iteT ⟨_, rfl, _, e, lim, same_mut sm nD, ?_⟩
            rw [upd_same, List.take_add_one, hc, List.filter_append]
            show _ = some (HO.lst (List.map _ (_ ++ List.filter (fun c => !lowC c) [c])))
            rw [List.filter_cons, hb, if_pos (by simp), List.filter_nil, List.map_append]
            rfl
        · obtain ⟨sm, e⟩ := hp
          rw [List.take_length] at e
          refine ⟨Nat.zero_le _, fun o no => ?_⟩
          have eD : upd H1 o (.lst []) D = _ := (upd_ne (ne_of_none e no)).trans e
          refine ⟨D, o, _, rfl, rfl, .inl (.inl eD), .inl (.inl upd_same), ?_⟩
          have en : nameV (.str x) = ((x.cps.toList.filter fun c => !lowC c).map fun c => V.str ⟨#[c]⟩).isEmpty := by
            show (decide (1 ≤ x.length) && decide (x.length ≤ 8) && x.cps.toList.all lowC) = _
            rw [decide_eq_true (show 1 ≤ x.length by omega), decide_eq_true h8, List.isEmpty_map, filt_empty]; rfl
          rw [en] at q
          exact q _ (same_new sm no)
      · rw [decide_eq_true (show (8 : Int) < (x.length : Int) by omega)]
        refine iteT ?_
        have en : nameV (.str x) = false := by
          show (decide (1 ≤ x.length) && decide (x.length ≤ 8) && x.cps.toList.all lowC) = _
          rw [decide_eq_false h8, Bool.and_false, Bool.false_and]
        rw [en] at q
        exact q _ (Same.refl H)
  · rw [isa_not e1 (by decide)]
    refine iteT (iteT ?_)
    rw [kd_str' hk e1] at q
    exact q _ (Same.refl H)
end
end K00
set_option Elab.async false
set_option linter.all false
set_option maxRecDepth 100000
set_option maxHeartbeats 4000000
/-! sets -/
namespace K00
open PySem PySem.Spec PyProof.Rows L2 Wk

/-! ### the mathematics -/
def strOf : V → Str
  | .str x => x
  | _ => Str.empty
def ltS (x y : Str) : Bool := decide (x.cps.toList < y.cps.toList)
def ascL : List Str → Bool
  | x :: y :: r => ltS x y && ascL (y :: r)
  | _ => true
def setVs (xs : List V) : Bool := xs.all nameV && ascL (xs.map strOf)
theorem ltS_trans {x y z : Str} (a : ltS x y = true) (b : ltS y z = true) : ltS x z = true :=
  decide_eq_true (List.lt_trans (of_decide_eq_true a) (of_decide_eq_true b))
theorem ltS_irr (x : Str) : ltS x x = false := decide_eq_false (List.lt_irrefl _)
theorem asc_pair : ∀ l : List Str, ascL l = true → l.Pairwise fun a b => ltS a b = true
  | [], _ => .nil
  | [_], _ => by simp
  | x :: y :: r, h => by
    obtain ⟨h1, h2⟩ := Bool.and_eq_true_iff.mp (show (ltS x y && ascL (y :: r)) = true from h)
    have ih := asc_pair (y :: r) h2
    refine List.pairwise_cons.mpr ⟨fun z hz => ?_, ih⟩
    rcases List.mem_cons.mp hz with e | e
    · rw [e]; exact h1
    · exact ltS_trans h1 ((List.pairwise_cons.mp ih).1 z e)
theorem pair_asc : ∀ l : List Str, (l.Pairwise fun a b => ltS a b = true) → ascL l = true
  | [], _ => rfl
  | [_], _ => rfl
  | x :: y :: r, h => by
    obtain ⟨h1, h2⟩ := List.pairwise_cons.mp h
    show (ltS x y && ascL (y :: r)) = true
    rw [h1 y List.mem_cons_self, pair_asc (y :: r) h2]; rfl
theorem pair_uniq : ∀ l m : List Str, (l.Pairwise fun a b => ltS a b = true) → (m.Pairwise fun a b => ltS a b = true) → (∀ k, k ∈ l ↔ k ∈ m) → l = m
  | [], [], _, _, _ => rfl
  | [], y :: m, _, _, h => absurd ((h y).mpr List.mem_cons_self) (by simp)
  | x :: l, [], _, _, h => absurd ((h x).mp List.mem_cons_self) (by simp)
  | x :: l, y :: m, p1, p2, h => by
    obtain ⟨a1, a2⟩ := List.pairwise_cons.mp p1
    obtain ⟨b1, b2⟩ := List.pairwise_cons.mp p2
    have exy : x = y := by
      rcases List.mem_cons.mp ((h x).mp List.mem_cons_self) with e | e
      · exact e
      · rcases List.mem_cons.mp ((h y).mpr List.mem_cons_self) with e2 | e2
        · exact e2.symm
        · have := ltS_trans (b1 x e) (a1 y e2)
          rw [ltS_irr] at this
          cases this
    subst exy
    rw [pair_uniq l m a2 b2 fun k => ?_]
    constructor
    · intro hk
      rcases List.mem_cons.mp ((h k).mp (List.mem_cons_of_mem _ hk)) with e | e
      · rw [e] at hk
        have := a1 x hk
        rw [ltS_irr] at this
        cases this
      · exact e
    · intro hk
      rcases List.mem_cons.mp ((h k).mpr (List.mem_cons_of_mem _ hk)) with e | e
      · rw [e] at hk
        have := b1 x hk
        rw [ltS_irr] at this
        cases this
      · exact e
theorem codes_inj {x y : Str} (h : x.cps.toList = y.cps.toList) : x = y := by
  obtain ⟨a⟩ := x
  obtain ⟨b⟩ := y
  have : a = b := Array.ext' h
  rw [this]
theorem rise_asc : ∀ (l : List Str) (x : Str), risingS x l = true → (x :: l).Nodup → ascL (x :: l) = true
  | [], _, _, _ => rfl
  | y :: l, x, h, nd => by
    obtain ⟨n1, n2⟩ := List.nodup_cons.mp nd
    have hh : (!ltCps y.cps.toList x.cps.toList && risingS y l) = true := h
    rw [ltCps_eq] at hh
    obtain ⟨h1, h2⟩ := Bool.and_eq_true_iff.mp hh
    show (ltS x y && ascL (y :: l)) = true
    rw [rise_asc l y h2 n2, Bool.and_true]
    refine decide_eq_true ?_
    have nlt : ¬ y.cps.toList < x.cps.toList := by simpa using h1
    by_cases q : x.cps.toList < y.cps.toList
    · exact q
    · exact absurd (codes_inj (List.le_antisymm (List.not_lt.mp nlt) (List.not_lt.mp q))) fun e => n1 (by rw [e]; exact List.mem_cons_self)
theorem sorted_asc {l : List Str} (h : sortedS l = true) (nd : l.Nodup) : ascL l = true := by
  cases l with
  | nil => rfl
  | cons x l => exact rise_asc l x h nd
theorem asc_sorted_eq {ys zs : List Str} (nd : zs.Nodup) (h : sortedS zs = true) (m : ∀ k, k ∈ zs ↔ k ∈ ys) : ascL ys = decide (ys = zs) := by
  have az := sorted_asc h nd
  cases ha : ascL ys with
  | true => exact (decide_eq_true (pair_uniq ys zs (asc_pair _ ha) (asc_pair _ az) fun k => (m k).symm)).symm
  | false => exact (decide_eq_false fun e => by rw [e, az] at ha; cases ha).symm

section
variable {P : Program} {w : World} {K : PySem.W.Frag} {mg : Str → Option Value} {base : Heap}
/-- a value whose kind is known, a text of few signs -/
def Flat (K : PySem.W.Frag) (H : Hp) (v : V) : Prop := ∃ t, Kd K H v t ∧ ∀ x, v = .str x → x.length ≤ 1000
theorem Flat.same {H H' : Hp} {v : V} (s : Same H H') (h : Flat K H v) : Flat K H' v := by
  obtain ⟨t, hk, hl⟩ := h
  exact ⟨t, hk.same s, hl⟩
/-- what both say of a set: b -/
def SetAns (K : PySem.W.Frag) (H : Hp) (v : V) (b : Bool) : Prop := ∃ t, Kd K H v t ∧
  ((t ≠ "tuple" ∧ b = false) ∨ (t = "tuple" ∧ ∃ a xs, v = .ref a ∧ H a = some (.tup xs) ∧ xs.length ≤ 900 ∧ (∀ x ∈ xs, Flat K H x) ∧ b = setVs xs))
def spSet (K : PySem.W.Frag) : Sp := fun vs H Q _ => ∃ (v : V) (b : Bool), vs = [v] ∧ SetAns K H v b ∧ ∀ H', Same H H' → Q (.bl b) H'
theorem name_str {v : V} (h : nameV v = true) : v = .str (strOf v) := by
  cases v <;> first | rfl | cases h
theorem names_strs : ∀ {xs : List V}, xs.all nameV = true → xs = (xs.map strOf).map V.str
  | [], _ => rfl
  | x :: xs, h => by
    rw [List.all_cons, Bool.and_eq_true] at h
    rw [List.map_cons, List.map_cons, ← name_str h.1, ← names_strs h.2]
theorem asc_zip : ∀ ys : List Str, (List.zipWith ltS ys (ys.drop 1)).all id = ascL ys
  | [] => rfl
  | [_] => rfl
  | x :: y :: r => by
    have ih := asc_zip (y :: r)
    show (ltS x y :: List.zipWith ltS (y :: r) ((y :: r).drop 1)).all id = (ltS x y && ascL (y :: r))
    rw [List.all_cons, ih]; rfl
theorem cut_one (xs : List V) : cutV xs (some 1) none = xs.drop 1 := by
  unfold cutV
  rw [show HT.sIx xs.length 0 (some 1) = min 1 xs.length from HT.sIx_nat xs.length 0 1, HT.sIx_none]
  cases xs with
  | nil => rfl
  | cons x r =>
    rw [show min 1 (x :: r).length = 1 by rw [List.length_cons]; omega]
    show List.take ((x :: r).length - 1) r = r
    rw [List.length_cons, Nat.add_sub_cancel]
    exact List.take_length

theorem ok_is_set (D : DefAt K mg "is_set" s_is_set) (M : Txt mg) (C_is_name : Gc P w K mg base CX0 1 "is_name" (spName K)) :
    Gc P w K mg base CX0 2 "is_set" (spSet K) := by
  refine D.ok0 sc_is_set (fun kV doc pm an cdv ct us hl => match us, hl with | [_], _ => rfl) (fun vs H Q E h => by obtain ⟨v, t, rfl, _⟩ := h; rfl)
    (fun f cdv A outer s H vs Q E hr h => ?_)
  have nd := sc_is_set.nd
  obtain ⟨v, b, rfl, ⟨t, hk, ans⟩, q⟩ := h
  refine ⟨_, (pss_cons (ps_if (PW.pt (pw_or (pt_not (pt_val (pe_callB call_isa (by rfl) M.isinstance (by decide +kernel) (pa_cons (pv 0) (pa_cons (pe_bltn (v := .ty "tuple") (by rfl) M.tuple (by decide +kernel) rfl) pa_nil))))) (pw_or1 (pt_not (pt_val (pe_callB (cr_all rfl) (by rfl) M.all (by decide +kernel) (pa_cons (pe_lc (own := [("name", 1)]) (by rfl) nd (pi_tup (pv 0)) (blkOk_by (own := [("name", 1)]) (N := NN_is_set) (sc := defScope s_is_set) (by decide +kernel)) (fun _ _ _ _ _ => pg_name (i := 1) nd rfl (Or.inl rfl)) (fun _ _ _ _ _ => pts_nil) (fun _ _ _ _ _ => (pe_g C_is_name hr (by decide) (by rfl) pass0 (pa_cons (pv 1) pa_nil)))) pa_nil)))))))
      (pss_one (ps_ret pe_bl)) pss_nil)
      (pss_one (ps_ret (pe_callB (cr_all rfl) (by rfl) M.all (by decide +kernel) (pa_cons (pe_lc (own := [("one", 2), ("other", 3)]) (g := gTup K 2 (gCons (gName 2) (gCons (gName 3) gNil))) (by rfl) nd (RZ.pi_zipA (by rfl) M.zip (pa_cons (pv 0) (pa_cons (pe_slice sl_tupA (pv 0) (po_some pe_int) po_none) pa_nil))) (blkOk_by (own := [("one", 2), ("other", 3)]) (N := NN_is_set) (sc := defScope s_is_set) (by decide +kernel)) (fun _ _ _ _ _ => (pg_tup (n := 2) rfl (pgs_cons (pg_name (i := 2) nd rfl (Or.inl rfl) (hf := Or.inr rfl)) (pgs_cons (pg_name (i := 3) nd rfl (Or.inl rfl) (hf := Or.inr rfl)) pgs_nil)))) (fun _ _ _ _ _ => pts_nil) (fun _ _ _ _ _ => (pe_cmpR op_lt_str (pv 2) (pv 3) (nomark _)))) pa_nil))))), ?_⟩
  refine ⟨_, rfl, _, t, "tuple", rfl, by decide, hk, _, rfl, ?_⟩
  rcases ans with ⟨nt, rfl⟩ | ⟨rfl, a, xs, rfl, ha, few, flat, rfl⟩
  · rw [isa_not nt (by decide)]
    exact iteT (iteT (q _ (Same.refl H)))
  · refine iteF ?_
    -- all([is_name(name) for name in value])
    have sq : ∀ {H1 : Hp}, Same H H1 → SqT K H1 a xs := fun sm => .inl (.inl (sm _ _ ha))
    refine ⟨_, rfl, a, rfl, ⟨_, sq (Same.refl H)⟩, fun D nD => ?_⟩
    refine lc_tup (K := K) (a := a) (xs := xs) (fun i H1 => Same H H1 ∧ H1 D = some (.lst ((xs.take i).map fun x => V.bl (nameV x)))) ⟨same_new (Same.refl H) nD, upd_same⟩
      (fun i H1 _ hp => sq hp.1) (fun i x H1 hx hp => ?_) (fun H1 hp => ?_)
    · obtain ⟨sm, e⟩ := hp
      obtain ⟨tx, kx, lx⟩ := (flat x (List.mem_of_getElem? hx)).same sm
      have hi : i < xs.length := (List.getElem?_eq_some_iff.mp hx).1
      refine turn_yes rfl ?_
      refine ⟨_, rfl, x, tx, rfl, kx, lx, fun H2 sm2 => ?_⟩
      refine ⟨_, sm2 _ _ e, ?_, same_mut (sm.trans sm2) nD, ?_⟩
      · rw [List.length_map, List.length_take]
        exact szl (by omega)
      · rw [upd_same, List.take_add_one, hx, List.map_append]; rfl
    · obtain ⟨sm, e⟩ := hp
      rw [List.take_length] at e
      refine ⟨D, xs.map nameV, rfl, .inl (.inl (by rw [List.map_map]; exact e)), _, rfl, ?_⟩
      have ean : (xs.map nameV).all id = xs.all nameV := by rw [List.all_map]; rfl
      rw [ean]
      cases an : xs.all nameV with
      | false =>
        refine iteT ?_
        have eb : setVs xs = false := by unfold setVs; rw [an]; rfl
        rw [eb] at q
        exact q _ sm
      | true =>
        refine iteF ?_
        have es := names_strs an
        generalize hy : xs.map strOf = ys at es
        have eb : setVs xs = (List.zipWith ltS ys (ys.drop 1)).all id := by
          unfold setVs
          rw [an, hy, asc_zip]; rfl
        -- value[1:]
        have ezl : (List.zipWith ltS ys (ys.drop 1)).length = min xs.length (xs.drop 1).length := by
          rw [List.length_zipWith, es, List.length_map, ← List.map_drop, List.length_map]
        refine ⟨_, rfl, _, rfl, 1, rfl, a, xs, rfl, sq sm, fun whole => ?_, fun _ c nc => ?_⟩
        · have x0 : xs = [] := by
            have h1 := whole.1
            rw [show HT.sIx xs.length 0 (some 1) = min 1 xs.length from HT.sIx_nat xs.length 0 1] at h1
            cases hx : xs with
            | nil => rfl
            | cons x r =>
              rw [hx, List.length_cons] at h1
              omega
          have dr : xs.drop 1 = xs := by rw [x0]; rfl
          have sm2 := sm
          have hc : ∀ {H3 : Hp}, Same H1 H3 → SqT K H3 a (xs.drop 1) := fun s3 => by rw [dr]; exact sq (sm.trans s3)
          refine ⟨a, a, xs, xs.drop 1, rfl, .inr ⟨sq sm2, hc (Same.refl _), fun D2 nD2 => ?_⟩⟩
          refine lc_zipT (K := K) (a := a) (b := a) (xs := xs) (ys := xs.drop 1) (fun i H3 => Same H H3 ∧ Same H1 H3 ∧ H3 D2 = some (.lst (((List.zipWith ltS ys (ys.drop 1)).take i).map V.bl)))
            ⟨same_new sm2 nD2, same_new (Same.refl _) nD2, upd_same⟩ (fun i H3 hp => ⟨sq hp.1, hc hp.2.1⟩) (fun i x y H3 T hx hy' hp nT => ?_) (fun H3 hp => ?_)
          · obtain ⟨s1, s2, e3⟩ := hp
            have fD : H D2 = none := sm2.free nD2
            have gx : ∃ x', ys[i]? = some x' ∧ x = .str x' := by
              rw [es, List.getElem?_map] at hx
              cases h : ys[i]? with
              | none => rw [h] at hx; cases hx
              | some x' => rw [h] at hx; exact ⟨x', rfl, (Option.some.inj hx).symm⟩
            have gy : ∃ y', (ys.drop 1)[i]? = some y' ∧ y = .str y' := by
              rw [es, ← List.map_drop, List.getElem?_map] at hy'
              cases h : (ys.drop 1)[i]? with
              | none => rw [h] at hy'; cases hy'
              | some x' => rw [h] at hy'; exact ⟨x', rfl, (Option.some.inj hy').symm⟩
            obtain ⟨x', ex, rfl⟩ := gx
            obtain ⟨y', ey, rfl⟩ := gy
            have ez : (List.zipWith ltS ys (ys.drop 1))[i]? = some (ltS x' y') := by rw [List.getElem?_zipWith, ex, ey]
            have iz : i < (List.zipWith ltS ys (ys.drop 1)).length := (List.getElem?_eq_some_iff.mp ez).1
            have nTD : D2 ≠ T := ne_of_none e3 nT
            refine ⟨T, _, rfl, .inl (.inl upd_same), rfl, _, _, rfl, _, _, rfl, rfl, rfl, ?_⟩
            refine ⟨_, rfl, _, rfl, _, _, rfl, rfl, _, (upd_ne nTD).trans e3, ?_, same_mut (same_new s1 nT) fD, same_mut (same_new s2 nT) nD2, ?_⟩
            · rw [List.length_map, List.length_take]
              rw [ezl] at iz
              exact szl (by omega)
            · rw [upd_same, List.take_add_one, ez, List.map_append]; rfl
          · obtain ⟨s1, s2, e3⟩ := hp
            rw [← ezl, List.take_length] at e3
            refine ⟨D2, List.zipWith ltS ys (ys.drop 1), rfl, .inl (.inl e3), ?_⟩
            rw [← eb]
            exact q _ s1
        · have sm2 : Same H (upd H1 c (.tup (cutV xs (some 1) none))) := same_new sm nc
          have hc : ∀ {H3 : Hp}, Same (upd H1 c (.tup (cutV xs (some 1) none))) H3 → SqT K H3 c (xs.drop 1) := fun s3 => .inl (.inl (s3 _ _ (by rw [upd_same, cut_one])))
          refine ⟨a, c, xs, xs.drop 1, rfl, .inr ⟨sq sm2, hc (Same.refl _), fun D2 nD2 => ?_⟩⟩
          refine lc_zipT (K := K) (a := a) (b := c) (xs := xs) (ys := xs.drop 1) (fun i H3 => Same H H3 ∧ Same (upd H1 c (.tup (cutV xs (some 1) none))) H3 ∧ H3 D2 = some (.lst (((List.zipWith ltS ys (ys.drop 1)).take i).map V.bl)))
            ⟨same_new sm2 nD2, same_new (Same.refl _) nD2, upd_same⟩ (fun i H3 hp => ⟨sq hp.1, hc hp.2.1⟩) (fun i x y H3 T hx hy' hp nT => ?_) (fun H3 hp => ?_)
          · obtain ⟨s1, s2, e3⟩ := hp
            have fD : H D2 = none := sm2.free nD2
            have gx : ∃ x', ys[i]? = some x' ∧ x = .str x' := by
              rw [es, List.getElem?_map] at hx
              cases h : ys[i]? with
              | none => rw [h] at hx; cases hx
              | some x' => rw [h] at hx; exact ⟨x', rfl, (Option.some.inj hx).symm⟩
            have gy : ∃ y', (ys.drop 1)[i]? = some y' ∧ y = .str y' := by
              rw [es, ← List.map_drop, List.getElem?_map] at hy'
              cases h : (ys.drop 1)[i]? with
              | none => rw [h] at hy'; cases hy'
              | some x' => rw [h] at hy'; exact ⟨x', rfl, (Option.some.inj hy').symm⟩
            obtain ⟨x', ex, rfl⟩ := gx
            obtain ⟨y', ey, rfl⟩ := gy
            have ez : (List.zipWith ltS ys (ys.drop 1))[i]? = some (ltS x' y') := by rw [List.getElem?_zipWith, ex, ey]
            have iz : i < (List.zipWith ltS ys (ys.drop 1)).length := (List.getElem?_eq_some_iff.mp ez).1
            have nTD : D2 ≠ T := ne_of_none e3 nT
            refine ⟨T, _, rfl, .inl (.inl upd_same), rfl, _, _, rfl, _, _, rfl, rfl, rfl, ?_⟩
            refine ⟨_, rfl, _, rfl, _, _, rfl, rfl, _, (upd_ne nTD).trans e3, ?_, same_mut (same_new s1 nT) fD, same_mut (same_new s2 nT) nD2, ?_⟩
            · rw [List.length_map, List.length_take]
              rw [ezl] at iz
              exact szl (by omega)
            · rw [upd_same, List.take_add_one, ez, List.map_append]; rfl
          · obtain ⟨s1, s2, e3⟩ := hp
            rw [← ezl, List.take_length] at e3
            refine ⟨D2, List.zipWith ltS ys (ys.drop 1), rfl, .inl (.inl e3), ?_⟩
            rw [← eb]
            exact q _ s1

theorem dp_strs {H : Hp} : ∀ ys : List Str, DpAll K H (ys.map V.str) (ys.map PyData.str)
  | [] => .nil
  | y :: ys => .cons (.str y) (dp_strs ys)
theorem lay_strs : ∀ ys : List Str, (∀ y ∈ ys, PyData.strOk y = true) → PyData.canLayAll0 (ys.map PyData.str) = true
  | [], _ => by simp only [List.map_nil, PyData.canLayAll0]
  | y :: ys, h => by
    rw [List.map_cons]
    simp only [PyData.canLayAll0, PyData.canLay0, lay_strs ys fun z hz => h z (List.mem_cons_of_mem _ hz), h y List.mem_cons_self, Bool.and_self]
theorem name_ok {y : Str} (h : nameS y = true) : PyData.strOk y = true := by
  unfold nameS at h
  obtain ⟨_, h⟩ := Bool.and_eq_true_iff.mp h
  unfold PyData.strOk
  rw [← Array.all_toList, List.all_eq_true]
  intro c hc
  have hl := (List.all_eq_true.mp h) c hc
  unfold lowC at hl
  obtain ⟨_, h2⟩ := Bool.and_eq_true_iff.mp hl
  have h2 := of_decide_eq_true h2
  exact decide_eq_true (by omega)
theorem depth_strs : ∀ ys : List Str, PyData.depthAll (ys.map PyData.str) ≤ 1
  | [] => by simp only [List.map_nil, PyData.depthAll]; omega
  | y :: ys => by
    rw [List.map_cons]
    have ih := depth_strs ys
    simp only [PyData.depthAll, PyData.depth]
    omega
theorem shaped_strs (ys : List Str) (ok : ∀ y ∈ ys, PyData.strOk y = true) : SeqAt.shaped (.list (ys.map PyData.str)) = true := by
  unfold SeqAt.shaped
  have h := depth_strs ys
  simp only [PyData.canLay0, PyData.depth, lay_strs ys ok, Bool.true_and]
  exact decide_eq_true (by omega)
theorem eqv_strs : ∀ ys zs : List Str, PyData.eqvAll (ys.map PyData.str) (zs.map PyData.str) = decide (ys = zs)
  | [], [] => by simp only [List.map_nil, PyData.eqvAll]; rfl
  | [], z :: zs => by simp only [List.map_nil, List.map_cons, PyData.eqvAll]; exact (decide_eq_false (by simp)).symm
  | y :: ys, [] => by simp only [List.map_nil, List.map_cons, PyData.eqvAll]; exact (decide_eq_false (by simp)).symm
  | y :: ys, z :: zs => by
    have ih := eqv_strs ys zs
    simp only [List.map_cons, PyData.eqvAll, PyData.eqv, ih]
    by_cases e : y = z
    · subst e
      simp
    · have : (y == z) = false := beq_eq_false_iff_ne.mpr e
      rw [this, Bool.false_and]
      exact (decide_eq_false fun q => e (by injection q)).symm

theorem ok_L_is_set (D : DefAt K mg "_law_is_set" s_L_is_set) (M : Txt mg) (C_L_spelled : Gc P w K mg base CX0 1 "_law_spelled" (spName K)) :
    Gc P w K mg base CX0 2 "_law_is_set" (spSet K) := by
  refine D.ok0 sc_L_is_set (fun kV doc pm an cdv ct us hl => match us, hl with | [_], _ => rfl) (fun vs H Q E h => by obtain ⟨v, t, rfl, _⟩ := h; rfl)
    (fun f cdv A outer s H vs Q E hr h => ?_)
  have nd := sc_L_is_set.nd
  obtain ⟨v, b, rfl, ⟨t, hk, ans⟩, q⟩ := h
  refine ⟨_, (pss_cons (ps_if (PW.pt (pw_or (pt_not (pt_val (pe_callB call_isa (by rfl) M.isinstance (by decide +kernel) (pa_cons (pv 0) (pa_cons (pe_bltn (v := .ty "tuple") (by rfl) M.tuple (by decide +kernel) rfl) pa_nil))))) (pw_or1 (pt_cmpR (op_neE hr) (pe_lc (own := [("_law_name", 1)]) (by rfl) nd (pi_tup (pv 0)) (blkOk_by (own := [("_law_name", 1)]) (N := NN_L_is_set) (sc := defScope s_L_is_set) (by decide +kernel)) (fun _ _ _ _ _ => pg_name (i := 1) nd rfl (Or.inl rfl)) (fun _ _ _ _ _ => pts_one (pt_not (pt_val (pe_g C_L_spelled hr (by decide) (by rfl) pass0 (pa_cons (pv 1) pa_nil))))) (fun _ _ _ _ _ => (pv 1))) (pe_lst pa_nil) (nomark _)))))
      (pss_one (ps_ret pe_bl)) pss_nil)
      (pss_one (ps_ret (pe_cmpR (op_eqD hr.u64) (pe_callTy call_list_of (by rfl) M.list (by decide +kernel) (pa_cons (pv 0) pa_nil)) (pe_callB (call_sortedSetT rfl) (by rfl) M.sorted (by decide +kernel) (pa_cons (pe_callTy (call_setTup rfl) (by rfl) M.set (by decide +kernel) (pa_cons (pv 0) pa_nil)) pa_nil)) (nomark _))))), ?_⟩
  refine ⟨_, rfl, _, t, "tuple", rfl, by decide, hk, _, rfl, ?_⟩
  rcases ans with ⟨nt, rfl⟩ | ⟨rfl, a, xs, rfl, ha, few, flat, rfl⟩
  · rw [isa_not nt (by decide)]
    exact iteT (iteT (q _ (Same.refl H)))
  · refine iteF ?_
    have sq : ∀ {H1 : Hp}, Same H H1 → SqT K H1 a xs := fun sm => .inl (.inl (sm _ _ ha))
    -- [name for name in value if not spelled(name)]
    refine ⟨_, rfl, a, rfl, ⟨_, sq (Same.refl H)⟩, fun D nD => ?_⟩
    refine lc_tup (K := K) (a := a) (xs := xs) (fun i H1 => Same H H1 ∧ H1 D = some (.lst ((xs.take i).filter fun x => !nameV x))) ⟨same_new (Same.refl H) nD, upd_same⟩
      (fun i H1 _ hp => sq hp.1) (fun i x H1 hx hp => ?_) (fun H1 hp => ?_)
    · obtain ⟨sm, e⟩ := hp
      obtain ⟨tx, kx, lx⟩ := (flat x (List.mem_of_getElem? hx)).same sm
      have hi : i < xs.length := (List.getElem?_eq_some_iff.mp hx).1
      refine ⟨rfl, ?_⟩
      refine ⟨_, rfl, x, tx, rfl, kx, lx, fun H2 sm2 => ?_⟩
      refine ⟨_, rfl, ?_⟩
      have e2 := sm2 _ _ e
      cases hb : nameV x with
      | true =>
        refine iteF ⟨sm.trans sm2, ?_⟩
        rw [e2, List.take_add_one, hx, List.filter_append]
        show _ = some (HO.lst (_ ++ List.filter (fun x => !nameV x) [x]))
        rw [List.filter_cons, hb, if_neg (by simp), List.filter_nil, List.append_nil]
      | false =>
        refine iteT ⟨_, rfl, _, e2, ?_, same_mut (sm.trans sm2) nD, ?_⟩
        · have a1 := List.length_filter_le (fun x => !nameV x) (xs.take i)
          rw [List.length_take] at a1
          exact szl (by omega)
        · rw [upd_same, List.take_add_one, hx, List.filter_append]
          show _ = some (HO.lst (_ ++ List.filter (fun x => !nameV x) [x]))
          rw [List.filter_cons, hb, if_pos (by simp), List.filter_nil]
    · obtain ⟨sm, e⟩ := hp
      rw [List.take_length] at e
      refine ⟨Nat.zero_le _, fun o no => ?_⟩
      have eD : upd H1 o (.lst []) D = _ := (upd_ne (ne_of_none e no)).trans e
      have sm1 : Same H (upd H1 o (.lst [])) := same_new sm no
      refine ⟨D, o, _, rfl, rfl, .inl (.inl eD), .inl (.inl upd_same), _, rfl, ?_⟩
      have ef : ∀ l : List V, (l.filter fun x => !nameV x).isEmpty = l.all nameV := by
        intro l
        induction l with
        | nil => rfl
        | cons x l ih =>
          rw [List.filter_cons, List.all_cons]
          cases nameV x with
          | true => rw [if_neg (by simp), ih]; rfl
          | false => rw [if_pos (by simp)]; rfl
      show if (if true = true then !(xs.filter fun x => !nameV x).isEmpty else _) = true then _ else _
      rw [if_pos rfl, ef]
      cases an : xs.all nameV with
      | false =>
        refine iteT ?_
        have eb : setVs xs = false := by unfold setVs; rw [an]; rfl
        rw [eb] at q
        exact q _ sm1
      | true =>
        refine iteF ?_
        have es := names_strs an
        generalize hy : xs.map strOf = ys at es
        -- list(value) == sorted(set(value))
        refine ⟨_, rfl, a, xs, rfl, .inr (sq sm1), fun l nl => ?_⟩
        have sm2 : Same H (upd (upd H1 o (.lst [])) l (.lst xs)) := same_new sm1 nl
        refine ⟨_, rfl, a, ys, rfl, ?_, ?_, fun p n np le => ?_⟩
        · rw [← es]; exact sq sm2
        · have : ys.length = xs.length := by rw [← hy, List.length_map]
          omega
        have lim : n ≤ 1000 := by
          have : ys.length = xs.length := by rw [← hy, List.length_map]
          omega
        refine ⟨p, _, n, rfl, upd_same, lim, fun zs r nodup srt mem lz nr => ?_⟩
        have sm3 : Same H (upd (upd (upd H1 o (.lst [])) l (.lst xs)) p (SetTO w p (fun j => decide (j ∈ ys)) n)) := same_new sm2 np
        have el : upd (upd (upd (upd H1 o (.lst [])) l (.lst xs)) p (SetTO w p (fun j => decide (j ∈ ys)) n)) r (.lst (zs.map V.str)) l = some (.lst (ys.map V.str)) := by
          have lp : l ≠ p := ne_of_none upd_same np
          have e1 : upd (upd (upd H1 o (.lst [])) l (.lst xs)) p (SetTO w p (fun j => decide (j ∈ ys)) n) l = some (.lst xs) := by rw [upd_ne lp, upd_same]
          rw [upd_ne (ne_of_none e1 nr), e1, ← es]
        have oky : ∀ y ∈ ys, PyData.strOk y = true := fun y hy' => by
          have hm : V.str y ∈ xs := by rw [es]; exact List.mem_map.mpr ⟨y, hy', rfl⟩
          exact name_ok ((List.all_eq_true.mp an) _ hm)
        refine ⟨.list (ys.map .str), .list (zs.map .str), .lst (.inl (.inl el)) (dp_strs ys), .lst (.inl (.inl upd_same)) (dp_strs zs), shaped_strs ys oky, shaped_strs zs (fun z hz => oky z (of_decide_eq_true ((mem z).mp hz))), ?_⟩
        have eb : setVs xs = PyData.eqv (.list (ys.map .str)) (.list (zs.map .str)) := by
          have m : ∀ k, k ∈ zs ↔ k ∈ ys := fun k => (mem k).trans decide_eq_true_iff
          simp only [PyData.eqv]
          rw [eqv_strs, ← asc_sorted_eq nodup srt m]
          unfold setVs
          rw [an, hy]; rfl
        rw [← eb]
        exact q _ (same_new sm3 nr)
end
end K00
set_option Elab.async false
set_option linter.all false
set_option maxRecDepth 100000
set_option maxHeartbeats 4000000
/-! names that are drawn -/
namespace K00
open PySem PySem.Spec PyProof.Rows L2 Wk

/-! ### the mathematics -/
theorem joinL_len : ∀ ps : List (List Nat), (TL.joinL [] ps).length = (ps.map List.length).sum
  | [] => rfl
  | [p] => by simp [TL.joinL]
  | p :: q :: r => by
    have ih := joinL_len (q :: r)
    show (p ++ ([] ++ TL.joinL [] (q :: r))).length = _
    rw [List.nil_append, List.length_append, ih]
    simp only [List.map_cons, List.sum_cons]
theorem join_len (ys : List Str) : (Txt.join Str.empty ys).length = (ys.map (·.length)).sum := by
  have h := joinL_len (ys.map TL.tl)
  have e : TL.tl (Str.join Str.empty ys) = TL.joinL [] (ys.map TL.tl) := TL.tl_join Str.empty ys
  rw [← e, List.map_map] at h
  rw [TL.join_eq]
  have e1 : (TL.tl (Str.join Str.empty ys)).length = (Str.join Str.empty ys).length := by
    show (Str.join Str.empty ys).cps.toList.length = _
    rw [Array.length_toList]; rfl
  rw [e1] at h
  rw [h]
  congr 1
theorem cut_len (z : Str) (lo hi : Option Int) : (cutS z lo hi).length ≤ z.length := by
  unfold cutS
  show (List.toArray _).size ≤ z.cps.size
  rw [List.size_toArray, List.length_take, List.length_drop, Array.length_toList]
  omega
theorem signs_len (cs : List Nat) : ((cs.map fun c => (⟨#[c]⟩ : Str)).map (·.length)).sum = cs.length := by
  induction cs with
  | nil => rfl
  | cons c cs ih =>
    rw [List.map_cons, List.map_cons, List.sum_cons, ih, List.length_cons]
    show 1 + cs.length = _
    omega
theorem perm_pop {ws : List V} {k : Nat} {y : V} (h : ws[k]? = some y) : (y :: ws.eraseIdx k).Perm ws := by
  exact L2.erase_perm ws k y h

theorem seqIx {j n : Nat} (h : j < n) : seqIndex? (j : Int) n = some j :=
  (L2.ixN_seq (by unfold L2.ixN; rw [if_pos (by omega), if_pos (by omega)]; simp)).1
section
variable {P : Program} {w : World} {K : PySem.W.Frag} {mg : Str → Option Value} {base : Heap}
/-- the signs of a text in some order -/
def spOrder : Sp := fun vs H Q _ => ∃ (m : Addr) (x : Str), vs = [.ref m, .str x] ∧ Ml H m ∧ x.length ≤ 900 ∧
  ∀ H' p ys, Kp m H H' → H p = none → H' p = some (.lst ys) → ys.Perm (signsV x) → Q (.ref p) H'
theorem ok_L_order (D : DefAt K mg "_law_order" s_L_order) (M : Txt mg) (C_L_grain : Gc P w K mg base CX0 1 "_law_grain" spGrain) :
    Gc P w K mg base CX0 2 "_law_order" spOrder := by
  refine D.ok0 sc_L_order (fun kV doc pm an cdv ct us hl => match us, hl with | [_, _], _ => rfl) (fun vs H Q E h => by obtain ⟨m, t, rfl, _⟩ := h; rfl)
    (fun f cdv A outer s H vs Q E hr h => ?_)
  have nd := sc_L_order.nd
  obtain ⟨m, x, rfl, ml, few, q⟩ := h
  refine ⟨_, (pss_cons (ps_set (i := 2) nd rfl (Or.inr rfl) (pe_callTy call_listS (by rfl) M.list (by decide +kernel) (pa_cons (pv 1) pa_nil)))
      (pss_one (ps_ret (pe_lc (own := [("_law_turn", 3)]) (by rfl) nd (pi_range1 (by rfl) M.range (pa_cons (pe_callB (call_len_strK rfl) (by rfl) M.len (by decide +kernel) (pa_cons (pv 1) pa_nil)) pa_nil)) (blkOk_by (own := [("_law_turn", 3)]) (N := NN_L_order) (sc := defScope s_L_order) (by decide +kernel)) (fun _ _ _ _ _ => pg_name (i := 3) nd rfl (Or.inl rfl)) (fun _ _ _ _ _ => pts_nil) (fun _ _ _ _ _ => (pe_bmK (K := K) rfl PySem.F.plainAttrs_list PySem.F.slot_list_pop PySem.F.type_list_pop mt_popAt (pv 2) (pa_cons (pe_g C_L_grain hr (by decide) (by rfl) pass0 (pa_cons (pv 0) (pa_cons (pe_callB (call_len_seqK (K := K) rfl) (by rfl) M.len (by decide +kernel) (pa_cons (pv 2) pa_nil)) pa_nil))) pa_nil))))))), ?_⟩
  refine ⟨_, rfl, x, rfl, sz1000 (by omega), rfl, fun l nl => ?_⟩
  have lm : l ≠ m := ml.ne nl
  have k1 : Kp m H (upd H l (.lst (signsV x))) := (Kp.refl ml).new nl
  have lenS : (signsV x).length = x.length := by unfold signsV; rw [List.length_map, Array.length_toList]; rfl
  refine ⟨_, rfl, x, rfl, sz1000 (by omega), x.length, rfl, by omega, by omega, fun D nD => ?_⟩
  have nDH : H D = none := k1.free nD
  have Dm : D ≠ m := ml.ne nDH
  have lD : l ≠ D := ne_of_none upd_same nD
  refine lc_range (lo := 0) (n := x.length) (fun i H2 => Kp m H H2 ∧ ∃ ws acc, H2 l = some (.lst ws) ∧ H2 D = some (.lst acc) ∧ (acc ++ ws).Perm (signsV x) ∧ acc.length = i)
    ⟨k1.new nD, signsV x, [], by rw [upd_ne lD, upd_same], upd_same, by rw [List.nil_append], rfl⟩ (fun i H2 hi hp => ?_) (fun H2 hp => ?_)
  · obtain ⟨k2, ws, acc, el, eD, pm, la⟩ := hp
    have lw : ws.length = x.length - i := by
      have := pm.length_eq
      rw [List.length_append, lenS] at this
      omega
    refine turn_yes rfl ?_
    refine ⟨_, rfl, .inl ⟨rfl, _, .inl (.inl el)⟩, ?_⟩
    refine ⟨_, rfl, _, rfl, l, ws, rfl, .inl (.inl (.inl el)), m, ws.length, rfl, k2.ml, by omega, by omega, fun H3 r k3 r0 r1 => ?_⟩
    obtain ⟨j, rfl⟩ := Int.eq_ofNat_of_zero_le r0
    have jw : j < ws.length := by omega
    have el3 := k3.keep _ _ lm el
    have eD3 := k3.keep _ _ Dm eD
    have ej : ws[j]? = some ws[j] := List.getElem?_eq_getElem jw
    refine ⟨l, ws, j, j, ws[j], rfl, rfl, el3, by omega, by omega, ?_, ej, ?_⟩
    · exact seqIx jw
    · refine ⟨acc, by rw [upd_ne lD.symm]; exact eD3, ?_, ?_, ws.eraseIdx j, acc ++ [ws[j]], ?_, upd_same, ?_, ?_⟩
      · rw [la]; exact szl (by omega)
      · exact ((k2.trans k3).mut nl lm).mut nDH Dm
      · rw [upd_ne lD, upd_same]
      · rw [List.append_assoc, List.singleton_append]
        exact ((perm_pop ej).append_left acc).trans pm
      · rw [List.length_append, la]; rfl
  · obtain ⟨k2, ws, acc, el, eD, pm, la⟩ := hp
    have lw : ws = [] := by
      have := pm.length_eq
      rw [List.length_append, lenS] at this
      exact List.eq_nil_of_length_eq_zero (by omega)
    rw [lw, List.append_nil] at pm
    exact q H2 D acc k2 nDH eD pm

/-- names that are drawn: so many texts -/
def spManyNames : Sp := fun vs H Q _ => ∃ (m : Addr) (much : Nat), vs = [.ref m, .int much] ∧ Ml H m ∧ much ≤ 26 ∧
  ∀ H' p (ys : List Str), Kp m H H' → H p = none → H' p = some (.lst (ys.map V.str)) → ys.length = much → (∀ y ∈ ys, y.length ≤ 20) → Q (.ref p) H'
theorem ok_L_many_names (D : DefAt K mg "_law_many_names" s_L_many_names) (M : Txt mg) (C_L_grain : Gc P w K mg base CX0 1 "_law_grain" spGrain)
    (C_L_letter : Gc P w K mg base CX0 2 "_law_letter" spLetter) (C_L_order : Gc P w K mg base CX0 2 "_law_order" spOrder) :
    Gc P w K mg base CX0 3 "_law_many_names" spManyNames := by
  refine D.ok0 sc_L_many_names (fun kV doc pm an cdv ct us hl => match us, hl with | [_, _], _ => rfl) (fun vs H Q E h => by obtain ⟨m, t, rfl, _⟩ := h; rfl)
    (fun f cdv A outer s H vs Q E hr h => ?_)
  have nd := sc_L_many_names.nd
  obtain ⟨m, much, rfl, ml, few, q⟩ := h
  refine ⟨_, (pss_cons (ps_par3 (i := 2) (j := 3) (l := 4) (by rfl) nd rfl rfl rfl (by decide) (by decide) (by decide) rfl rfl rfl (pa_cons (pe_joinK (K := K) rfl pe_str (pe_lc (own := [("_law_at", 5)]) (by rfl) nd (pi_range1 (by rfl) M.range (pa_cons (pe_g C_L_grain hr (by decide) (by rfl) pass0 (pa_cons (pv 0) (pa_cons pe_int pa_nil))) pa_nil)) (blkOk_by (own := [("_law_at", 5)]) (N := NN_L_many_names) (sc := defScope s_L_many_names) (by decide +kernel)) (fun _ _ _ _ _ => pg_name (i := 5) nd rfl (Or.inl rfl)) (fun _ _ _ _ _ => pts_nil) (fun _ _ _ _ _ => (pe_g C_L_letter hr (by decide) (by rfl) pass0 (pa_cons (pv 0) pa_nil))))) (pa_cons (pe_g C_L_grain hr (by decide) (by rfl) pass0 (pa_cons (pv 0) (pa_cons pe_int pa_nil))) (pa_cons (pe_lst pa_nil) pa_nil))) (by rfl))
      (pss_cons (ps_set (i := 6) nd rfl (Or.inl rfl) (pe_g C_L_grain hr (by decide) (by rfl) pass0 (pa_cons (pv 0) (pa_cons (pe_op op_add (pe_callB (call_len_strK rfl) (by rfl) M.len (by decide +kernel) (pa_cons (pv 2) pa_nil)) pe_int) pa_nil))))
      (pss_cons (ps_for PassesOwn.never rfl (pi_list (pe_slice (sl_listK (K := K) rfl) (pe_g C_L_order hr (by decide) (by rfl) pass0 (pa_cons (pv 0) (pa_cons pe_str pa_nil))) po_none (po_some (pv 1)))) (pg_name (i := 7) nd rfl (Or.inl rfl))
      (pss_one (ps_if (pt_cmpR op_eq (pv 3) pe_int (nomark _))
      (pss_one (ps_expr (pe_bmK (K := K) rfl PySem.F.plainAttrs_list PySem.F.slot_list_append PySem.F.type_list_append mt_append (pv 4) (pa_cons (pe_op op_add_str (pe_op op_add_str (pe_slice sl_str (pv 2) po_none (po_some (pv 6))) (pv 7)) (pe_slice sl_str (pv 2) (po_some (pv 6)) po_none)) pa_nil)))) (pss_one (ps_if (pt_cmpR op_eq (pv 3) pe_int (nomark _))
      (pss_one (ps_expr (pe_bmK (K := K) rfl PySem.F.plainAttrs_list PySem.F.slot_list_append PySem.F.type_list_append mt_append (pv 4) (pa_cons (pe_op op_add_str (pv 7) (pe_slice sl_str (pv 2) po_none (po_some (pe_g C_L_grain hr (by decide) (by rfl) pass0 (pa_cons (pv 0) (pa_cons (pe_op op_add (pe_callB (call_len_strK rfl) (by rfl) M.len (by decide +kernel) (pa_cons (pv 2) pa_nil)) pe_int) pa_nil)))))) pa_nil)))) (pss_one (ps_expr (pe_bmK (K := K) rfl PySem.F.plainAttrs_list PySem.F.slot_list_append PySem.F.type_list_append mt_append (pv 4) (pa_cons (pe_slice sl_str (pe_op op_repS (pv 7) pe_int) po_none (po_some (pe_op op_add pe_int (pe_g C_L_grain hr (by decide) (by rfl) pass0 (pa_cons (pv 0) (pa_cons pe_int pa_nil)))))) pa_nil)))))))))
      (pss_one (ps_ret (pv 4)))))), ?_⟩
  have k0 : Kp m H H := Kp.refl ml
  -- ''.join([letter(mill) for .. in range(grain(mill, 8))])
  refine ⟨⟨_, rfl⟩, _, rfl, m, 8, rfl, k0.ml, by decide, by decide, fun H1 n k1 n0 n1 => ?_⟩
  refine ⟨n, rfl, by omega, by omega, fun B nB => ?_⟩
  have nB0 : H B = none := k1.free nB
  have Bm : B ≠ m := k0.ml.ne nB0
  refine lc_range (lo := 0) (n := n.toNat) (fun i H2 => Kp m H H2 ∧ ∃ cs : List Nat, cs.length = i ∧ H2 B = some (.lst (cs.map fun c => V.str ⟨#[c]⟩)))
    ⟨k1.new nB, [], rfl, upd_same⟩ (fun i H2 hi hp => ?_) (fun H2 hp => ?_)
  · obtain ⟨k2, cs, lc, eB⟩ := hp
    refine turn_yes rfl ?_
    refine ⟨_, rfl, m, rfl, k2.ml, fun H3 c k3 c0 c1 => ?_⟩
    refine ⟨_, k3.keep _ _ Bm eB, ?_, (k2.trans k3).mut nB0 Bm, cs ++ [c], by rw [List.length_append, lc]; rfl, by rw [upd_same, List.map_append]; rfl⟩
    rw [List.length_map, lc]
    exact szl (by omega)
  obtain ⟨k2, cs, lc, eB⟩ := hp
  have lb : (Txt.join (Str.ofString "") (cs.map fun c => (⟨#[c]⟩ : Str))).length ≤ 8 := by
    show (Txt.join Str.empty (cs.map fun c => (⟨#[c]⟩ : Str))).length ≤ 8
    rw [join_len, signs_len, lc]
    omega
  refine ⟨_, B, cs.map (fun c => (⟨#[c]⟩ : Str)), rfl, rfl, .inl (.inl (.inl (by rw [List.map_map]; exact eB))), ?_, ?_⟩
  · rw [signs_len, lc, List.length_map]
    have : (Str.ofString "").length = 0 := rfl
    rw [this]
    omega
  -- grain(mill, 3), []
  refine ⟨_, rfl, m, 3, rfl, k2.ml, by decide, by decide, fun H3 lot k3 lot0 lot3 => ?_⟩
  refine ⟨Nat.zero_le _, fun F nF => ⟨_, _, _, rfl, ?_⟩⟩
  have k4 : Kp m H (upd H3 F (.lst [])) := (k2.trans k3).new nF
  have nFH : H F = none := (k2.trans k3).free nF
  have Fm : F ≠ m := ml.ne nFH
  generalize hb : Txt.join (Str.ofString "") (cs.map fun c => (⟨#[c]⟩ : Str)) = body at *
  -- spot
  refine ⟨_, rfl, _, rfl, _, rfl, sz1000 (by omega), _, _, rfl, rfl, m, _, rfl, k4.ml, by omega, by omega, fun H5 spot k5 sp0 sp1 => ?_⟩
  have eF5 : H5 F = some (.lst []) := k5.keep _ _ Fm upd_same
  have k5 : Kp m H H5 := k4.trans k5
  -- order(mill, 'abc..')[:much]
  refine ⟨_, rfl, m, _, rfl, k5.ml, by decide, fun H6 O sg k6 nO eO pO => ?_⟩
  refine ⟨_, rfl, _, rfl, O, sg, rfl, .inl (.inl eO), fun L nL => ?_⟩
  have Om : O ≠ m := k5.ml.ne nO
  have k6' : Kp m H H6 := k5.trans k6
  have eF6 : H6 F = some (.lst []) := k6.keep _ _ Fm eF5
  have FL : F ≠ L := ne_of_none eF6 nL
  have k7 : Kp m H (upd H6 L (.lst (cutV sg none (some (much : Int))))) := k6'.new nL
  have ct : cutV sg none (some (much : Int)) = sg.take much := by
    unfold cutV
    rw [HT.sIx_none, show HT.sIx sg.length sg.length (some (much : Int)) = min much sg.length from HT.sIx_nat _ _ _, List.drop_zero, Nat.sub_zero]
    rcases Nat.le_total much sg.length with h | h
    · rw [Nat.min_eq_left h]
    · rw [Nat.min_eq_right h, List.take_length, List.take_of_length_le h]
  have ls : sg.length = 26 := by rw [pO.length_eq]; decide +kernel
  have one : ∀ v ∈ sg, ∃ c, v = .str ⟨#[c]⟩ := fun v hv => by
    have := pO.mem_iff.mp hv
    unfold signsV at this
    obtain ⟨c, _, e⟩ := List.mem_map.mp this
    exact ⟨c, e.symm⟩
  rw [ct] at k7 ⊢
  have lt : (sg.take much).length = much := by rw [List.length_take]; omega
  have nLH : H L = none := k6'.free nL
  have Lm : L ≠ m := ml.ne nLH
  refine ⟨L, rfl, ⟨_, .inl (.inl upd_same)⟩, ?_⟩
  refine for_list (K := K) (a := L) (xs := sg.take much) (fun i σ H' => Kp m H H' ∧ H' L = some (.lst (sg.take much)) ∧ ∃ (ys : List Str) (y5 y7 : Option V), H' F = some (.lst (ys.map V.str)) ∧
      ys.length = i ∧ (∀ y ∈ ys, y.length ≤ 20) ∧ σ = [some (.ref m), some (.int much), some (.str body), some (.int lot), some (.ref F), y5, some (.int spot), y7])
    ⟨k7, upd_same, [], none, none, by rw [upd_ne FL]; exact eF6, rfl, fun y h => absurd h (by simp), rfl⟩ (fun i σ H' _ hp => .inl (.inl hp.2.1))
    (fun i v σ H' hv hp => ?_) (fun σ H' hp => ?_)
  · obtain ⟨kp, eL, ys, y5, y7, eF, ly, by20, rfl⟩ := hp
    obtain ⟨c, rfl⟩ := one v (List.mem_of_mem_take (List.mem_of_getElem? hv))
    have hi : i < much := by
      have := (List.getElem?_eq_some_iff.mp hv).1
      omega
    have l1 : (⟨#[c]⟩ : Str).length = 1 := rfl
    -- behind the append of y
    have done : ∀ (H8 : Hp) (y : Str) (s5 s7 : Option V), Kp m H' H8 → y.length ≤ 20 → H8 F = some (.lst (ys.map V.str)) → H8 L = some (.lst (sg.take much)) →
        ∃ (ys' : List Str) (y5 y7 : Option V), upd H8 F (.lst (ys.map V.str ++ [V.str y])) F = some (.lst (ys'.map V.str)) ∧ ys'.length = i + 1 ∧ (∀ y ∈ ys', y.length ≤ 20) ∧
          [some (V.ref m), some (.int much), some (.str body), some (.int lot), some (.ref F), s5, some (.int spot), s7] = [some (V.ref m), some (.int much), some (.str body), some (.int lot), some (.ref F), y5, some (.int spot), y7] := by
      intro H8 y s5 s7 k8 hy e8 eL8
      refine ⟨ys ++ [y], s5, s7, by rw [upd_same, List.map_append]; rfl, by rw [List.length_append, ly]; rfl, fun z hz => ?_, rfl⟩
      rcases List.mem_append.mp hz with h | h
      · exact by20 z h
      · rw [List.mem_singleton.mp h]; exact hy
    have lim : (ys.map V.str).length < sizeLine := by rw [List.length_map, ly]; exact szl (by omega)
    have cl1 := cut_len body none (some spot)
    have cl2 := cut_len body (some spot) none
    refine ⟨_, rfl, rfl, _, rfl, ?_⟩
    by_cases c0 : lot = 0
    · subst c0
      refine (if_pos (decide_eq_true rfl)).mpr ?_
      -- found.append(body[:spot] + sign + body[spot:])
      refine ⟨_, rfl, .inl ⟨rfl, _, .inl (.inl eF)⟩, ?_⟩
      refine ⟨_, rfl, _, rfl, _, rfl, body, rfl, sz1000 (by omega), _, rfl, _, _, rfl, rfl, sz1000 (by rw [l1]; omega), ?_⟩
      refine ⟨_, rfl, _, rfl, _, rfl, body, rfl, sz1000 (by omega), _, _, rfl, rfl, sz1000 (by rw [strLen_append, l1]; omega), ?_⟩
      refine ⟨F, _, _, rfl, rfl, eF, lim, kp.mut nFH Fm, by rw [upd_ne FL.symm]; exact eL, ?_⟩
      exact done H' _ _ _ (Kp.refl kp.ml) (by rw [strLen_append, strLen_append, l1]; omega) eF eL
    · refine (if_neg (fun z => c0 (by have := of_decide_eq_true z; injection this))).mpr ?_
      refine ⟨_, rfl, rfl, _, rfl, ?_⟩
      by_cases c1 : lot = 1
      · subst c1
        refine (if_pos (decide_eq_true rfl)).mpr ?_
        -- found.append(sign + body[:grain(mill, len(body) + 1)])
        refine ⟨_, rfl, .inl ⟨rfl, _, .inl (.inl eF)⟩, ?_⟩
        refine ⟨_, rfl, _, rfl, _, rfl, _, rfl, body, rfl, sz1000 (by omega), _, _, rfl, rfl, m, _, rfl, kp.ml, by omega, by omega, fun H8 r k8 r0 r1 => ?_⟩
        have eF8 := k8.keep _ _ Fm eF
        have eL8 := k8.keep _ _ Lm eL
        have cl3 := cut_len body none (some r)
        refine ⟨r, rfl, body, rfl, sz1000 (by omega), _, _, rfl, rfl, sz1000 (by rw [l1]; omega), ?_⟩
        refine ⟨F, _, _, rfl, rfl, eF8, lim, (kp.trans k8).mut nFH Fm, by rw [upd_ne FL.symm]; exact eL8, ?_⟩
        exact done H8 _ _ _ k8 (by rw [strLen_append, l1]; omega) eF8 eL8
      · refine (if_neg (fun z => c1 (by have := of_decide_eq_true z; injection this))).mpr ?_
        -- found.append((sign * 8)[:1 + grain(mill, 8)])
        refine ⟨_, rfl, .inl ⟨rfl, _, .inl (.inl eF)⟩, ?_⟩
        refine ⟨_, rfl, _, _, rfl, rfl, by decide, by decide, by rw [l1]; decide, by rw [l1]; decide, ?_⟩
        have l8 : (timesS (⟨#[c]⟩ : Str) (Int.toNat 8)).length = 8 := by rw [times_length, l1]; rfl
        refine ⟨_, rfl, m, 8, rfl, kp.ml, by decide, by decide, fun H8 r k8 r0 r1 => ?_⟩
        have eF8 := k8.keep _ _ Fm eF
        have eL8 := k8.keep _ _ Lm eL
        have cl3 := cut_len (timesS (⟨#[c]⟩ : Str) (Int.toNat 8)) none (some (1 + r))
        refine ⟨_, _, rfl, rfl, _, rfl, _, rfl, sz1000 (by rw [l8]; decide), ?_⟩
        refine ⟨F, _, _, rfl, rfl, eF8, lim, (kp.trans k8).mut nFH Fm, by rw [upd_ne FL.symm]; exact eL8, ?_⟩
        exact done H8 _ _ _ k8 (by omega) eF8 eL8
  · obtain ⟨kp, eL, ys, y5, y7, eF, ly, by20, rfl⟩ := hp
    rw [lt] at ly
    exact ⟨_, rfl, q H' F ys kp nFH eF ly by20⟩
end
end K00
set_option Elab.async false
set_option linter.all false
set_option maxRecDepth 100000
set_option maxHeartbeats 4000000
/-! the values that are drawn -/
namespace K00
open PySem PySem.Spec PyProof.Rows L2 Wk
section
variable {P : Program} {w : World} {K : PySem.W.Frag} {mg : Str → Option Value} {base : Heap}

/-! ### good values -/
theorem Kd.kp {m : Addr} {H H' : Hp} {v : V} {t : String} (k : Kp m H H') (ml : Ml H m) (h : Kd K H v t) : Kd K H' v t := by
  obtain ⟨h, mem⟩ := h
  obtain ⟨x, y, z, em, _⟩ := ml
  have off : ∀ {a : Addr} {o : HO}, H a = some o → (∀ ys, o ≠ .lst ys) → a ≠ m := fun {a o} e n q => by
    rw [q, em] at e
    exact n _ (Option.some.inj e).symm
  refine ⟨?_, mem⟩
  generalize ec : Value.type t = c at h
  cases h with
  | non => exact .non
  | bl x => exact .bl x
  | int i => exact .int i
  | str x => exact .str x
  | flt x => exact .flt x
  | @lst a xs e =>
    by_cases q : a = m
    · obtain ⟨x', y', z', e', _⟩ := k.ml
      rw [q]
      exact .lst e'
    · exact .lst (k.keep _ _ q e)
  | frz e => exact .frz (k.keep _ _ (off e (fun _ z => nomatch z)) e)
  | tup e => exact .tup (k.keep _ _ (off e (fun _ z => nomatch z)) e)
  | dK e => exact .dK (k.keep _ _ (off e (fun _ z => nomatch z)) e)
  | dT e => exact .dT (k.keep _ _ (off e (fun _ z => nomatch z)) e)
  | ins e => cases ec
theorem Flat.kp {m : Addr} {H H' : Hp} {v : V} (k : Kp m H H') (ml : Ml H m) (h : Flat K H v) : Flat K H' v := by
  obtain ⟨t, hk, hl⟩ := h
  exact ⟨t, Kd.kp k ml hk, hl⟩
def Good (K : PySem.W.Frag) (H : Hp) (v : V) : Prop := Flat K H v ∧ ∃ b, SetAns K H v b
theorem SetAns.kp {m : Addr} {H H' : Hp} {v : V} {b : Bool} (k : Kp m H H') (ml : Ml H m) (h : SetAns K H v b) : SetAns K H' v b := by
  obtain ⟨t, hk, ans⟩ := h
  refine ⟨t, Kd.kp k ml hk, ?_⟩
  rcases ans with ⟨n, e⟩ | ⟨et, a, xs, ev, ha, few, fl, eb⟩
  · exact .inl ⟨n, e⟩
  · refine .inr ⟨et, a, xs, ev, k.keep _ _ (fun q => ?_) ha, few, fun x hx => Flat.kp k ml (fl x hx), eb⟩
    obtain ⟨x, y, z, em, _⟩ := ml
    rw [q, em] at ha
    cases ha
theorem Good.kp {m : Addr} {H H' : Hp} {v : V} (k : Kp m H H') (ml : Ml H m) (h : Good K H v) : Good K H' v := by
  obtain ⟨f, b, a⟩ := h
  exact ⟨Flat.kp k ml f, b, SetAns.kp k ml a⟩
theorem SetAns.same {H H' : Hp} {v : V} {b : Bool} (s : Same H H') (h : SetAns K H v b) : SetAns K H' v b := by
  obtain ⟨t, hk, ans⟩ := h
  refine ⟨t, Kd.same s hk, ?_⟩
  rcases ans with ⟨n, e⟩ | ⟨et, a, xs, ev, ha, few, fl, eb⟩
  · exact .inl ⟨n, e⟩
  · exact .inr ⟨et, a, xs, ev, s _ _ ha, few, fun x hx => Flat.same s (fl x hx), eb⟩
theorem Good.same {H H' : Hp} {v : V} (s : Same H H') (h : Good K H v) : Good K H' v := by
  obtain ⟨f, b, a⟩ := h
  exact ⟨Flat.same s f, b, SetAns.same s a⟩
theorem good_of {H : Hp} {v : V} {t : String} (h : Kd K H v t) (n : t ≠ "tuple") (l : ∀ x, v = .str x → x.length ≤ 1000) : Good K H v :=
  ⟨⟨t, h, l⟩, false, t, h, .inl ⟨n, rfl⟩⟩
theorem good_int {H : Hp} (i : Int) : Good K H (.int i) := good_of ⟨.int i, by decide⟩ (by decide) (fun x e => nomatch e)
theorem good_bl {H : Hp} (i : Bool) : Good K H (.bl i) := good_of ⟨.bl i, by decide⟩ (by decide) (fun x e => nomatch e)
theorem good_non {H : Hp} : Good K H .non := good_of ⟨.non, by decide⟩ (by decide) (fun x e => nomatch e)
theorem good_str {H : Hp} {x : Str} (h : x.length ≤ 1000) : Good K H (.str x) := good_of ⟨.str x, by decide⟩ (by decide) (fun y e => by injection e with e; rw [← e]; exact h)
theorem good_lst {H : Hp} {a : Addr} {xs : List V} (e : H a = some (.lst xs)) : Good K H (.ref a) := good_of ⟨.lst e, by decide⟩ (by decide) (fun x e => nomatch e)
theorem good_dK {H : Hp} {a : Addr} {kvs : List (Key × V)} (e : H a = some (.dK kvs)) : Good K H (.ref a) := good_of ⟨.dK e, by decide⟩ (by decide) (fun x e => nomatch e)
theorem good_tup {H : Hp} {a : Addr} {xs : List V} (e : H a = some (.tup xs)) (few : xs.length ≤ 900) (fl : ∀ x ∈ xs, Flat K H x) : Good K H (.ref a) :=
  have hk : Kd K H (.ref a) "tuple" := ⟨.tup e, by decide⟩
  ⟨⟨_, hk, fun x e => nomatch e⟩, _, _, hk, .inr ⟨rfl, a, xs, rfl, e, few, fl, rfl⟩⟩

/-- what has been made: good values, pinned objects -/
structure Wd (K : PySem.W.Frag) (m : Addr) (H0 H : Hp) (vs : List V) (pins : List (Addr × HO)) : Prop where
  kp : Kp m H0 H
  good : ∀ v ∈ vs, Good K H v
  pin : ∀ q ∈ pins, H q.1 = some q.2 ∧ q.1 ≠ m
section
variable {m : Addr} {H0 H H' : Hp} {vs : List V} {pins : List (Addr × HO)} {p : Addr} {o : HO} {xs : List V}
theorem same_at {H : Hp} {p : Addr} {o : HO} (np : H p = none) : Same H (upd H p o) := same_new (Same.refl H) np
theorem Wd.keep (W : Wd K m H0 H vs pins) (np : H p = none) : Wd K m H0 (upd H p o) vs pins :=
  ⟨W.kp.new np, fun v hv => (W.good v hv).same (same_at np), fun q hq => ⟨same_at np _ _ (W.pin q hq).1, (W.pin q hq).2⟩⟩
theorem Wd.pinned (W : Wd K m H0 H vs pins) (np : H p = none) : Wd K m H0 (upd H p o) vs ((p, o) :: pins) := by
  have W1 := W.keep (o := o) np
  refine ⟨W1.kp, W1.good, fun q hq => ?_⟩
  rcases List.mem_cons.mp hq with e | e
  · rw [e]; exact ⟨upd_same, W.kp.ml.ne np⟩
  · exact W1.pin q e
theorem Wd.add {v : V} (W : Wd K m H0 H vs pins) (g : Good K H v) : Wd K m H0 H (vs ++ [v]) pins := by
  refine ⟨W.kp, fun u hu => ?_, W.pin⟩
  rcases List.mem_append.mp hu with h | h
  · exact W.good u h
  · rw [List.mem_singleton.mp h]; exact g
theorem Wd.tup (W : Wd K m H0 H vs pins) (np : H p = none) (few : xs.length ≤ 900) (fl : ∀ x ∈ xs, Flat K H x) : Wd K m H0 (upd H p (.tup xs)) (vs ++ [.ref p]) pins :=
  (W.keep np).add (good_tup upd_same few fun x hx => (fl x hx).same (same_at np))
theorem Wd.lst (W : Wd K m H0 H vs pins) (np : H p = none) : Wd K m H0 (upd H p (.lst xs)) (vs ++ [.ref p]) pins := (W.keep np).add (good_lst upd_same)
theorem Wd.call (W : Wd K m H0 H vs pins) (k : Kp m H H') : Wd K m H0 H' vs pins :=
  ⟨W.kp.trans k, fun v hv => (W.good v hv).kp k W.kp.ml, fun q hq => ⟨k.keep _ _ (W.pin q hq).2 (W.pin q hq).1, (W.pin q hq).2⟩⟩
theorem Wd.sub {us : List V} (W : Wd K m H0 H vs pins) (h : ∀ u ∈ us, u ∈ vs) : Wd K m H0 H us pins := ⟨W.kp, fun v hv => W.good v (h v hv), W.pin⟩
theorem Wd.same (W : Wd K m H0 H vs pins) (s : Same H H') (ml : Ml H' m) : Wd K m H0 H' vs pins :=
  ⟨⟨fun b u n q => s _ _ (W.kp.keep b u n q), ml⟩, fun v hv => (W.good v hv).same s, fun q hq => ⟨s _ _ (W.pin q hq).1, (W.pin q hq).2⟩⟩
end

/-! ### numbers near a bound -/
def spBounds : Sp := fun vs H Q _ => ∃ (m : Addr) (c : Int), vs = [.ref m, .int c] ∧ Ml H m ∧
  ∀ H' p (ns : List Int), Kp m H H' → H p = none → H' p = some (.lst (ns.map V.int)) → ns.length ≤ 20 → Q (.ref p) H'
theorem ok_L_bounds (D : DefAt K mg "_law_bounds" s_L_bounds) (M : Txt mg) (C_L_grain : Gc P w K mg base CX0 1 "_law_grain" spGrain) :
    Gc P w K mg base CX0 2 "_law_bounds" spBounds := by
  refine D.ok0 sc_L_bounds (fun kV doc pm an cdv ct us hl => match us, hl with | [_, _], _ => rfl) (fun vs H Q E h => by obtain ⟨m, t, rfl, _⟩ := h; rfl)
    (fun f cdv A outer s H vs Q E hr h => ?_)
  have nd := sc_L_bounds.nd
  obtain ⟨m, c, rfl, ml, q⟩ := h
  refine ⟨_, (pss_cons (ps_par (i := 2) (j := 3) (by rfl) nd rfl rfl (by decide) rfl rfl (pa_cons (pe_op op_mod (pe_callTy call_int1 (by rfl) M.int (by decide +kernel) (pa_cons (pv 1) pa_nil)) (pe_op op_mulW (pe_op op_powW pe_int pe_int) (pe_op op_powW pe_int pe_int))) (pa_cons (pe_op op_sub (pe_op op_add (pe_op op_powW pe_int pe_int) (pe_g C_L_grain hr (by decide) (by rfl) pass0 (pa_cons (pv 0) (pa_cons pe_int pa_nil)))) pe_int) pa_nil)) (by rfl))
      (pss_one (ps_ret (pe_lst (pa_cons (pv 2) (pa_cons (pe_op op_sub pe_int (pv 2)) (pa_cons (pv 3) (pa_cons (pe_op op_sub pe_int (pv 3)) (pa_cons (pe_op op_powW pe_int pe_int) (pa_cons (pe_op op_sub pe_int (pe_op op_powW pe_int pe_int)) (pa_cons (pe_op op_sub (pe_op op_powW pe_int pe_int) pe_int) (pa_cons (pe_op op_sub pe_int (pe_op op_powW pe_int pe_int)) (pa_cons pe_int (pa_cons (pe_op op_sub pe_int pe_int) pa_nil)))))))))))))), ?_⟩
  have d60 : Wk.CPowW 10 60 := ⟨by decide, by decide⟩
  have mw : CMulW (10 ^ Int.toNat 60) (10 ^ Int.toNat 30) := by unfold CMulW; decide +kernel
  refine ⟨_, rfl, .inl ⟨_, rfl, _, _, rfl, rfl, d60, _, _, rfl, rfl, ⟨by decide, by decide⟩, _, _, rfl, rfl, mw, _, _, rfl, rfl, pj (i := 0) (by decide +kernel), ?_⟩⟩
  refine ⟨_, _, rfl, rfl, d60, _, rfl, m, 5, rfl, ml, by decide, by decide, fun H1 r k r0 r1 => ?_⟩
  refine ⟨_, _, rfl, rfl, _, _, rfl, rfl, _, _, rfl, ?_⟩
  generalize (c % (10 ^ Int.toNat 60 * 10 ^ Int.toNat 30) : Int) = great
  generalize ((10 ^ Int.toNat 60 + r) - 2 : Int) = near
  refine ⟨_, rfl, _, rfl, _, _, rfl, rfl, _, rfl, _, rfl, _, _, rfl, rfl, _, _, rfl, rfl, d60, _, _, rfl, rfl, d60, _, _, rfl, rfl, _, _, rfl, rfl, d60, _, _, rfl, rfl, _, _, rfl, rfl, d60, _, _, rfl, rfl,
    _, _, rfl, rfl, (by show 10 ≤ sizeLine; decide), fun p np => ?_⟩
  exact q _ p [_, _, _, _, _, _, _, _, _, _] (k.new np) (k.free np) upd_same (by show 10 ≤ 20; decide)

/-! ### texts -/
def spTexts : Sp := fun vs H Q _ => ∃ (m : Addr), vs = [.ref m] ∧ Ml H m ∧
  ∀ H' p (ys : List Str), Kp m H H' → H p = none → H' p = some (.lst (ys.map V.str)) → ys.length ≤ 20 → (∀ y ∈ ys, y.length ≤ 40) → Q (.ref p) H'
theorem ok_L_texts (D : DefAt K mg "_law_texts" s_L_texts) (M : Txt mg) (C_L_grain : Gc P w K mg base CX0 1 "_law_grain" spGrain)
    (C_L_letter : Gc P w K mg base CX0 2 "_law_letter" spLetter) (C_L_one_of : Gc P w K mg base CX0 2 "_law_one_of" (spOneOf K)) :
    Gc P w K mg base CX0 3 "_law_texts" spTexts := by
  refine D.ok0 sc_L_texts (fun kV doc pm an cdv ct us hl => match us, hl with | [_], _ => rfl) (fun vs H Q E h => by obtain ⟨m, rfl, _⟩ := h; rfl)
    (fun f cdv A outer s H vs Q E hr h => ?_)
  have nd := sc_L_texts.nd
  obtain ⟨m, rfl, ml, q⟩ := h
  refine ⟨_, (pss_cons (ps_set (i := 1) nd rfl (Or.inl rfl) (pe_lst pa_nil))
      (pss_cons (ps_for PassesOwn.never rfl (pi_range1 (by rfl) M.range (pa_cons pe_int pa_nil)) (pg_name (i := 2) nd rfl (Or.inl rfl))
      (pss_cons (ps_set (i := 3) nd rfl (Or.inl rfl) (pe_joinK (K := K) rfl pe_str (pe_lc (own := [("_law_at", 4)]) (by rfl) nd (pi_range1 (by rfl) M.range (pa_cons (pe_g C_L_grain hr (by decide) (by rfl) pass0 (pa_cons (pv 0) (pa_cons pe_int pa_nil))) pa_nil)) (blkOk_by (own := [("_law_at", 4)]) (N := NN_L_texts) (sc := defScope s_L_texts) (by decide +kernel)) (fun _ _ _ _ _ => pg_name (i := 4) nd rfl (Or.inl rfl)) (fun _ _ _ _ _ => pts_nil) (fun _ _ _ _ _ => (pe_g C_L_letter hr (by decide) (by rfl) pass0 (pa_cons (pv 0) pa_nil))))))
      (pss_cons (ps_set (i := 5) nd rfl (Or.inl rfl) (pe_g C_L_grain hr (by decide) (by rfl) pass0 (pa_cons (pv 0) (pa_cons (pe_op op_add (pe_callB (call_len_strK rfl) (by rfl) M.len (by decide +kernel) (pa_cons (pv 3) pa_nil)) pe_int) pa_nil))))
      (pss_cons (ps_set (i := 6) nd rfl (Or.inl rfl) (pe_g C_L_one_of hr (by decide) (by rfl) pass0 (pa_cons (pv 0) (pa_cons (pe_lst (pa_cons pe_str (pa_cons pe_str (pa_cons pe_str (pa_cons pe_str (pa_cons pe_str (pa_cons pe_str (pa_cons pe_str (pa_cons pe_str (pa_cons pe_str (pa_cons pe_str (pa_cons pe_str (pa_cons pe_str pa_nil))))))))))))) pa_nil))))
      (pss_one (ps_set (i := 1) nd rfl (Or.inl rfl) (pe_op op_cat (pv 1) (pe_lst (pa_cons (pv 3) (pa_cons (pe_op op_add_str (pe_op op_add_str (pe_slice sl_str (pv 3) po_none (po_some (pv 5))) (pv 6)) (pe_slice sl_str (pv 3) (po_some (pv 5)) po_none)) (pa_cons (pe_op op_add_str (pe_op op_add_str (pe_slice sl_str (pv 3) po_none (po_some (pv 5))) (pv 6)) (pe_slice sl_str (pv 3) (po_some (pe_op op_add (pv 5) pe_int)) po_none)) pa_nil)))))))))))
      (pss_one (ps_ret (pv 1))))), ?_⟩
  refine ⟨Nat.zero_le _, fun F nF => ?_⟩
  refine ⟨4, rfl, by decide, by decide, ?_⟩
  refine for_range (lo := 0) (n := 4) (fun i σ H' => Kp m H H' ∧ ∃ (F : Addr) (ys : List Str) (y2 y3 y4 y5 y6 : Option V), H F = none ∧ H' F = some (.lst (ys.map V.str)) ∧ ys.length = 3 * i ∧ (∀ y ∈ ys, y.length ≤ 40) ∧
      σ = [some (.ref m), some (.ref F), y2, y3, y4, y5, y6]) ⟨(Kp.refl ml).new nF, F, [], none, none, none, none, none, nF, upd_same, rfl, fun y h => absurd h (by simp), rfl⟩
    (fun i σ H' hi hp => ?_) (fun σ H' hp => ?_)
  · obtain ⟨kp, F, ys, y2, y3, y4, y5, y6, nF, eF, ly, by40, rfl⟩ := hp
    have Fm : F ≠ m := ml.ne nF
    have k0 : Kp m H' H' := Kp.refl kp.ml
    -- ''.join([letter(mill) for .. in range(grain(mill, 11))])
    refine ⟨⟨_, rfl⟩, _, rfl, m, 11, rfl, k0.ml, by decide, by decide, fun H1 n k1 n0 n1 => ?_⟩
    refine ⟨n, rfl, by omega, by omega, fun B nB => ?_⟩
    have nB0 : H' B = none := k1.free nB
    have Bm : B ≠ m := k0.ml.ne nB0
    refine lc_range (lo := 0) (n := n.toNat) (fun i H2 => Kp m H' H2 ∧ ∃ cs : List Nat, cs.length = i ∧ H2 B = some (.lst (cs.map fun c => V.str ⟨#[c]⟩)))
      ⟨k1.new nB, [], rfl, upd_same⟩ (fun i H2 hi hp => ?_) (fun H2 hp => ?_)
    · obtain ⟨k2, cs, lc, eB⟩ := hp
      refine turn_yes rfl ?_
      refine ⟨_, rfl, m, rfl, k2.ml, fun H3 c k3 c0 c1 => ?_⟩
      refine ⟨_, k3.keep _ _ Bm eB, ?_, (k2.trans k3).mut nB0 Bm, cs ++ [c], by rw [List.length_append, lc]; rfl, by rw [upd_same, List.map_append]; rfl⟩
      rw [List.length_map, lc]
      exact szl (by omega)
    obtain ⟨k2, cs, lc, eB⟩ := hp
    have lb : (Txt.join (Str.ofString "") (cs.map fun c => (⟨#[c]⟩ : Str))).length ≤ 11 := by
      show (Txt.join Str.empty (cs.map fun c => (⟨#[c]⟩ : Str))).length ≤ 11
      rw [join_len, signs_len, lc]
      omega
    refine ⟨_, B, cs.map (fun c => (⟨#[c]⟩ : Str)), rfl, rfl, .inl (.inl (.inl (by rw [List.map_map]; exact eB))), ?_, ?_⟩
    · rw [signs_len, lc, List.length_map]
      have : (Str.ofString "").length = 0 := rfl
      rw [this]
      omega
    generalize hb : Txt.join (Str.ofString "") (cs.map fun c => (⟨#[c]⟩ : Str)) = text at *
    have eF2 := k2.keep _ _ Fm eF
    -- spot
    refine ⟨_, rfl, _, rfl, _, rfl, sz1000 (by omega), _, _, rfl, rfl, m, _, rfl, k2.ml, by omega, by omega, fun H5 spot k5 sp0 sp1 => ?_⟩
    have k5 : Kp m H' H5 := k2.trans k5
    -- odd
    refine ⟨_, rfl, (by show 12 ≤ sizeLine; decide), fun L nL => ?_⟩
    have k6 := k5.new (o := .lst [.str "A", .str "Z", .str "7", .str " ", .str "_", .str "\n", .str "@", .str "[", .str "`", .str "{", .str ":", .str "*"]) nL
    refine ⟨m, L, _, rfl, k6.ml, k5.ml.ne nL, upd_same, by show 0 < 12; decide, by show 12 ≤ 1000; decide, fun H7 odd k7 hodd => ?_⟩
    have k7 := k6.trans k7
    have fo : ∃ o : Str, odd = .str o ∧ o.length ≤ 1 := by
      simp only [List.mem_cons, List.not_mem_nil, or_false] at hodd
      rcases hodd with e | e | e | e | e | e | e | e | e | e | e | e <;> exact ⟨_, e, by decide +kernel⟩
    obtain ⟨o, rfl, lo⟩ := fo
    have eF7 := k7.keep _ _ Fm eF
    have c1 := cut_len text none (some spot)
    have c2 := cut_len text (some spot) none
    have c3 := cut_len text (some (spot + 1)) none
    -- found = found + [..]
    refine ⟨_, rfl, ?_⟩
    refine ⟨_, rfl, ?_⟩
    refine ⟨_, rfl, _, rfl, _, rfl, text, rfl, sz1000 (by omega), _, rfl, _, _, rfl, rfl, sz1000 (by omega), ?_⟩
    refine ⟨_, rfl, _, rfl, _, rfl, text, rfl, sz1000 (by omega), _, _, rfl, rfl, sz1000 (by rw [strLen_append]; omega), ?_⟩
    refine ⟨_, rfl, _, rfl, _, rfl, text, rfl, sz1000 (by omega), _, rfl, _, _, rfl, rfl, sz1000 (by omega), ?_⟩
    refine ⟨_, rfl, _, rfl, _, _, rfl, rfl, _, rfl, text, rfl, sz1000 (by omega), _, _, rfl, rfl, sz1000 (by rw [strLen_append]; omega), ?_⟩
    refine ⟨(by show 3 ≤ sizeLine; decide), fun L2 nL2 => ?_⟩
    have F2 : F ≠ L2 := ne_of_none eF7 nL2
    have k8 := k7.new (o := .lst [.str text, .str (cutS text none (some spot) ++ o ++ cutS text (some spot) none), .str (cutS text none (some spot) ++ o ++ cutS text (some (spot + 1)) none)]) nL2
    refine ⟨F, L2, _, _, rfl, rfl, (upd_ne F2).trans eF7, upd_same, ?_, fun F' nF' => ?_⟩
    · rw [List.length_map, ly]
      show 3 * i + 3 ≤ sizeLine
      exact sz1000 (by omega)
    · refine ⟨kp.trans (k8.new nF'), F', ys ++ [text, cutS text none (some spot) ++ o ++ cutS text (some spot) none, cutS text none (some spot) ++ o ++ cutS text (some (spot + 1)) none], _, _, _, _, _,
        (kp.trans k8).free nF', by rw [upd_same, List.map_append]; rfl, by rw [List.length_append, ly]; show 3 * i + 3 = 3 * (i + 1); omega, fun y hy => ?_, rfl⟩
      rcases List.mem_append.mp hy with h | h
      · exact by40 y h
      · simp only [List.mem_cons, List.not_mem_nil, or_false] at h
        rcases h with rfl | rfl | rfl
        · omega
        · rw [strLen_append, strLen_append]; omega
        · rw [strLen_append, strLen_append]; omega
  · obtain ⟨kp, F, ys, y2, y3, y4, y5, y6, nF, eF, ly, by40, rfl⟩ := hp
    exact ⟨_, rfl, q H' F ys kp nF eF (by omega) by40⟩

/-! ### tuples -/
def spTuples (K : PySem.W.Frag) : Sp := fun vs H Q _ => ∃ (m : Addr), vs = [.ref m] ∧ Ml H m ∧
  ∀ H' p (us : List V), Kp m H H' → H p = none → H' p = some (.lst us) → us.length ≤ 30 → (∀ v ∈ us, Good K H' v) → Q (.ref p) H'
theorem odd_good {m : Addr} {H0 H : Hp} {vs : List V} {pins : List (Addr × HO)} {one two : Str} {p19 p20 : Addr} {odd : V} (l1 : one.length ≤ 20) (l2 : two.length ≤ 20)
    (W : Wd K m H0 H (vs ++ [.ref p19] ++ [.ref p20]) pins)
    (h : odd ∈ [V.str "", .str "A", .str (one ++ two ++ Str.ofString "xxxxxxxx"), .non, .int 0, .bl true, .ref p19, .ref p20, .str (Str.ofString " " ++ one)]) : Good K H odd := by
  have lx : (Str.ofString "xxxxxxxx").length = 8 := by decide +kernel
  have ly : (Str.ofString " ").length = 1 := by decide +kernel
  simp only [List.mem_cons, List.not_mem_nil, or_false] at h
  rcases h with e | e | e | e | e | e | e | e | e <;> rw [e]
  · exact good_str (by decide +kernel)
  · exact good_str (by decide +kernel)
  · exact good_str (by rw [strLen_append, strLen_append, lx]; omega)
  · exact good_non
  · exact good_int _
  · exact good_bl _
  · exact W.good _ (by simp)
  · exact W.good _ (by simp)
  · exact good_str (by rw [strLen_append, ly]; omega)
theorem ok_L_tuples (D : DefAt K mg "_law_tuples" s_L_tuples) (M : Txt mg) (C_L_many_names : Gc P w K mg base CX0 3 "_law_many_names" spManyNames)
    (C_L_one_of : Gc P w K mg base CX0 2 "_law_one_of" (spOneOf K)) :
    Gc P w K mg base CX0 4 "_law_tuples" (spTuples K) := by
  refine D.ok0 sc_L_tuples (fun kV doc pm an cdv ct us hl => match us, hl with | [_], _ => rfl) (fun vs H Q E h => by obtain ⟨m, rfl, _⟩ := h; rfl)
    (fun f cdv A outer s H vs Q E hr h => ?_)
  have nd := sc_L_tuples.nd
  obtain ⟨m, rfl, ml, q⟩ := h
  refine ⟨_, (pss_cons (ps_asg (pe_g C_L_many_names hr (by decide) (by rfl) pass0 (pa_cons (pv 0) (pa_cons pe_int pa_nil))) (pg_unl (n := 3) rfl (pgs_cons (pg_name (i := 1) nd rfl (Or.inl rfl)) (pgs_cons (pg_name (i := 2) nd rfl (Or.inl rfl)) (pgs_cons (pg_name (i := 3) nd rfl (Or.inl rfl)) pgs_nil)))))
      (pss_cons (ps_set (i := 4) nd rfl (Or.inl rfl) (pe_lst (pa_cons (pe_tup (pa_cons (pv 1) (pa_cons (pv 2) (pa_cons (pv 3) pa_nil)))) (pa_cons (pe_tup (pa_cons (pv 1) (pa_cons (pv 3) (pa_cons (pv 2) pa_nil)))) (pa_cons (pe_tup (pa_cons (pv 2) (pa_cons (pv 1) (pa_cons (pv 3) pa_nil)))) (pa_cons (pe_tup (pa_cons (pv 2) (pa_cons (pv 3) (pa_cons (pv 1) pa_nil)))) (pa_cons (pe_tup (pa_cons (pv 3) (pa_cons (pv 1) (pa_cons (pv 2) pa_nil)))) (pa_cons (pe_tup (pa_cons (pv 3) (pa_cons (pv 2) (pa_cons (pv 1) pa_nil)))) pa_nil))))))))
      (pss_cons (ps_set (i := 4) nd rfl (Or.inl rfl) (pe_op op_cat (pv 4) (pe_lst (pa_cons (pe_tup (pa_cons (pv 1) (pa_cons (pv 1) pa_nil))) (pa_cons (pe_tup (pa_cons (pv 1) (pa_cons (pv 2) (pa_cons (pv 2) pa_nil)))) (pa_cons (pe_tup (pa_cons (pv 1) pa_nil)) (pa_cons (pe_tup pa_nil) (pa_cons (pe_tup (pa_cons (pv 1) (pa_cons (pv 2) pa_nil))) (pa_cons (pe_tup (pa_cons (pv 2) (pa_cons (pv 1) pa_nil))) (pa_cons (pe_lst (pa_cons (pv 1) pa_nil)) (pa_cons (pe_lst (pa_cons (pv 1) (pa_cons (pv 2) pa_nil))) (pa_cons (pe_disp (pps_cons (pv 1) (pv 2) pps_nil) (by rfl) (by rfl) (fun z => by cases z) (by decide)) pa_nil))))))))))))
      (pss_cons (ps_set (i := 5) nd rfl (Or.inl rfl) (pe_g C_L_one_of hr (by decide) (by rfl) pass0 (pa_cons (pv 0) (pa_cons (pe_lst (pa_cons pe_str (pa_cons pe_str (pa_cons (pe_op op_add_str (pe_op op_add_str (pv 1) (pv 2)) pe_str) (pa_cons pe_non (pa_cons pe_int (pa_cons pe_bl (pa_cons (pe_tup (pa_cons (pv 1) pa_nil)) (pa_cons (pe_lst (pa_cons (pv 1) pa_nil)) (pa_cons (pe_op op_add_str pe_str (pv 1)) pa_nil)))))))))) pa_nil))))
      (pss_one (ps_ret (pe_op op_cat (pv 4) (pe_lst (pa_cons (pe_tup (pa_cons (pv 5) pa_nil)) (pa_cons (pe_op (op_catTK (K := K) rfl) (pe_callTy call_tuple_of (by rfl) M.tuple (by decide +kernel) (pa_cons (pe_callB (cr_sortedSK (K := K) rfl) (by rfl) M.sorted (by decide +kernel) (pa_cons (pe_lst (pa_cons (pv 1) (pa_cons (pv 2) pa_nil))) pa_nil)) pa_nil)) (pe_tup (pa_cons (pv 5) pa_nil))) (pa_cons (pe_tup (pa_cons (pv 1) (pa_cons (pe_tup (pa_cons (pv 2) pa_nil)) pa_nil))) (pa_cons (pe_tup (pa_cons (pe_tup pa_nil) pa_nil)) pa_nil)))))))))))), ?_⟩
  refine ⟨_, rfl, m, 3, rfl, ml, by decide, fun H1 p ys k np ep ly3 by20 => ?_⟩
  obtain ⟨one, two, last, rfl⟩ : ∃ a b c, ys = [a, b, c] := by
    match ys, ly3 with
    | [a, b, c], _ => exact ⟨a, b, c, rfl⟩
  refine ⟨p, _, rfl, .inl (.inl ep), rfl, _, _, rfl, _, _, rfl, _, _, rfl, rfl, ?_⟩
  have l1 : one.length ≤ 20 := by20 _ (by simp)
  have l2 : two.length ≤ 20 := by20 _ (by simp)
  have l3 : last.length ≤ 20 := by20 _ (by simp)
  have fo : ∀ H, Flat K H (.str one) := fun H => (good_str (by omega)).1
  have ft : ∀ H, Flat K H (.str two) := fun H => (good_str (by omega)).1
  have fl : ∀ H, Flat K H (.str last) := fun H => (good_str (by omega)).1
  have lx : (Str.ofString "xxxxxxxx").length = 8 := by decide +kernel
  have ly : (Str.ofString " ").length = 1 := by decide +kernel
  have w0 : Wd K m H H1 [] [] := ⟨k, (fun v h => nomatch h), (fun q h => nomatch h)⟩
  refine ⟨_, rfl, _, rfl, _, rfl, (by show 3 ≤ sizeLine; decide), fun p1 n1 => ?_⟩
  have w1 := w0.tup n1 (xs := [.str one, .str two, .str last]) (by show 3 ≤ 900; decide) (List.forall_mem_cons.mpr ⟨fo _, (List.forall_mem_cons.mpr ⟨ft _, (List.forall_mem_cons.mpr ⟨fl _, (fun _ h => nomatch h)⟩)⟩)⟩)
  refine ⟨_, rfl, _, rfl, _, rfl, (by show 3 ≤ sizeLine; decide), fun p2 n2 => ?_⟩
  have w2 := w1.tup n2 (xs := [.str one, .str last, .str two]) (by show 3 ≤ 900; decide) (List.forall_mem_cons.mpr ⟨fo _, (List.forall_mem_cons.mpr ⟨fl _, (List.forall_mem_cons.mpr ⟨ft _, (fun _ h => nomatch h)⟩)⟩)⟩)
  refine ⟨_, rfl, _, rfl, _, rfl, (by show 3 ≤ sizeLine; decide), fun p3 n3 => ?_⟩
  have w3 := w2.tup n3 (xs := [.str two, .str one, .str last]) (by show 3 ≤ 900; decide) (List.forall_mem_cons.mpr ⟨ft _, (List.forall_mem_cons.mpr ⟨fo _, (List.forall_mem_cons.mpr ⟨fl _, (fun _ h => nomatch h)⟩)⟩)⟩)
  refine ⟨_, rfl, _, rfl, _, rfl, (by show 3 ≤ sizeLine; decide), fun p4 n4 => ?_⟩
  have w4 := w3.tup n4 (xs := [.str two, .str last, .str one]) (by show 3 ≤ 900; decide) (List.forall_mem_cons.mpr ⟨ft _, (List.forall_mem_cons.mpr ⟨fl _, (List.forall_mem_cons.mpr ⟨fo _, (fun _ h => nomatch h)⟩)⟩)⟩)
  refine ⟨_, rfl, _, rfl, _, rfl, (by show 3 ≤ sizeLine; decide), fun p5 n5 => ?_⟩
  have w5 := w4.tup n5 (xs := [.str last, .str one, .str two]) (by show 3 ≤ 900; decide) (List.forall_mem_cons.mpr ⟨fl _, (List.forall_mem_cons.mpr ⟨fo _, (List.forall_mem_cons.mpr ⟨ft _, (fun _ h => nomatch h)⟩)⟩)⟩)
  refine ⟨_, rfl, _, rfl, _, rfl, (by show 3 ≤ sizeLine; decide), fun p6 n6 => ?_⟩
  have w6 := w5.tup n6 (xs := [.str last, .str two, .str one]) (by show 3 ≤ 900; decide) (List.forall_mem_cons.mpr ⟨fl _, (List.forall_mem_cons.mpr ⟨ft _, (List.forall_mem_cons.mpr ⟨fo _, (fun _ h => nomatch h)⟩)⟩)⟩)
  refine ⟨(by show 6 ≤ sizeLine; decide), fun L nL => ?_⟩
  have w7 := (w6.pinned nL (o := .lst [.ref p1, .ref p2, .ref p3, .ref p4, .ref p5, .ref p6]))
  refine ⟨_, rfl, ?_⟩
  refine ⟨_, rfl, _, rfl, (by show 2 ≤ sizeLine; decide), fun p8 n8 => ?_⟩
  have w8 := w7.tup n8 (xs := [.str one, .str one]) (by show 2 ≤ 900; decide) (List.forall_mem_cons.mpr ⟨fo _, (List.forall_mem_cons.mpr ⟨fo _, (fun _ h => nomatch h)⟩)⟩)
  refine ⟨_, rfl, _, rfl, _, rfl, (by show 3 ≤ sizeLine; decide), fun p9 n9 => ?_⟩
  have w9 := w8.tup n9 (xs := [.str one, .str two, .str two]) (by show 3 ≤ 900; decide) (List.forall_mem_cons.mpr ⟨fo _, (List.forall_mem_cons.mpr ⟨ft _, (List.forall_mem_cons.mpr ⟨ft _, (fun _ h => nomatch h)⟩)⟩)⟩)
  refine ⟨_, rfl, (by show 1 ≤ sizeLine; decide), fun p10 n10 => ?_⟩
  have w10 := w9.tup n10 (xs := [.str one]) (by show 1 ≤ 900; decide) (List.forall_mem_cons.mpr ⟨fo _, (fun _ h => nomatch h)⟩)
  refine ⟨(by show 0 ≤ sizeLine; decide), fun p11 n11 => ?_⟩
  have w11 := w10.tup n11 (xs := []) (by show 0 ≤ 900; decide) (fun _ h => nomatch h)
  refine ⟨_, rfl, _, rfl, (by show 2 ≤ sizeLine; decide), fun p12 n12 => ?_⟩
  have w12 := w11.tup n12 (xs := [.str one, .str two]) (by show 2 ≤ 900; decide) (List.forall_mem_cons.mpr ⟨fo _, (List.forall_mem_cons.mpr ⟨ft _, (fun _ h => nomatch h)⟩)⟩)
  refine ⟨_, rfl, _, rfl, (by show 2 ≤ sizeLine; decide), fun p13 n13 => ?_⟩
  have w13 := w12.tup n13 (xs := [.str two, .str one]) (by show 2 ≤ 900; decide) (List.forall_mem_cons.mpr ⟨ft _, (List.forall_mem_cons.mpr ⟨fo _, (fun _ h => nomatch h)⟩)⟩)
  refine ⟨_, rfl, (by show 1 ≤ sizeLine; decide), fun p14 n14 => ?_⟩
  have w14 := w13.lst n14 (xs := [.str one])
  refine ⟨_, rfl, _, rfl, (by show 2 ≤ sizeLine; decide), fun p15 n15 => ?_⟩
  have w15 := w14.lst n15 (xs := [.str one, .str two])
  refine fun p16 n16 => ?_
  refine ⟨_, rfl, _, rfl, upd_same, [(Sum.inr one, .str two)], rfl, (by show 1 ≤ 15; decide), ?_⟩
  rw [L2.upd_upd]
  have w16 := (w15.keep (o := .dK (mergeK [] [(Sum.inr one, .str two)])) n16).add (good_dK upd_same)
  refine ⟨(by show 9 ≤ sizeLine; decide), fun L2' nL2 => ?_⟩
  have w17 := w16.pinned nL2 (o := .lst [.ref p8, .ref p9, .ref p10, .ref p11, .ref p12, .ref p13, .ref p14, .ref p15, .ref p16])
  refine ⟨L, L2', _, _, rfl, rfl, (w17.pin (L, _) (.tail _ (.head _))).1, upd_same, (by show 6 + 9 ≤ sizeLine; decide), fun G nG => ?_⟩
  have w18 := w17.pinned nG (o := .lst ([.ref p1, .ref p2, .ref p3, .ref p4, .ref p5, .ref p6] ++ [.ref p8, .ref p9, .ref p10, .ref p11, .ref p12, .ref p13, .ref p14, .ref p15, .ref p16]))
  -- odd = one_of(..)
  refine ⟨_, rfl, ?_⟩
  refine ⟨_, rfl, _, rfl, _, _, rfl, rfl, sz1000 (by omega), _, _, rfl, rfl, sz1000 (by rw [strLen_append, lx]; omega), ?_⟩
  refine ⟨_, rfl, (by show 1 ≤ sizeLine; decide), fun p19 n19 => ?_⟩
  have w19 := w18.tup n19 (xs := [.str one]) (by show 1 ≤ 900; decide) (List.forall_mem_cons.mpr ⟨fo _, (fun _ h => nomatch h)⟩)
  refine ⟨_, rfl, (by show 1 ≤ sizeLine; decide), fun p20 n20 => ?_⟩
  have w20 := w19.lst n20 (xs := [.str one])
  refine ⟨_, rfl, _, _, rfl, rfl, sz1000 (by rw [ly]; omega), ?_⟩
  refine ⟨(by show 9 ≤ sizeLine; decide), fun L3 nL3 => ?_⟩
  have w21 := w20.keep nL3 (o := .lst [.str "", .str "A", .str (one ++ two ++ Str.ofString "xxxxxxxx"), .non, .int 0, .bl true, .ref p19, .ref p20, .str (Str.ofString " " ++ one)])
  refine ⟨m, L3, _, rfl, w21.kp.ml, w20.kp.ml.ne nL3, upd_same, by show 0 < 9; decide, by show 9 ≤ 1000; decide, fun H22 odd k22 hodd => ?_⟩
  have go := odd_good l1 l2 w21 hodd
  have w22 := (w21.call k22).add (go.kp k22 w21.kp.ml)
  -- return found + [..]
  refine ⟨_, rfl, ?_⟩
  refine ⟨_, rfl, (by show 1 ≤ sizeLine; decide), fun p23 n23 => ?_⟩
  have w23 := w22.tup n23 (xs := [odd]) (by show 1 ≤ 900; decide) (List.forall_mem_cons.mpr ⟨(w22.good odd (by simp)).1, (fun _ h => nomatch h)⟩)
  refine ⟨_, rfl, _, rfl, (by show 2 ≤ sizeLine; decide), fun p24 n24 => ?_⟩
  have w24 := w23.keep n24 (o := .lst [.str one, .str two])
  refine ⟨p24, [one, two], rfl, .inl (.inl upd_same), (by show 2 < 64; decide), fun so p25 pm srt n25 => ?_⟩
  have w25 := w24.keep n25 (o := .lst (so.map V.str))
  refine ⟨p25, so.map V.str, rfl, .inl ⟨.inl (.inl upd_same), fun p26 n26 => ?_⟩⟩
  have w26 := w25.pinned n26 (o := .tup (so.map V.str))
  refine ⟨_, rfl, (by show 1 ≤ sizeLine; decide), fun p27 n27 => ?_⟩
  have w27 := w26.keep n27 (o := .tup [odd])
  have lso : so.length = 2 := pm.length_eq
  refine ⟨p26, p27, so.map V.str, [odd], rfl, rfl, .inl (.inl (w27.pin (p26, _) (.head _)).1), .inl (.inl upd_same), ?_, ?_, (fun z => nomatch z), fun _ p28 n28 => ?_⟩
  · intro z
    have := congrArg List.length z
    rw [List.length_map, lso] at this
    cases this
  · rw [List.length_map, lso]; show 2 + 1 ≤ sizeLine; decide
  have w28 := w27.tup n28 (xs := so.map V.str ++ [odd]) (by rw [List.length_append, List.length_map, lso]; show 2 + 1 ≤ 900; decide) (fun x hx => by
    rcases List.mem_append.mp hx with h | h
    · obtain ⟨y, hy, rfl⟩ := List.mem_map.mp h
      have := pm.mem_iff.mp hy
      rcases List.mem_cons.mp this with e | e
      · rw [e]; exact fo _
      · rw [List.mem_singleton.mp e]; exact ft _
    · rw [List.mem_singleton.mp h]
      exact (w27.good odd (by simp)).1)
  refine ⟨_, rfl, _, rfl, (by show 1 ≤ sizeLine; decide), fun p29 n29 => ?_⟩
  have w29 := w28.tup n29 (xs := [.str two]) (by show 1 ≤ 900; decide) (List.forall_mem_cons.mpr ⟨ft _, (fun _ h => nomatch h)⟩)
  refine ⟨(by show 2 ≤ sizeLine; decide), fun p30 n30 => ?_⟩
  have w30 := w29.tup n30 (xs := [.str one, .ref p29]) (by show 2 ≤ 900; decide) (List.forall_mem_cons.mpr ⟨fo _, List.forall_mem_cons.mpr ⟨(w29.good (.ref p29) (by simp)).1, (fun _ h => nomatch h)⟩⟩)
  refine ⟨(by show 0 ≤ sizeLine; decide), fun p31 n31 => ?_⟩
  have w31 := w30.tup n31 (xs := []) (by show 0 ≤ 900; decide) (fun _ h => nomatch h)
  refine ⟨(by show 1 ≤ sizeLine; decide), fun p32 n32 => ?_⟩
  have w32 := w31.tup n32 (xs := [.ref p31]) (by show 1 ≤ 900; decide) (List.forall_mem_cons.mpr ⟨(w31.good (.ref p31) (by simp)).1, (fun _ h => nomatch h)⟩)
  refine ⟨(by show 4 ≤ sizeLine; decide), fun L4 nL4 => ?_⟩
  have w33 := w32.keep nL4 (o := .lst [.ref p23, .ref p28, .ref p30, .ref p32])
  refine ⟨G, L4, _, _, rfl, rfl, (w33.pin (G, _) (.tail _ (.head _))).1, upd_same, (by show 15 + 4 ≤ sizeLine; decide), fun R nR => ?_⟩
  have w34 := w33.keep nR (o := .lst (([.ref p1, .ref p2, .ref p3, .ref p4, .ref p5, .ref p6] ++ [.ref p8, .ref p9, .ref p10, .ref p11, .ref p12, .ref p13, .ref p14, .ref p15, .ref p16]) ++ [.ref p23, .ref p28, .ref p30, .ref p32]))
  refine q _ R _ w34.kp (w33.kp.free nR) upd_same (by show 19 ≤ 30; decide) fun v hv => w34.good v ?_
  simp only [List.mem_append, List.mem_cons, List.not_mem_nil, or_false] at hv
  repeat' (rcases hv with hv | hv)
  all_goals simp
end
end K00
set_option Elab.async false
set_option linter.all false
set_option maxRecDepth 100000
set_option maxHeartbeats 4000000
/-! a cell, the law -/
namespace K00
open PySem PySem.Spec PyProof.Rows L2 Wk
section
variable {P : Program} {w : World} {K : PySem.W.Frag} {mg : Str → Option Value} {base : Heap}

def d3 (a b c : Bool) : PyData := .list [.bool a, .bool b, .bool c]
theorem d3_show (a b c : Bool) : (d3 a b c).showable = true := by
  unfold d3
  simp only [PyData.showable, PyData.showableAll, Bool.and_self]
theorem d3_depth (a b c : Bool) : (d3 a b c).depth ≤ 60 := by
  unfold d3
  simp only [PyData.depth, PyData.depthAll]
  decide
theorem d3_size (a b c : Bool) : (d3 a b c).shown.length ≤ sizeLine := by
  unfold d3
  simp only [PyData.shown, PyData.shownAll]
  cases a <;> cases b <;> cases c <;> decide +kernel
theorem same_kp {m : Addr} {H H' : Hp} {o : HO} (nm : H m = none) (k : Kp m (upd H m o) H') : Same H H' := fun b u q => by
  have n : b ≠ m := ne_of_none q nm
  exact k.keep b u n (by rw [upd_ne n]; exact q)
theorem dp3 {H : Hp} {F : Addr} {a b c : Bool} (e : H F = some (.lst [.bl a, .bl b, .bl c])) : Dp K H (.ref F) (d3 a b c) :=
  .lst (.inl (.inl e)) (.cons (.bl a) (.cons (.bl b) (.cons (.bl c) .nil)))

def spCell (K : PySem.W.Frag) : Sp := fun vs H Q _ => ∃ (a : Addr) (at' : Nat) (ns : List Int), vs = [.ref a, .int at'] ∧ SqL K H a (ns.map V.int) ∧ ns.length ≤ 1000 ∧ at' ≤ 1000 ∧
  ∀ H', Same H H' → Q (.bl true) H'
theorem ok_L_cell_right (D : DefAt K mg "_law_cell_right" s_L_cell_right) (M : Txt mg)
    (C_L_mill : Gc P w K mg base CX0 1 "_law_mill" (spMill K)) (C_L_bounds : Gc P w K mg base CX0 2 "_law_bounds" spBounds)
    (C_L_texts : Gc P w K mg base CX0 3 "_law_texts" spTexts) (C_L_tuples : Gc P w K mg base CX0 4 "_law_tuples" (spTuples K))
    (C_is_integer : Gc P w K mg base CX0 1 "is_integer" (spInt K)) (C_is_name : Gc P w K mg base CX0 1 "is_name" (spName K)) (C_is_set : Gc P w K mg base CX0 2 "is_set" (spSet K))
    (C_L_is_short : Gc P w K mg base CX0 1 "_law_is_short" (spInt K)) (C_L_spelled : Gc P w K mg base CX0 1 "_law_spelled" (spName K))
    (C_L_is_set : Gc P w K mg base CX0 2 "_law_is_set" (spSet K)) :
    Gc P w K mg base CX0 5 "_law_cell_right" (spCell K) := by
  refine D.ok0 sc_L_cell_right (fun kV doc pm an cdv ct us hl => match us, hl with | [_, _], _ => rfl) (fun vs H Q E h => by obtain ⟨m, t, ns, rfl, _⟩ := h; rfl)
    (fun f cdv A outer s H vs Q E hr h => ?_)
  have nd := sc_L_cell_right.nd
  obtain ⟨a, at', ns, rfl, scr, few, small, q⟩ := h
  refine ⟨_, (pss_cons (ps_par (i := 2) (j := 3) (by rfl) nd rfl rfl (by decide) rfl rfl (pa_cons (pe_g C_L_mill hr (by decide) (by rfl) pass0 (pa_cons (pv 0) (pa_cons (pv 1) pa_nil))) (pa_cons (pe_op op_add (pe_op op_mul pe_int (pv 1)) pe_int) pa_nil)) (by rfl))
      (pss_cons (ps_if (pt_cmpR op_lt (pv 1) (pe_callB (call_len_seqK (K := K) rfl) (by rfl) M.len (by decide +kernel) (pa_cons (pv 0) pa_nil)) (nomark _))
      (pss_one (ps_set (i := 3) nd rfl (Or.inl rfl) (pe_ix (ix_listK (K := K) rfl) (pv 0) (pv 1) (fun _ _ => rfl)))) pss_nil)
      (pss_cons (ps_set (i := 4) nd rfl (Or.inl rfl) (pe_op op_cat (pe_op op_cat (pe_g C_L_bounds hr (by decide) (by rfl) pass0 (pa_cons (pv 2) (pa_cons (pv 3) pa_nil))) (pe_g C_L_texts hr (by decide) (by rfl) pass0 (pa_cons (pv 2) pa_nil))) (pe_g C_L_tuples hr (by decide) (by rfl) pass0 (pa_cons (pv 2) pa_nil))))
      (pss_cons (ps_set (i := 4) nd rfl (Or.inl rfl) (pe_op op_cat (pv 4) (pe_lst (pa_cons pe_bl (pa_cons pe_bl (pa_cons pe_non (pa_cons pe_str (pa_cons (pe_lst pa_nil) (pa_cons pe_dnewK (pa_cons (pe_tup (pa_cons (pe_lst pa_nil) pa_nil)) (pa_cons (pe_tup (pa_cons pe_int pa_nil)) (pa_cons (pe_tup (pa_cons pe_non pa_nil)) (pa_cons (pe_lst (pa_cons pe_int pa_nil)) (pa_cons (pe_disp (pps_cons pe_str pe_int pps_nil) (by rfl) (by rfl) (fun z => by cases z) (by decide)) (pa_cons pe_str (pa_cons pe_str pa_nil))))))))))))))))
      (pss_cons (ps_for PassesOwn.never rfl (pi_range1 (by rfl) M.range (pa_cons pe_int pa_nil)) (pg_name (i := 5) nd rfl (Or.inl rfl))
      (pss_one (ps_for PassesOwn.never rfl (pi_list (pv 4)) (pg_name (i := 6) nd rfl (Or.inl rfl))
      (pss_cons (ps_set (i := 7) nd rfl (Or.inl rfl) (pe_lst (pa_cons (pe_g C_is_integer hr (by decide) (by rfl) pass0 (pa_cons (pv 6) pa_nil)) (pa_cons (pe_g C_is_name hr (by decide) (by rfl) pass0 (pa_cons (pv 6) pa_nil)) (pa_cons (pe_g C_is_set hr (by decide) (by rfl) pass0 (pa_cons (pv 6) pa_nil)) pa_nil)))))
      (pss_one (ps_if (pt_cmpR op_ne (pe_callB (call_reprK (K := K) rfl hr) (by rfl) M.repr (by decide +kernel) (pa_cons (pv 7) pa_nil)) (pe_callB (call_reprK (K := K) rfl hr) (by rfl) M.repr (by decide +kernel) (pa_cons (pe_lst (pa_cons (pe_g C_L_is_short hr (by decide) (by rfl) pass0 (pa_cons (pv 6) pa_nil)) (pa_cons (pe_g C_L_spelled hr (by decide) (by rfl) pass0 (pa_cons (pv 6) pa_nil)) (pa_cons (pe_g C_L_is_set hr (by decide) (by rfl) pass0 (pa_cons (pv 6) pa_nil)) pa_nil)))) pa_nil)) (nomark _))
      (pss_one (ps_ret pe_bl)) pss_nil))))))
      (pss_one (ps_ret pe_bl))))))), ?_⟩
  -- the mill
  refine ⟨_, rfl, _, rfl, a, at', ns, rfl, scr, small, fun m x y z nm x0 => ?_⟩
  have am : ∀ o, H a = some o → a ≠ m := fun o e => ne_of_none e nm
  have sq1 : SqL K (upd H m (.lst [.int x, .int y, .int z])) a (ns.map V.int) := SqL.kept scr fun o e => same_at nm _ _ e
  have ml1 : Ml (upd H m (.lst [.int x, .int y, .int z])) m := ⟨x, y, z, upd_same, x0⟩
  have k1 : Kp m (upd H m (.lst [.int x, .int y, .int z])) (upd H m (.lst [.int x, .int y, .int z])) := Kp.refl ml1
  generalize eH1 : upd H m (.lst [.int x, .int y, .int z]) = H1 at *
  have back : ∀ {H' : Hp}, Kp m H1 H' → Same H H' := fun k => by
    rw [← eH1] at k
    exact same_kp nm k
  refine ⟨_, rfl, _, _, rfl, rfl, .inl (by decide), _, _, rfl, rfl, _, _, rfl, ?_⟩
  refine ⟨_, rfl, _, rfl, _, _, rfl, .inl sq1, _, _, rfl, rfl, _, rfl, ite2 (fun hc => ?_) (fun hc => ?_)⟩
  · have lt : at' < ns.length := by
      have := of_decide_eq_true hc
      rw [List.length_map] at this
      omega
    refine ⟨_, rfl, _, rfl, _, _, _, .int ns[at'], rfl, rfl, sq1, atI_nat (j := at') (by rw [List.getElem?_map, List.getElem?_eq_getElem lt]; rfl), ?_⟩
    generalize ns[at'] = cell
    refine ⟨_, rfl, _, rfl, m, cell, rfl, ml1, fun H2 b1 ns1 k2 nb1 eb1 lb1 => ?_⟩
    refine ⟨_, rfl, m, rfl, k2.ml, fun H3 b2 ys k3 nb2 eb2 lb2 by40 => ?_⟩
    have w3 : Wd K m H1 H3 [] [] := ⟨k2.trans k3, (fun v h => nomatch h), (fun q h => nomatch h)⟩
    refine ⟨b1, b2, _, _, rfl, rfl, k3.keep _ _ (ml1.ne nb1) eb1, eb2, ?_, fun b3 nb3 => ?_⟩
    · rw [List.length_map, List.length_map]
      exact sz1000 (by omega)
    have w4 := w3.pinned nb3 (o := .lst (ns1.map V.int ++ ys.map V.str))
    refine ⟨_, rfl, m, rfl, w4.kp.ml, fun H5 b4 us k5 nb4 eb4 lb4 good => ?_⟩
    have w5 := w4.call k5
    have w5 : Wd K m H1 H5 us _ := ⟨w5.kp, good, w5.pin⟩
    refine ⟨b3, b4, _, _, rfl, rfl, (w5.pin (b3, _) (.head _)).1, eb4, ?_, fun b5 nb5 => ?_⟩
    · rw [List.length_append, List.length_map, List.length_map]
      exact sz1000 (by omega)
    have w6 := w5.pinned nb5 (o := .lst ((ns1.map V.int ++ ys.map V.str) ++ us))
    -- values + [True, ..]
    refine ⟨_, rfl, ?_⟩
    refine ⟨Nat.zero_le _, fun p1 n1 => ?_⟩
    have w7 := w6.lst n1 (xs := [])
    refine fun p2 n2 => ?_
    have w8 := (w7.keep n2 (o := .dK [])).add (good_dK upd_same)
    refine ⟨Nat.zero_le _, fun p3 n3 => ?_⟩
    have w9 := w8.lst n3 (xs := [])
    refine ⟨(by show 1 ≤ sizeLine; decide), fun p4 n4 => ?_⟩
    have w10 := w9.tup n4 (xs := [.ref p3]) (by show 1 ≤ 900; decide) (List.forall_mem_cons.mpr ⟨(w9.good (.ref p3) (by simp)).1, (fun _ h => nomatch h)⟩)
    refine ⟨(by show 1 ≤ sizeLine; decide), fun p5 n5 => ?_⟩
    have w11 := w10.tup n5 (xs := [.int 0]) (by show 1 ≤ 900; decide) (List.forall_mem_cons.mpr ⟨(good_int 0).1, (fun _ h => nomatch h)⟩)
    refine ⟨(by show 1 ≤ sizeLine; decide), fun p6 n6 => ?_⟩
    have w12 := w11.tup n6 (xs := [.non]) (by show 1 ≤ 900; decide) (List.forall_mem_cons.mpr ⟨good_non.1, (fun _ h => nomatch h)⟩)
    refine ⟨(by show 1 ≤ sizeLine; decide), fun p7 n7 => ?_⟩
    have w13 := w12.lst n7 (xs := [.int 1])
    refine fun p8 n8 => ?_
    refine ⟨upd_same, [(Sum.inr "a", .int 1)], rfl, (by show 1 ≤ 15; decide), ?_⟩
    rw [L2.upd_upd]
    have w14 := (w13.keep (o := .dK (mergeK [] [(Sum.inr "a", .int 1)])) n8).add (good_dK upd_same)
    refine ⟨(by show 13 ≤ sizeLine; decide), fun b6 nb6 => ?_⟩
    have w15 := w14.keep nb6 (o := .lst [.bl true, .bl false, .non, .str "1", .ref p1, .ref p2, .ref p4, .ref p5, .ref p6, .ref p7, .ref p8, .str "abcdefgh", .str "abcdefghi"])
    refine ⟨b5, b6, _, _, rfl, rfl, (w15.pin (b5, _) (.head _)).1, upd_same, ?_, fun b7 nb7 => ?_⟩
    · rw [List.length_append, List.length_append, List.length_map, List.length_map]
      show ns1.length + ys.length + us.length + 13 ≤ sizeLine
      exact sz1000 (by omega)
    generalize eV : (((ns1.map V.int ++ ys.map V.str) ++ us) ++ [.bl true, .bl false, .non, .str "1", .ref p1, .ref p2, .ref p4, .ref p5, .ref p6, .ref p7, .ref p8, .str "abcdefgh", .str "abcdefghi"] : List V) = vals
    have w16 := w15.pinned nb7 (o := .lst vals)
    have all : ∀ v ∈ vals, Good K _ v := fun v hv => by
      rw [← eV] at hv
      rcases List.mem_append.mp hv with hv | hv
      · rcases List.mem_append.mp hv with hv | hv
        · rcases List.mem_append.mp hv with hv | hv
          · obtain ⟨i, _, rfl⟩ := List.mem_map.mp hv
            exact good_int i
          · obtain ⟨y, hy, rfl⟩ := List.mem_map.mp hv
            exact good_str (by have := by40 y hy; omega)
        · exact w16.good v (by simp [hv])
      · simp only [List.mem_cons, List.not_mem_nil, or_false] at hv
        rcases hv with e | e | e | e | e | e | e | e | e | e | e | e | e <;> rw [e]
        · exact good_bl _
        · exact good_bl _
        · exact good_non
        · exact good_str (by decide +kernel)
        · exact w16.good _ (by simp)
        · exact w16.good _ (by simp)
        · exact w16.good _ (by simp)
        · exact w16.good _ (by simp)
        · exact w16.good _ (by simp)
        · exact w16.good _ (by simp)
        · exact w16.good _ (by simp)
        · exact good_str (by decide +kernel)
        · exact good_str (by decide +kernel)
    have eL := (w16.pin (b7, _) (.head _)).1
    have sH := back w16.kp
    generalize eHx : upd _ b7 (.lst vals) = Hx at all eL sH ⊢
    -- the turns
    refine ⟨2, rfl, by decide, by decide, ?_⟩
    refine for_range (lo := 0) (n := 2) (fun i σ H' => Same Hx H' ∧ ∃ y5 y6 y7, σ = [some (.ref a), some (.int at'), some (.ref m), some (.int cell), some (.ref b7), y5, y6, y7]) ⟨Same.refl _, none, none, none, rfl⟩
      (fun i σ H' hi hp => ?_) (fun σ H' hp => ?_)
    · obtain ⟨s1, y5, y6, y7, rfl⟩ := hp
      refine ⟨_, rfl, b7, rfl, ⟨_, .inl (.inl (s1 _ _ eL))⟩, ?_⟩
      refine for_list (K := K) (a := b7) (xs := vals) (fun j σ H' => Same Hx H' ∧ ∃ y5 y6 y7, σ = [some (.ref a), some (.int at'), some (.ref m), some (.int cell), some (.ref b7), y5, y6, y7]) ⟨s1, _, y6, y7, rfl⟩
        (fun j σ H' _ hp => .inl (.inl (hp.1 _ _ eL))) (fun j v σ H' hv hp => ?_) (fun σ H' hp => hp)
      obtain ⟨s1, y5, y6, y7, rfl⟩ := hp
      obtain ⟨⟨t, kd, len⟩, b, ans⟩ := (all v (List.mem_of_getElem? hv)).same s1
      refine ⟨_, rfl, v, t, rfl, kd, ?_⟩
      refine ⟨_, rfl, v, t, rfl, kd, len, fun Ha sa => ?_⟩
      refine ⟨_, rfl, v, b, rfl, ans.same sa, fun Hb sb => ?_⟩
      refine ⟨(by show 3 ≤ sizeLine; decide), fun F nF => ?_⟩
      have sF : Same H' (upd Hb F (.lst [.bl (intV v), .bl (nameV v), .bl b])) := same_new (sa.trans sb) nF
      refine ⟨_, rfl, .ref F, d3 (intV v) (nameV v) b, rfl, dp3 upd_same, d3_show _ _ _, d3_depth _ _ _, d3_size _ _ _, ?_⟩
      refine ⟨_, rfl, v, t, rfl, kd.same sF, ?_⟩
      refine ⟨_, rfl, v, t, rfl, kd.same sF, len, fun Hc sc => ?_⟩
      refine ⟨_, rfl, v, b, rfl, (ans.same sF).same sc, fun Hd sd => ?_⟩
      refine ⟨(by show 3 ≤ sizeLine; decide), fun G nG => ?_⟩
      refine ⟨.ref G, d3 (intV v) (nameV v) b, rfl, dp3 upd_same, d3_show _ _ _, d3_depth _ _ _, d3_size _ _ _, ?_⟩
      refine ⟨rfl, _, rfl, ?_⟩
      refine (if_neg (by rw [decide_eq_true rfl]; exact Bool.false_ne_true)).mpr ?_
      exact ⟨s1.trans (same_new (sF.trans (sc.trans sd)) nG), _, _, _, rfl⟩
    · obtain ⟨s1, y5, y6, y7, rfl⟩ := hp
      exact q _ (sH.trans s1)
  ·
    refine ⟨_, rfl, _, rfl, m, (29 * (at' : Int) + 3), rfl, ml1, fun H2 b1 ns1 k2 nb1 eb1 lb1 => ?_⟩
    refine ⟨_, rfl, m, rfl, k2.ml, fun H3 b2 ys k3 nb2 eb2 lb2 by40 => ?_⟩
    have w3 : Wd K m H1 H3 [] [] := ⟨k2.trans k3, (fun v h => nomatch h), (fun q h => nomatch h)⟩
    refine ⟨b1, b2, _, _, rfl, rfl, k3.keep _ _ (ml1.ne nb1) eb1, eb2, ?_, fun b3 nb3 => ?_⟩
    · rw [List.length_map, List.length_map]
      exact sz1000 (by omega)
    have w4 := w3.pinned nb3 (o := .lst (ns1.map V.int ++ ys.map V.str))
    refine ⟨_, rfl, m, rfl, w4.kp.ml, fun H5 b4 us k5 nb4 eb4 lb4 good => ?_⟩
    have w5 := w4.call k5
    have w5 : Wd K m H1 H5 us _ := ⟨w5.kp, good, w5.pin⟩
    refine ⟨b3, b4, _, _, rfl, rfl, (w5.pin (b3, _) (.head _)).1, eb4, ?_, fun b5 nb5 => ?_⟩
    · rw [List.length_append, List.length_map, List.length_map]
      exact sz1000 (by omega)
    have w6 := w5.pinned nb5 (o := .lst ((ns1.map V.int ++ ys.map V.str) ++ us))
    -- values + [True, ..]
    refine ⟨_, rfl, ?_⟩
    refine ⟨Nat.zero_le _, fun p1 n1 => ?_⟩
    have w7 := w6.lst n1 (xs := [])
    refine fun p2 n2 => ?_
    have w8 := (w7.keep n2 (o := .dK [])).add (good_dK upd_same)
    refine ⟨Nat.zero_le _, fun p3 n3 => ?_⟩
    have w9 := w8.lst n3 (xs := [])
    refine ⟨(by show 1 ≤ sizeLine; decide), fun p4 n4 => ?_⟩
    have w10 := w9.tup n4 (xs := [.ref p3]) (by show 1 ≤ 900; decide) (List.forall_mem_cons.mpr ⟨(w9.good (.ref p3) (by simp)).1, (fun _ h => nomatch h)⟩)
    refine ⟨(by show 1 ≤ sizeLine; decide), fun p5 n5 => ?_⟩
    have w11 := w10.tup n5 (xs := [.int 0]) (by show 1 ≤ 900; decide) (List.forall_mem_cons.mpr ⟨(good_int 0).1, (fun _ h => nomatch h)⟩)
    refine ⟨(by show 1 ≤ sizeLine; decide), fun p6 n6 => ?_⟩
    have w12 := w11.tup n6 (xs := [.non]) (by show 1 ≤ 900; decide) (List.forall_mem_cons.mpr ⟨good_non.1, (fun _ h => nomatch h)⟩)
    refine ⟨(by show 1 ≤ sizeLine; decide), fun p7 n7 => ?_⟩
    have w13 := w12.lst n7 (xs := [.int 1])
    refine fun p8 n8 => ?_
    refine ⟨upd_same, [(Sum.inr "a", .int 1)], rfl, (by show 1 ≤ 15; decide), ?_⟩
    rw [L2.upd_upd]
    have w14 := (w13.keep (o := .dK (mergeK [] [(Sum.inr "a", .int 1)])) n8).add (good_dK upd_same)
    refine ⟨(by show 13 ≤ sizeLine; decide), fun b6 nb6 => ?_⟩
    have w15 := w14.keep nb6 (o := .lst [.bl true, .bl false, .non, .str "1", .ref p1, .ref p2, .ref p4, .ref p5, .ref p6, .ref p7, .ref p8, .str "abcdefgh", .str "abcdefghi"])
    refine ⟨b5, b6, _, _, rfl, rfl, (w15.pin (b5, _) (.head _)).1, upd_same, ?_, fun b7 nb7 => ?_⟩
    · rw [List.length_append, List.length_append, List.length_map, List.length_map]
      show ns1.length + ys.length + us.length + 13 ≤ sizeLine
      exact sz1000 (by omega)
    generalize eV : (((ns1.map V.int ++ ys.map V.str) ++ us) ++ [.bl true, .bl false, .non, .str "1", .ref p1, .ref p2, .ref p4, .ref p5, .ref p6, .ref p7, .ref p8, .str "abcdefgh", .str "abcdefghi"] : List V) = vals
    have w16 := w15.pinned nb7 (o := .lst vals)
    have all : ∀ v ∈ vals, Good K _ v := fun v hv => by
      rw [← eV] at hv
      rcases List.mem_append.mp hv with hv | hv
      · rcases List.mem_append.mp hv with hv | hv
        · rcases List.mem_append.mp hv with hv | hv
          · obtain ⟨i, _, rfl⟩ := List.mem_map.mp hv
            exact good_int i
          · obtain ⟨y, hy, rfl⟩ := List.mem_map.mp hv
            exact good_str (by have := by40 y hy; omega)
        · exact w16.good v (by simp [hv])
      · simp only [List.mem_cons, List.not_mem_nil, or_false] at hv
        rcases hv with e | e | e | e | e | e | e | e | e | e | e | e | e <;> rw [e]
        · exact good_bl _
        · exact good_bl _
        · exact good_non
        · exact good_str (by decide +kernel)
        · exact w16.good _ (by simp)
        · exact w16.good _ (by simp)
        · exact w16.good _ (by simp)
        · exact w16.good _ (by simp)
        · exact w16.good _ (by simp)
        · exact w16.good _ (by simp)
        · exact w16.good _ (by simp)
        · exact good_str (by decide +kernel)
        · exact good_str (by decide +kernel)
    have eL := (w16.pin (b7, _) (.head _)).1
    have sH := back w16.kp
    generalize eHx : upd _ b7 (.lst vals) = Hx at all eL sH ⊢
    -- the turns
    refine ⟨2, rfl, by decide, by decide, ?_⟩
    refine for_range (lo := 0) (n := 2) (fun i σ H' => Same Hx H' ∧ ∃ y5 y6 y7, σ = [some (.ref a), some (.int at'), some (.ref m), some (.int (29 * (at' : Int) + 3)), some (.ref b7), y5, y6, y7]) ⟨Same.refl _, none, none, none, rfl⟩
      (fun i σ H' hi hp => ?_) (fun σ H' hp => ?_)
    · obtain ⟨s1, y5, y6, y7, rfl⟩ := hp
      refine ⟨_, rfl, b7, rfl, ⟨_, .inl (.inl (s1 _ _ eL))⟩, ?_⟩
      refine for_list (K := K) (a := b7) (xs := vals) (fun j σ H' => Same Hx H' ∧ ∃ y5 y6 y7, σ = [some (.ref a), some (.int at'), some (.ref m), some (.int (29 * (at' : Int) + 3)), some (.ref b7), y5, y6, y7]) ⟨s1, _, y6, y7, rfl⟩
        (fun j σ H' _ hp => .inl (.inl (hp.1 _ _ eL))) (fun j v σ H' hv hp => ?_) (fun σ H' hp => hp)
      obtain ⟨s1, y5, y6, y7, rfl⟩ := hp
      obtain ⟨⟨t, kd, len⟩, b, ans⟩ := (all v (List.mem_of_getElem? hv)).same s1
      refine ⟨_, rfl, v, t, rfl, kd, ?_⟩
      refine ⟨_, rfl, v, t, rfl, kd, len, fun Ha sa => ?_⟩
      refine ⟨_, rfl, v, b, rfl, ans.same sa, fun Hb sb => ?_⟩
      refine ⟨(by show 3 ≤ sizeLine; decide), fun F nF => ?_⟩
      have sF : Same H' (upd Hb F (.lst [.bl (intV v), .bl (nameV v), .bl b])) := same_new (sa.trans sb) nF
      refine ⟨_, rfl, .ref F, d3 (intV v) (nameV v) b, rfl, dp3 upd_same, d3_show _ _ _, d3_depth _ _ _, d3_size _ _ _, ?_⟩
      refine ⟨_, rfl, v, t, rfl, kd.same sF, ?_⟩
      refine ⟨_, rfl, v, t, rfl, kd.same sF, len, fun Hc sc => ?_⟩
      refine ⟨_, rfl, v, b, rfl, (ans.same sF).same sc, fun Hd sd => ?_⟩
      refine ⟨(by show 3 ≤ sizeLine; decide), fun G nG => ?_⟩
      refine ⟨.ref G, d3 (intV v) (nameV v) b, rfl, dp3 upd_same, d3_show _ _ _, d3_depth _ _ _, d3_size _ _ _, ?_⟩
      refine ⟨rfl, _, rfl, ?_⟩
      refine (if_neg (by rw [decide_eq_true rfl]; exact Bool.false_ne_true)).mpr ?_
      exact ⟨s1.trans (same_new (sF.trans (sc.trans sd)) nG), _, _, _, rfl⟩
    · obtain ⟨s1, y5, y6, y7, rfl⟩ := hp
      exact q _ (sH.trans s1)
end
end K00
set_option Elab.async false
set_option linter.all false
set_option maxRecDepth 100000
set_option maxHeartbeats 4000000
/-! the law -/
namespace K00
open PySem PySem.Spec PyProof.Rows L2 Wk
section
variable {P : Program} {w : World} {K : PySem.W.Frag} {mg : Str → Option Value} {base : Heap}
def spLaw (K : PySem.W.Frag) : Sp := fun vs H Q _ => ∃ (a : Addr) (ns : List Int), vs = [.ref a] ∧ SqL K H a (ns.map V.int) ∧ ns.length ≤ 63 ∧ ∀ H', Q (.bl true) H'
theorem law_start {H : Hp} {a : Addr} {ns : List Int} {E : XK} (ho : Only H) (hS : SqL K H a (ns.map V.int)) (hl : ns.length ≤ 63) : spLaw K [.ref a] H (fun v _ => v = .bl true) E :=
  ⟨a, ns, rfl, hS, hl, fun _ => rfl⟩
theorem ok_law {f : Addr} {oc : Value} {od an : Option Addr} {osl : Array (Option Value)} {kV doc pm cdv ct : Value}
    (l : K.lookup f = some ⟨oc, od, .func (PySem.W.fnOf "law" "law" (defArgs s_law) (defBody s_law) (defScope s_law) .none kV doc pm an cdv ct), osl⟩) (c : PySem.W.codeIn K cdv "law" = true)
    (M : Txt mg) (C_L_cell_right : Gc P w K mg base CX0 5 "_law_cell_right" (spCell K)) :
    GFn P w K mg base CX0 6 f (PySem.W.fnOf "law" "law" (defArgs s_law) (defBody s_law) (defScope s_law) .none kV doc pm an cdv ct) ["_law_script"] (spLaw K) := by
  refine gfn_of l c sc_law (fun vs H Q E h => by obtain ⟨a, ns, rfl, _⟩ := h; rfl) (fun A outer s H vs Q E hr h => ?_)
  have nd := sc_law.nd
  obtain ⟨a, ns, rfl, scr, few, q⟩ := h
  suffices hh : ∃ t, PSs (cxOf CX0 P w K mg base NN_law "law" (defScope s_law) f cdv A outer s H E).nox (defBody s_law) t ∧ t { nx := fun _ H' => Q .non H', rt := Q } (start NN_law [.ref a]) H by
    obtain ⟨t, ht, qt⟩ := hh
    exact ⟨t, ht.nox, qt⟩
  refine ⟨_, (pss_cons (ps_if (pt_cmpR op_ne (C8.pe_gc rfl M.MAX_LETTERS) pe_int (nomark _))
      (pss_one (ps_ret pe_bl)) pss_nil)
      (pss_cons (ps_for PassesOwn.never rfl (pi_range1 (by rfl) M.range (pa_cons (pe_callB (call_max2 rfl) (by rfl) M.max (by decide +kernel) (pa_cons pe_int (pa_cons (pe_callB (call_min2 rfl) (by rfl) M.min (by decide +kernel) (pa_cons pe_int (pa_cons (pe_callB (call_len_seqK (K := K) rfl) (by rfl) M.len (by decide +kernel) (pa_cons (pv 0) pa_nil)) pa_nil))) pa_nil))) pa_nil)) (pg_name (i := 1) nd rfl (Or.inl rfl))
      (pss_one (ps_if (pt_not (pt_val (pe_g C_L_cell_right hr (by decide) (by rfl) pass0 (pa_cons (pv 0) (pa_cons (pv 1) pa_nil)))))
      (pss_one (ps_ret pe_bl)) pss_nil)))
      (pss_one (ps_ret pe_bl)))), ?_⟩
  refine ⟨rfl, _, rfl, ?_⟩
  refine iteF ?_
  refine ⟨_, rfl, _, _, rfl, .inl scr, _, _, rfl, _, _, rfl, ?_⟩
  generalize eT : (if (if ((ns.map V.int).length : Int) < 8 then ((ns.map V.int).length : Int) else 8) > 1 then (if ((ns.map V.int).length : Int) < 8 then ((ns.map V.int).length : Int) else 8) else 1) = turns
  have t8 : 1 ≤ turns ∧ turns ≤ 8 := by
    rw [← eT]
    split <;> split <;> omega
  refine ⟨turns, rfl, by omega, by omega, ?_⟩
  have scrS : ∀ {H' : Hp}, Same H H' → SqL K H' a (ns.map V.int) := fun sm => SqL.kept scr fun o e => sm _ _ e
  refine for_range (lo := 0) (n := turns.toNat) (fun i σ H' => Same H H' ∧ ∃ y1, σ = [some (.ref a), y1]) ⟨Same.refl _, none, rfl⟩ (fun i σ H' hi hp => ?_) (fun σ H' hp => ?_)
  · obtain ⟨s1, y1, rfl⟩ := hp
    refine ⟨_, rfl, _, rfl, a, i, ns, ?_, scrS s1, by omega, by omega, fun H2 s2 => ?_⟩
    · show [V.ref a, V.int (0 + (i : Int))] = [V.ref a, V.int (i : Int)]
      rw [Int.zero_add]
    refine ⟨_, rfl, ?_⟩
    exact iteF ⟨s1.trans s2, _, rfl⟩
  · obtain ⟨s1, y1, rfl⟩ := hp
    exact q _
end
/-! ### what the top has written; the law's own head -/
theorem all_mk {l : PySem.W.OpenLaw} {w : World} {K : PySem.W.Frag} {h : Heap} {mg : Str → Option Value} {fa : Addr} (X : K.In h) (G : h.Ns mainGlobals mg) (hfa : mg "law" = some (.ref fa))
    {f1 : Addr} {oc1 : Value} {od1 an1 : Option Addr} {sl1 : Array (Option Value)} {kV1 dc1 pm1 cd1 ct1 : Value}
    (a1 : PySem.W.nsIn K mainGlobals "is_integer" = some (some (.ref f1)))
    (l1 : K.lookup f1 = some ⟨oc1, od1, .func (PySem.W.fnOf "is_integer" "is_integer" (defArgs s_is_integer) (defBody s_is_integer) (defScope s_is_integer) .none kV1 dc1 pm1 an1 cd1 ct1), sl1⟩)
    (c1 : PySem.W.codeIn K cd1 "is_integer" = true) (k1 : PySem.W.keepIn K (.ref f1) = true)
    {f2 : Addr} {oc2 : Value} {od2 an2 : Option Addr} {sl2 : Array (Option Value)} {kV2 dc2 pm2 cd2 ct2 : Value}
    (a2 : PySem.W.nsIn K mainGlobals "is_name" = some (some (.ref f2)))
    (l2 : K.lookup f2 = some ⟨oc2, od2, .func (PySem.W.fnOf "is_name" "is_name" (defArgs s_is_name) (defBody s_is_name) (defScope s_is_name) .none kV2 dc2 pm2 an2 cd2 ct2), sl2⟩)
    (c2 : PySem.W.codeIn K cd2 "is_name" = true) (k2 : PySem.W.keepIn K (.ref f2) = true)
    {f3 : Addr} {oc3 : Value} {od3 an3 : Option Addr} {sl3 : Array (Option Value)} {kV3 dc3 pm3 cd3 ct3 : Value}
    (a3 : PySem.W.nsIn K mainGlobals "is_set" = some (some (.ref f3)))
    (l3 : K.lookup f3 = some ⟨oc3, od3, .func (PySem.W.fnOf "is_set" "is_set" (defArgs s_is_set) (defBody s_is_set) (defScope s_is_set) .none kV3 dc3 pm3 an3 cd3 ct3), sl3⟩)
    (c3 : PySem.W.codeIn K cd3 "is_set" = true) (k3 : PySem.W.keepIn K (.ref f3) = true)
    {f4 : Addr} {oc4 : Value} {od4 an4 : Option Addr} {sl4 : Array (Option Value)} {kV4 dc4 pm4 cd4 ct4 : Value}
    (a4 : PySem.W.nsIn K mainGlobals "_law_mill" = some (some (.ref f4)))
    (l4 : K.lookup f4 = some ⟨oc4, od4, .func (PySem.W.fnOf "_law_mill" "_law_mill" (defArgs s_L_mill) (defBody s_L_mill) (defScope s_L_mill) .none kV4 dc4 pm4 an4 cd4 ct4), sl4⟩)
    (c4 : PySem.W.codeIn K cd4 "_law_mill" = true) (k4 : PySem.W.keepIn K (.ref f4) = true)
    {f5 : Addr} {oc5 : Value} {od5 an5 : Option Addr} {sl5 : Array (Option Value)} {kV5 dc5 pm5 cd5 ct5 : Value}
    (a5 : PySem.W.nsIn K mainGlobals "_law_grain" = some (some (.ref f5)))
    (l5 : K.lookup f5 = some ⟨oc5, od5, .func (PySem.W.fnOf "_law_grain" "_law_grain" (defArgs s_L_grain) (defBody s_L_grain) (defScope s_L_grain) .none kV5 dc5 pm5 an5 cd5 ct5), sl5⟩)
    (c5 : PySem.W.codeIn K cd5 "_law_grain" = true) (k5 : PySem.W.keepIn K (.ref f5) = true)
    {f6 : Addr} {oc6 : Value} {od6 an6 : Option Addr} {sl6 : Array (Option Value)} {kV6 dc6 pm6 cd6 ct6 : Value}
    (a6 : PySem.W.nsIn K mainGlobals "_law_one_of" = some (some (.ref f6)))
    (l6 : K.lookup f6 = some ⟨oc6, od6, .func (PySem.W.fnOf "_law_one_of" "_law_one_of" (defArgs s_L_one_of) (defBody s_L_one_of) (defScope s_L_one_of) .none kV6 dc6 pm6 an6 cd6 ct6), sl6⟩)
    (c6 : PySem.W.codeIn K cd6 "_law_one_of" = true) (k6 : PySem.W.keepIn K (.ref f6) = true)
    {f7 : Addr} {oc7 : Value} {od7 an7 : Option Addr} {sl7 : Array (Option Value)} {kV7 dc7 pm7 cd7 ct7 : Value}
    (a7 : PySem.W.nsIn K mainGlobals "_law_order" = some (some (.ref f7)))
    (l7 : K.lookup f7 = some ⟨oc7, od7, .func (PySem.W.fnOf "_law_order" "_law_order" (defArgs s_L_order) (defBody s_L_order) (defScope s_L_order) .none kV7 dc7 pm7 an7 cd7 ct7), sl7⟩)
    (c7 : PySem.W.codeIn K cd7 "_law_order" = true) (k7 : PySem.W.keepIn K (.ref f7) = true)
    {f8 : Addr} {oc8 : Value} {od8 an8 : Option Addr} {sl8 : Array (Option Value)} {kV8 dc8 pm8 cd8 ct8 : Value}
    (a8 : PySem.W.nsIn K mainGlobals "_law_letter" = some (some (.ref f8)))
    (l8 : K.lookup f8 = some ⟨oc8, od8, .func (PySem.W.fnOf "_law_letter" "_law_letter" (defArgs s_L_letter) (defBody s_L_letter) (defScope s_L_letter) .none kV8 dc8 pm8 an8 cd8 ct8), sl8⟩)
    (c8 : PySem.W.codeIn K cd8 "_law_letter" = true) (k8 : PySem.W.keepIn K (.ref f8) = true)
    {f9 : Addr} {oc9 : Value} {od9 an9 : Option Addr} {sl9 : Array (Option Value)} {kV9 dc9 pm9 cd9 ct9 : Value}
    (a9 : PySem.W.nsIn K mainGlobals "_law_many_names" = some (some (.ref f9)))
    (l9 : K.lookup f9 = some ⟨oc9, od9, .func (PySem.W.fnOf "_law_many_names" "_law_many_names" (defArgs s_L_many_names) (defBody s_L_many_names) (defScope s_L_many_names) .none kV9 dc9 pm9 an9 cd9 ct9), sl9⟩)
    (c9 : PySem.W.codeIn K cd9 "_law_many_names" = true) (k9 : PySem.W.keepIn K (.ref f9) = true)
    {f10 : Addr} {oc10 : Value} {od10 an10 : Option Addr} {sl10 : Array (Option Value)} {kV10 dc10 pm10 cd10 ct10 : Value}
    (a10 : PySem.W.nsIn K mainGlobals "_law_spelled" = some (some (.ref f10)))
    (l10 : K.lookup f10 = some ⟨oc10, od10, .func (PySem.W.fnOf "_law_spelled" "_law_spelled" (defArgs s_L_spelled) (defBody s_L_spelled) (defScope s_L_spelled) .none kV10 dc10 pm10 an10 cd10 ct10), sl10⟩)
    (c10 : PySem.W.codeIn K cd10 "_law_spelled" = true) (k10 : PySem.W.keepIn K (.ref f10) = true)
    {f11 : Addr} {oc11 : Value} {od11 an11 : Option Addr} {sl11 : Array (Option Value)} {kV11 dc11 pm11 cd11 ct11 : Value}
    (a11 : PySem.W.nsIn K mainGlobals "_law_is_set" = some (some (.ref f11)))
    (l11 : K.lookup f11 = some ⟨oc11, od11, .func (PySem.W.fnOf "_law_is_set" "_law_is_set" (defArgs s_L_is_set) (defBody s_L_is_set) (defScope s_L_is_set) .none kV11 dc11 pm11 an11 cd11 ct11), sl11⟩)
    (c11 : PySem.W.codeIn K cd11 "_law_is_set" = true) (k11 : PySem.W.keepIn K (.ref f11) = true)
    {f12 : Addr} {oc12 : Value} {od12 an12 : Option Addr} {sl12 : Array (Option Value)} {kV12 dc12 pm12 cd12 ct12 : Value}
    (a12 : PySem.W.nsIn K mainGlobals "_law_is_short" = some (some (.ref f12)))
    (l12 : K.lookup f12 = some ⟨oc12, od12, .func (PySem.W.fnOf "_law_is_short" "_law_is_short" (defArgs s_L_is_short) (defBody s_L_is_short) (defScope s_L_is_short) .none kV12 dc12 pm12 an12 cd12 ct12), sl12⟩)
    (c12 : PySem.W.codeIn K cd12 "_law_is_short" = true) (k12 : PySem.W.keepIn K (.ref f12) = true)
    {f13 : Addr} {oc13 : Value} {od13 an13 : Option Addr} {sl13 : Array (Option Value)} {kV13 dc13 pm13 cd13 ct13 : Value}
    (a13 : PySem.W.nsIn K mainGlobals "_law_bounds" = some (some (.ref f13)))
    (l13 : K.lookup f13 = some ⟨oc13, od13, .func (PySem.W.fnOf "_law_bounds" "_law_bounds" (defArgs s_L_bounds) (defBody s_L_bounds) (defScope s_L_bounds) .none kV13 dc13 pm13 an13 cd13 ct13), sl13⟩)
    (c13 : PySem.W.codeIn K cd13 "_law_bounds" = true) (k13 : PySem.W.keepIn K (.ref f13) = true)
    {f14 : Addr} {oc14 : Value} {od14 an14 : Option Addr} {sl14 : Array (Option Value)} {kV14 dc14 pm14 cd14 ct14 : Value}
    (a14 : PySem.W.nsIn K mainGlobals "_law_texts" = some (some (.ref f14)))
    (l14 : K.lookup f14 = some ⟨oc14, od14, .func (PySem.W.fnOf "_law_texts" "_law_texts" (defArgs s_L_texts) (defBody s_L_texts) (defScope s_L_texts) .none kV14 dc14 pm14 an14 cd14 ct14), sl14⟩)
    (c14 : PySem.W.codeIn K cd14 "_law_texts" = true) (k14 : PySem.W.keepIn K (.ref f14) = true)
    {f15 : Addr} {oc15 : Value} {od15 an15 : Option Addr} {sl15 : Array (Option Value)} {kV15 dc15 pm15 cd15 ct15 : Value}
    (a15 : PySem.W.nsIn K mainGlobals "_law_tuples" = some (some (.ref f15)))
    (l15 : K.lookup f15 = some ⟨oc15, od15, .func (PySem.W.fnOf "_law_tuples" "_law_tuples" (defArgs s_L_tuples) (defBody s_L_tuples) (defScope s_L_tuples) .none kV15 dc15 pm15 an15 cd15 ct15), sl15⟩)
    (c15 : PySem.W.codeIn K cd15 "_law_tuples" = true) (k15 : PySem.W.keepIn K (.ref f15) = true)
    {f16 : Addr} {oc16 : Value} {od16 an16 : Option Addr} {sl16 : Array (Option Value)} {kV16 dc16 pm16 cd16 ct16 : Value}
    (a16 : PySem.W.nsIn K mainGlobals "_law_cell_right" = some (some (.ref f16)))
    (l16 : K.lookup f16 = some ⟨oc16, od16, .func (PySem.W.fnOf "_law_cell_right" "_law_cell_right" (defArgs s_L_cell_right) (defBody s_L_cell_right) (defScope s_L_cell_right) .none kV16 dc16 pm16 an16 cd16 ct16), sl16⟩)
    (c16 : PySem.W.codeIn K cd16 "_law_cell_right" = true) (k16 : PySem.W.keepIn K (.ref f16) = true)
    {f17 : Addr} {oc17 : Value} {od17 an17 : Option Addr} {sl17 : Array (Option Value)} {kV17 dc17 pm17 cd17 ct17 : Value}
    (a17 : PySem.W.nsIn K mainGlobals "law" = some (some (.ref f17)))
    (l17 : K.lookup f17 = some ⟨oc17, od17, .func (PySem.W.fnOf "law" "law" (defArgs s_law) (defBody s_law) (defScope s_law) .none kV17 dc17 pm17 an17 cd17 ct17), sl17⟩)
    (c17 : PySem.W.codeIn K cd17 "law" = true) (k17 : PySem.W.keepIn K (.ref f17) = true)
    (z_abs : PySem.W.nsIn K mainGlobals "abs" = some none)
    (z_all : PySem.W.nsIn K mainGlobals "all" = some none)
    (z_bool : PySem.W.nsIn K mainGlobals "bool" = some none)
    (z_int : PySem.W.nsIn K mainGlobals "int" = some none)
    (z_isinstance : PySem.W.nsIn K mainGlobals "isinstance" = some none)
    (z_len : PySem.W.nsIn K mainGlobals "len" = some none)
    (z_list : PySem.W.nsIn K mainGlobals "list" = some none)
    (z_max : PySem.W.nsIn K mainGlobals "max" = some none)
    (z_min : PySem.W.nsIn K mainGlobals "min" = some none)
    (z_range : PySem.W.nsIn K mainGlobals "range" = some none)
    (z_repr : PySem.W.nsIn K mainGlobals "repr" = some none)
    (z_set : PySem.W.nsIn K mainGlobals "set" = some none)
    (z_sorted : PySem.W.nsIn K mainGlobals "sorted" = some none)
    (z_str : PySem.W.nsIn K mainGlobals "str" = some none)
    (z_tuple : PySem.W.nsIn K mainGlobals "tuple" = some none)
    (z_zip : PySem.W.nsIn K mainGlobals "zip" = some none)
    {v_MAX_LETTERS : Value} (y_MAX_LETTERS : PySem.W.nsIn K mainGlobals "MAX_LETTERS" = some (some v_MAX_LETTERS)) (r_MAX_LETTERS : RelV (.int 8) v_MAX_LETTERS) :
    ∃ fd : FuncData, (∀ (s : Shared) (v : Value), BindsTo s fd ⟨[v], []⟩ [("_law_script", v)]) ∧ ∀ base : Heap, K.In base → base.Ns mainGlobals mg → GFn l.prog w K mg base CX0 6 fa fd ["_law_script"] (spLaw K) := by
  have e := hfa.symm.trans (PySem.W.mg_of X G a17)
  cases e
  have D1 : DefAt K mg "is_integer" s_is_integer := DefAt.mk' (PySem.W.mg_of X G a1) l1 c1 k1
  have D2 : DefAt K mg "is_name" s_is_name := DefAt.mk' (PySem.W.mg_of X G a2) l2 c2 k2
  have D3 : DefAt K mg "is_set" s_is_set := DefAt.mk' (PySem.W.mg_of X G a3) l3 c3 k3
  have D4 : DefAt K mg "_law_mill" s_L_mill := DefAt.mk' (PySem.W.mg_of X G a4) l4 c4 k4
  have D5 : DefAt K mg "_law_grain" s_L_grain := DefAt.mk' (PySem.W.mg_of X G a5) l5 c5 k5
  have D6 : DefAt K mg "_law_one_of" s_L_one_of := DefAt.mk' (PySem.W.mg_of X G a6) l6 c6 k6
  have D7 : DefAt K mg "_law_order" s_L_order := DefAt.mk' (PySem.W.mg_of X G a7) l7 c7 k7
  have D8 : DefAt K mg "_law_letter" s_L_letter := DefAt.mk' (PySem.W.mg_of X G a8) l8 c8 k8
  have D9 : DefAt K mg "_law_many_names" s_L_many_names := DefAt.mk' (PySem.W.mg_of X G a9) l9 c9 k9
  have D10 : DefAt K mg "_law_spelled" s_L_spelled := DefAt.mk' (PySem.W.mg_of X G a10) l10 c10 k10
  have D11 : DefAt K mg "_law_is_set" s_L_is_set := DefAt.mk' (PySem.W.mg_of X G a11) l11 c11 k11
  have D12 : DefAt K mg "_law_is_short" s_L_is_short := DefAt.mk' (PySem.W.mg_of X G a12) l12 c12 k12
  have D13 : DefAt K mg "_law_bounds" s_L_bounds := DefAt.mk' (PySem.W.mg_of X G a13) l13 c13 k13
  have D14 : DefAt K mg "_law_texts" s_L_texts := DefAt.mk' (PySem.W.mg_of X G a14) l14 c14 k14
  have D15 : DefAt K mg "_law_tuples" s_L_tuples := DefAt.mk' (PySem.W.mg_of X G a15) l15 c15 k15
  have D16 : DefAt K mg "_law_cell_right" s_L_cell_right := DefAt.mk' (PySem.W.mg_of X G a16) l16 c16 k16
  have D17 : DefAt K mg "law" s_law := DefAt.mk' (PySem.W.mg_of X G a17) l17 c17 k17
  have M : Txt mg := { abs := PySem.W.mg_none_of X G z_abs, all := PySem.W.mg_none_of X G z_all, bool := PySem.W.mg_none_of X G z_bool, int := PySem.W.mg_none_of X G z_int, isinstance := PySem.W.mg_none_of X G z_isinstance, len := PySem.W.mg_none_of X G z_len, list := PySem.W.mg_none_of X G z_list, max := PySem.W.mg_none_of X G z_max, min := PySem.W.mg_none_of X G z_min, range := PySem.W.mg_none_of X G z_range, repr := PySem.W.mg_none_of X G z_repr, set := PySem.W.mg_none_of X G z_set, sorted := PySem.W.mg_none_of X G z_sorted, str := PySem.W.mg_none_of X G z_str, tuple := PySem.W.mg_none_of X G z_tuple, zip := PySem.W.mg_none_of X G z_zip, MAX_LETTERS := ⟨v_MAX_LETTERS, PySem.W.mg_of X G y_MAX_LETTERS, r_MAX_LETTERS⟩ }
  refine ⟨PySem.W.fnOf "law" "law" (defArgs s_law) (defBody s_law) (defScope s_law) .none kV17 dc17 pm17 an17 cd17 ct17, fun s v => .of_eq rfl, fun base kb nb => ?_⟩
  have C_L_grain := ok_L_grain (P := l.prog) (w := w) (base := base) D5 M 
  have C_L_one_of := ok_L_one_of (P := l.prog) (w := w) (base := base) D6 M C_L_grain
  have C_L_letter := ok_L_letter (P := l.prog) (w := w) (base := base) D8 M C_L_grain
  have C_L_mill := ok_L_mill (P := l.prog) (w := w) (base := base) D4 M 
  have C_L_order := ok_L_order (P := l.prog) (w := w) (base := base) D7 M C_L_grain
  have C_L_many_names := ok_L_many_names (P := l.prog) (w := w) (base := base) D9 M C_L_grain C_L_letter C_L_order
  have C_is_integer := ok_is_integer (P := l.prog) (w := w) (base := base) D1 M 
  have C_is_name := ok_is_name (P := l.prog) (w := w) (base := base) D2 M 
  have C_is_set := ok_is_set (P := l.prog) (w := w) (base := base) D3 M C_is_name
  have C_L_is_short := ok_L_is_short (P := l.prog) (w := w) (base := base) D12 M 
  have C_L_spelled := ok_L_spelled (P := l.prog) (w := w) (base := base) D10 M 
  have C_L_is_set := ok_L_is_set (P := l.prog) (w := w) (base := base) D11 M C_L_spelled
  have C_L_bounds := ok_L_bounds (P := l.prog) (w := w) (base := base) D13 M C_L_grain
  have C_L_texts := ok_L_texts (P := l.prog) (w := w) (base := base) D14 M C_L_grain C_L_letter C_L_one_of
  have C_L_tuples := ok_L_tuples (P := l.prog) (w := w) (base := base) D15 M C_L_many_names C_L_one_of
  have C_L_cell_right := ok_L_cell_right (P := l.prog) (w := w) (base := base) D16 M C_L_mill C_L_bounds C_L_texts C_L_tuples C_is_integer C_is_name C_is_set C_L_is_short C_L_spelled C_L_is_set
  exact ok_law l17 c17 M C_L_cell_right
end K00
open PySem PySem.W PyProof.Rows
set_option maxHeartbeats 0 in
theorem PySem.Challenge.cw_whichwalks_k00_integers_names_and_sets_holds : PySem.Challenge.rw_whichwalks_k00_integers_names_and_sets.Holds := by
  w_on; o_law; k_head; (case hw => w_witness2)
  k_fill
  refine Wk.walk_g (l := PySem.Challenge.rw_whichwalks_k00_integers_names_and_sets) (n := 63) (k := 6) (x := "_law_script") (CX := fun _ => L2.CX0) (sp := fun w => K00.spLaw _) rfl (by decide) rfl (by decide) (fun w h Y => PySem.W.kIn_of Y) ?F (fun _ _ a ns hl ho hS => K00.law_start ho hS hl) (fun _ _ _ _ _ h => h)
  case F =>
    intro w mg fa h KX G hmg
    refine' K00.all_mk KX G hmg ?a1 ?l1 ?c1 ?k1 ?a2 ?l2 ?c2 ?k2 ?a3 ?l3 ?c3 ?k3 ?a4 ?l4 ?c4 ?k4 ?a5 ?l5 ?c5 ?k5 ?a6 ?l6 ?c6 ?k6 ?a7 ?l7 ?c7 ?k7 ?a8 ?l8 ?c8 ?k8 ?a9 ?l9 ?c9 ?k9 ?a10 ?l10 ?c10 ?k10 ?a11 ?l11 ?c11 ?k11 ?a12 ?l12 ?c12 ?k12 ?a13 ?l13 ?c13 ?k13 ?a14 ?l14 ?c14 ?k14 ?a15 ?l15 ?c15 ?k15 ?a16 ?l16 ?c16 ?k16 ?a17 ?l17 ?c17 ?k17 ?z_abs ?z_all ?z_bool ?z_int ?z_isinstance ?z_len ?z_list ?z_max ?z_min ?z_range ?z_repr ?z_set ?z_sorted ?z_str ?z_tuple ?z_zip ?y_MAX_LETTERS ?r_MAX_LETTERS
    (case a1 => k_is)
    (case l1 => k_is)
    (case c1 => k_is)
    (case k1 => k_is)
    (case a2 => k_is)
    (case l2 => k_is)
    (case c2 => k_is)
    (case k2 => k_is)
    (case a3 => k_is)
    (case l3 => k_is)
    (case c3 => k_is)
    (case k3 => k_is)
    (case a4 => k_is)
    (case l4 => k_is)
    (case c4 => k_is)
    (case k4 => k_is)
    (case a5 => k_is)
    (case l5 => k_is)
    (case c5 => k_is)
    (case k5 => k_is)
    (case a6 => k_is)
    (case l6 => k_is)
    (case c6 => k_is)
    (case k6 => k_is)
    (case a7 => k_is)
    (case l7 => k_is)
    (case c7 => k_is)
    (case k7 => k_is)
    (case a8 => k_is)
    (case l8 => k_is)
    (case c8 => k_is)
    (case k8 => k_is)
    (case a9 => k_is)
    (case l9 => k_is)
    (case c9 => k_is)
    (case k9 => k_is)
    (case a10 => k_is)
    (case l10 => k_is)
    (case c10 => k_is)
    (case k10 => k_is)
    (case a11 => k_is)
    (case l11 => k_is)
    (case c11 => k_is)
    (case k11 => k_is)
    (case a12 => k_is)
    (case l12 => k_is)
    (case c12 => k_is)
    (case k12 => k_is)
    (case a13 => k_is)
    (case l13 => k_is)
    (case c13 => k_is)
    (case k13 => k_is)
    (case a14 => k_is)
    (case l14 => k_is)
    (case c14 => k_is)
    (case k14 => k_is)
    (case a15 => k_is)
    (case l15 => k_is)
    (case c15 => k_is)
    (case k15 => k_is)
    (case a16 => k_is)
    (case l16 => k_is)
    (case c16 => k_is)
    (case k16 => k_is)
    (case a17 => k_is)
    (case l17 => k_is)
    (case c17 => k_is)
    (case k17 => k_is)
    (case z_abs => k_is)
    (case z_all => k_is)
    (case z_bool => k_is)
    (case z_int => k_is)
    (case z_isinstance => k_is)
    (case z_len => k_is)
    (case z_list => k_is)
    (case z_max => k_is)
    (case z_min => k_is)
    (case z_range => k_is)
    (case z_repr => k_is)
    (case z_set => k_is)
    (case z_sorted => k_is)
    (case z_str => k_is)
    (case z_tuple => k_is)
    (case z_zip => k_is)
    (case y_MAX_LETTERS => k_is)
    (case r_MAX_LETTERS => exact ⟨_, rfl⟩)

