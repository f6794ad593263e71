import PyProof.Rows.All
import Wide.All
import OpenK.AllK
import Wide.FinOn
import PySem.Challenge.RW_curvepieces_k16_any_value_as_line_or_pri
import HandS.Comp
import HandS.Ends
import HandS.Dict
import HandS.Iter
import HandS.Words
import HandS.IsInst
import HandS.Gcd
import HandS.Zip
import HandS.WideBits
import PyProof.ReprRoads
import PyProof.ReprBulk
import PyProof.CallFns
set_option Elab.async false
set_option linter.all false
set_option maxRecDepth 100000
set_option maxHeartbeats 4400000
/-! Defs that may call repr: the layer's promise, said again with one more fact of what runs around (no repr is under way). -/
namespace Kr
open PySem PySem.Spec
open PyProof.Rows L2

/-- no repr runs around -/
abbrev Quiet (A : Around) : Prop := A.guards = some []

structure FnG (P : Program) (w : World) (K : PySem.W.Frag)
    (mg : Str → Option Value) (base : Heap) (CX : CXT) (k : Nat)
    (f : Addr) (fd : FuncData) (ps : List Str) (sp : Sp) : Prop where
  len : ∀ (vs : List V) (H : Hp) (Q : VK) (E : XK), sp vs H Q E →
    vs.length = ps.length
  run : ∀ (A : Around) (out : List Env) (s : Shared) (H : Hp) (args : Args)
    (us : List Value) (vs : List V) (Q : VK) (E : XK), Quiet A → Room k A →
    Env0 P w K mg base A out s H → BindsTo s fd args (ps.zip us) →
    Vals vs us → sp vs H Q E →
    codeAny (model P w) A (.call (.ref f) args) (CR CX out P w H s Q E) s

/-- a def of the text that may be called by its name -/
structure Cl (P : Program) (w : World) (K : PySem.W.Frag)
    (mg : Str → Option Value) (base : Heap) (CX : CXT) (k : Nat)
    (x : Str) (st : Stmt) (ps : List Str) (sp : Sp) : Prop where
  ex : ∃ (f : Addr) (fd : FuncData), Fun K x x st f fd ∧
    mg x = some (.ref f) ∧ Binds K fd ps [] ∧ FnG P w K mg base CX k f fd ps sp

section
variable {X : Cx} {CX : CXT} {k j : Nat} {x : Str} {st : Stmt} {ps ks : List Str} {sp : Sp}
  {E : XK} {p pos : Pos} {e : Expr} {es : List Expr} {t tk : TA} {kws : List Keyword}

theorem runs_end {pins : List (Addr × Obj)} {σ : L2.St} {H : Hp} {s s' : Shared} {Q : VK}
    {r : Result} (hx : Passes CX X E) (I : Inv X pins σ H s)
    (hq : CR CX X.stack X.prog X.w H s Q E r s') :
    match r with
    | .ok (.ret u) => EP X pins σ Q u s'
    | .ok _ => False
    | .error e => X.xe e s' := by
  match r, hq with
  | .error e, hq => exact hx pins σ H s e s' I hq
  | .ok (.ret u), hq => exact I.after hq
  | .ok .next, hq => exact hq
  | .ok .brk, hq => exact hq
  | .ok .cont, hq => exact hq

theorem calls_u {pins : List (Addr × Obj)} {σ : L2.St} {H : Hp} {s : Shared} {Q : VK}
    {us : List Value} {vs : List V} {f : Addr} {fd : FuncData}
    (F : FnG X.prog X.w X.K X.mg X.base CX k f fd ps sp) (hG : Quiet X.A)
    (hr : Room k X.A) (hb : Binds X.K fd ps []) (hx : Passes CX X E)
    (I : Inv X pins σ H s) (r : Vals vs us) (h : sp vs H Q E) :
    wpAny (model X.prog X.w) X.A (call (.ref f) us)
      (EP X pins σ Q) X.xe s := by
  have hl : us.length = ps.length := r.length ▸ F.len _ _ _ _ h
  have hbt : BindsTo s fd ⟨us, []⟩ (ps.zip us) := by
    have z := hb s us I.kIn (by rw [List.append_nil]; exact hl)
    rwa [List.append_nil] at z
  have z := F.run X.A X.stack s H ⟨us, []⟩ us vs Q E hG hr I.env0 hbt r h
  refine wpAny_call (codeAny_mono z fun rr s' hq => ?_)
  have y := runs_end hx I hq
  cases rr with
  | error e => exact y
  | ok fl => cases fl <;> exact y

/-- f(e, ..) -/
theorem pe_u (c : Cl X.prog X.w X.K X.mg X.base CX k x st ps sp) (hG : Quiet X.A)
    (hr : Room j X.A) (hk : k ≤ j) (hg : Gl X x) (hx : Passes CX X E) (ha : PA X (e :: es) t)
    (hdb : (x == ("__debug__" : Str)) = false := by decide)
    (he : starEach (e :: es) X.env = (false, eval e X.env) :: starEach es X.env := by rfl)
    (hpl : (backTo pos (starEach es X.env)).any (·.1) = false := by rfl) :
    PE X (.Call (.Name x p) (e :: es) [] pos) (tCall sp [] E t) := by
  obtain ⟨f, fd, F, hm, hb, G⟩ := c.ex
  refine ⟨fun pins s σ H Q I h => wpAny_Call_Name_kw (ld_glob I hg hm ?_ hdb)⟩
  have q0 := ha.run pos pins s σ H _ I h
  refine PySem.W.callWith_K (h₀ := X.base) I.ok.mod.kin F.kp (thn q0 ?_) he hpl
  intro us s1 ⟨vs, H1, I1, r, q⟩
  have q : sp (vs ++ []) H1 Q E := q
  rw [List.append_nil] at q
  exact ⟨I1.kIn, calls_u G hG (hr.mono hk) hb hx I1 r q⟩

/-- how the names of a call's keywords lie among the parameters -/
structure KwB (K : PySem.W.Frag) (fd : FuncData) (ps ks : List Str)
    (g : List Value → List Value) (gV : List V → List V) : Prop where
  to : ∀ (s : Shared) (ws : List Value), K.In s.heap → (g ws).length = ps.length →
    BindsTo s fd ⟨[], ks.zip ws⟩ (ps.zip (g ws))
  rel : ∀ {zs : List V} {ws : List Value}, Vals zs ws → Vals (gV zs) (g ws)
def tCallU (sp : Sp) (gV : List V → List V) (E : XK) (tk : TA) : TE :=
  fun σ H Q => tk σ H fun zs H1 => sp (gV zs) H1 Q E
/-- f(k = v, ..) -/
theorem pe_uk {g : List Value → List Value} {gV : List V → List V}
    (c : Cl X.prog X.w X.K X.mg X.base CX k x st ps sp)
    (hkb : ∀ {f : Addr} {fd : FuncData}, Fun X.K x x st f fd → KwB X.K fd ps ks g gV)
    (hG : Quiet X.A) (hr : Room j X.A) (hk : k ≤ j) (hg : Gl X x) (hx : Passes CX X E)
    (hkw : PK X kws tk)
    (hall : (backToKw pos (keywordEach kws X.env)).all (·.1.isSome) = true := by rfl)
    (hks : (backToKw pos (keywordEach kws X.env)).filterMap (·.1) = ks := by rfl)
    (hdb : (x == ("__debug__" : Str)) = false := by decide)
    (hpl : ((backTo pos (starEach [] X.env)).any (·.1) ||
      (backToKw pos (keywordEach kws X.env)).any (·.1.isNone)) = false := by rfl) :
    PE X (.Call (.Name x p) [] kws pos) (tCallU sp gV E tk) := by
  obtain ⟨f, fd, F, hm, hb, G⟩ := c.ex
  have B := hkb F
  refine ⟨fun pins s σ H Q I h => wpAny_Call_Name_kw (ld_glob I hg hm ?_ hdb)⟩
  have q0 := hkw.run pos pins s σ H _ I h
  refine PySem.W.callWith_KW0 (h₀ := X.base) I.ok.mod.kin F.kp hall (thn q0 ?_) hpl
  intro ws s1 ⟨zs, H1, I1, r, q⟩
  refine ⟨I1.kIn, ?_⟩
  rw [hks]
  have r2 := B.rel r
  have hl : (g ws).length = ps.length := r2.length ▸ G.len _ _ _ _ q
  have z := G.run X.A X.stack s1 H1 ⟨[], ks.zip ws⟩ (g ws) (gV zs) Q E hG
    (hr.mono hk) I1.env0 (B.to s1 ws I1.kIn hl) r2 q
  refine wpAny_call (codeAny_mono z fun rr s' hq => ?_)
  have y := runs_end hx I1 hq
  cases rr with
  | error e => exact y
  | ok fl => cases fl <;> exact y
end

/-! a def by its body -/
section
variable {P : Program} {w : World} {K : PySem.W.Frag}
  {mg : Str → Option Value} {base : Heap}
theorem body_g {CX : CXT} {x : Str} {st : Stmt} {f : Addr} {fd : FuncData} {N ps : List Str}
    {k : Nat} {sp : Sp} (F : Fun K x x st f fd) (S : FnScope N ps (defScope st))
    (len : ∀ (vs : List V) (H : Hp) (Q : VK) (E : XK), sp vs H Q E →
      vs.length = ps.length)
    (hb : ∀ (cdv : Value) (A : Around) (out : List Env) (s : Shared) (H : Hp) (vs : List V)
      (Q : VK) (E : XK), Quiet (A.deeper (envOfC x (defScope st) s.heap.objs.size f cdv)) →
      Room k (A.deeper (envOfC x (defScope st) s.heap.objs.size f cdv)) → sp vs H Q E →
      ∃ t, PSs (cxOf CX P w K mg base N x (defScope st) f cdv A out s H E) (defBody st) t ∧
        t { nx := fun _ H' => Q .non H', rt := Q } (start N vs) H) :
    FnG P w K mg base CX (k + 1) f fd ps sp := by
  obtain ⟨c0, d0, kw0, dc0, pm0, an0, cdv, ct0, sl0, rfl, lk, hcd⟩ := F.ex
  refine ⟨len, fun A out s H args us vs Q E hG hr e0 hbt r hsp => ?_⟩
  have hl := len _ _ _ _ hsp
  have kin : ∀ b o, base.get? b = some o → s.heap.get? b = some o := fun b o e => (e0.bs b o e).1
  have KX : K.In s.heap := e0.mod.kin.keeps kin
  have lim : s.heap.NoLimit := e0.mod.nolimit.keeps kin
  have par : ∀ y ∈ ps.zip us, (defScope st).names.lookup y.1 = some .local ∨
      ((defScope st).names.lookup y.1 = some .cell ∧
       ((cellsFrom (s.heap.objs.size + 1) (defScope st).names []).lookup y.1).isSome = true) := by
    rintro ⟨n, v⟩ hy
    cases S.par n (List.of_mem_zip hy).1 with
    | inl q => exact .inl q
    | inr q => exact .inr ⟨q, PySem.W.cellsFrom_some _ _ _ (.inl q)⟩
  refine codeAny_call_function hr.depth (KX _ _ lk) rfl S.co S.gen rfl
    (PySem.W.codeRec_of KX hcd) (hbt _ _ _ _ ?_)
  refine wpAny_newFunctionEnv_cells S.kind par fun env he s1 y => ?_
  subst he
  refine ⟨lim.keeps y.toInCall.keep, codeAny_func ?_⟩
  obtain ⟨t, ht, hq⟩ := hb cdv A out s H vs Q E hG (hr.deeper _) hsp
  have J0 : Inv (cxOf CX P w K mg base N x (defScope st) f cdv A out s H E) []
      (start N vs) H s1 := inv_start S hr.hd e0 hl r y
  refine wpAny_mono (ht.run [] s1 (start N vs) H _ J0 hq) ?_ (fun e s' hs => hs)
  intro fl s' hs
  match fl, hs with
  | .ret u, ⟨v, σ', H', J, rv, q⟩ =>
    exact (show CE out P w H s Q u s' from ⟨v, H', J.os, J.bare, J.base, J.hok, rv, q⟩)
  | .next, ⟨σ', H', J, q⟩ =>
    exact (show CE out P w H s Q .none s' from ⟨.non, H', J.os, J.bare, J.base, J.hok, rfl, q⟩)
  | .brk, ⟨_, _, _, q⟩ => exact False.elim q
  | .cont, ⟨_, _, _, q⟩ => exact False.elim q
/-- .. that lets no exception out -/
theorem body_0 {x : Str} {st : Stmt} {f : Addr} {fd : FuncData} {N ps : List Str}
    {k : Nat} {sp : Sp} (F : Fun K x x st f fd) (S : FnScope N ps (defScope st))
    (len : ∀ (vs : List V) (H : Hp) (Q : VK) (E : XK), sp vs H Q E →
      vs.length = ps.length)
    (hb : ∀ (cdv : Value) (A : Around) (out : List Env) (s : Shared) (H : Hp) (vs : List V)
      (Q : VK) (E : XK), Quiet (A.deeper (envOfC x (defScope st) s.heap.objs.size f cdv)) →
      Room k (A.deeper (envOfC x (defScope st) s.heap.objs.size f cdv)) → sp vs H Q E →
      ∃ t, PSs (cxOf CX0 P w K mg base N x (defScope st) f cdv A out s H E).nox
          (defBody st) t ∧ t { nx := fun _ H' => Q .non H', rt := Q } (start N vs) H) :
    FnG P w K mg base CX0 (k + 1) f fd ps sp :=
  body_g F S len fun cdv A out s H vs Q E hG hr h =>
    let ⟨t, ht, q⟩ := hb cdv A out s H vs Q E hG hr h
    ⟨t, ht.nox, q⟩
end

/-! repr of data -/
section
variable {X : Cx}
theorem call_repr (hG : Quiet X.A) (hu : X.A.units + 64 < cLine) :
    CallR X (.builtin "repr") (fun xs H Q => ∃ a d, xs = [.ref a] ∧ Dp X.K H (.ref a) d ∧
      d.showable = true ∧ d.hasDict = false ∧ d.depth ≤ 60 ∧ d.shown.length ≤ sizeLine ∧
      Q (.str d.shown) H) := by
  intro pins s σ H zs us Q I r h
  obtain ⟨a, d, rfl, hd, hs, hn, h60, hz, q⟩ := h
  obtain ⟨u', rfl, rx⟩ := vals1 r
  obtain rfl : u' = Value.ref a := rx
  obtain ⟨as, hr⟩ := Dp.reads I d (.ref a) (.ref a) hd rfl
  refine repr_of_reads' hr hs (fun z => ?_) hG ?_ (fun _ _ e => e) (fun h' u tk kk => ?_) hz
  · rw [hn] at z; cases z
  · exact Nat.lt_of_le_of_lt (Nat.add_le_add_left (show d.depth + 1 ≤ 64 by omega) _) hu
  · exact ⟨.str d.shown, H, I.kept (fun b o e => kk b o e), ⟨u, rfl⟩, q⟩
end
end Kr
namespace Kr
open PySem PySem.Spec
open PyProof.Rows L2

theorem hu64 {A : Around} {k : Nat} (hr : Room k A) : A.units + 64 < cLine := hr.units

/-- a def of the text under its name -/
structure Df (K : PySem.W.Frag) (mg : Str → Option Value) (x : Str) (st : Stmt)
    (ps : List Str) : Prop where
  ex : ∃ (f : Addr) (fd : FuncData), Fun K x x st f fd ∧ mg x = some (.ref f) ∧ Binds K fd ps []
theorem Df.cl {P : Program} {w : World} {K : PySem.W.Frag} {mg : Str → Option Value} {base : Heap}
    {CX : CXT} {k : Nat} {x : Str} {st : Stmt} {ps : List Str} {sp : Sp} (D : Df K mg x st ps)
    (h : ∀ (f : Addr) (fd : FuncData), Fun K x x st f fd → FnG P w K mg base CX k f fd ps sp) :
    Cl P w K mg base CX k x st ps sp := by
  obtain ⟨f, fd, F, g, b⟩ := D.ex
  exact ⟨f, fd, F, g, b, h f fd F⟩

/-! the head of a law's walk, for such defs -/
theorem callG {P : Program} {w : World} {K : PySem.W.Frag} {mg mb : Str → Option Value} {k : Nat}
    {fa a : Addr} {fd : FuncData} {x : Str} {sp : Sp} {s₁ : Shared} {vs : List Value} {ns : List Int}
    (KX : K.In s₁.heap) (hns : s₁.heap.Ns mainGlobals mg) (hb : s₁.heap.Ns builtinsNs mb)
    (hbb : ∀ x : Str, x ≠ "__name__" → mb x = bootBuiltins x) (hlim : s₁.heap.NoLimit)
    (hg : s₁.gens = #[]) (ha : s₁.heap.get? a = some { cls := .type "list", data := .seq vs.toArray })
    (hi : IntsAre vs ns) (hl : ns.length ≤ sizeLine) (hr : Room k callerA)
    (F : ∀ base : Heap, K.In base → base.Ns mainGlobals mg → FnG P w K mg base CX0 k fa fd [x] sp)
    (hbind : ∀ (s : Shared) (u : Value), BindsTo s fd ⟨[u], []⟩ [(x, u)])
    (hsp : ∀ H : Hp, SqL K H a (ns.map V.int) → sp [.ref a] H (fun v _ => v = .bl true) fun _ _ _ => False) :
    codeAny (model P w) callerA (.call (.ref fa) ⟨[.ref a], []⟩)
      (fun r s' => r = .ok (.ret (.bool true)) ∧ OldK s₁.heap s'.heap ∧ s'.os = s₁.os ∧ AllBare s'.gens) s₁ := by
  have rv := vals_ints hi
  have lenV := hi.length
  have main : ∀ H : Hp, (∀ b u, H b = some u → b = a ∧ ∃ o ys, u = .frz o (.lst ys)) →
      SqL K H a (ns.map V.int) → HOk P w H s₁.heap → (H a ≠ none → K.lookup a = none) →
      codeAny (model P w) callerA (.call (.ref fa) ⟨[.ref a], []⟩)
        (fun r s' => r = .ok (.ret (.bool true)) ∧ OldK s₁.heap s'.heap ∧ s'.os = s₁.os ∧ AllBare s'.gens) s₁ := by
    intro H hA hS hok hK
    have dict0 : ∀ {b : Addr} {o : Obj} {es : Array DictEntry} {ep : Nat},
        s₁.heap.get? b = some o → o.data = .dict es ep → H b = none := by
      intro b o es ep e d
      match q : H b with
      | none => rfl
      | some u =>
        obtain ⟨e1, _⟩ := hA b u q
        rw [e1, ha] at e
        cases e
        exact nomatch (show Data.seq vs.toArray _ = Data.dict es ep from d)
    have nsT : ∀ {b : Addr} {m : Str → Option Value}, s₁.heap.Ns b m → (hidT s₁.heap H).Ns b m :=
      fun {b m} ⟨o, es, ep, e, d, r⟩ => ⟨o, es, ep, hidT_get e (dict0 e d), d, r⟩
    have kB : K.In (hidT s₁.heap H) := by
      intro b o e
      refine hidT_get (KX b o e) ?_
      match q : H b with
      | none => rfl
      | some u =>
        obtain ⟨e1, _⟩ := hA b u q
        subst e1
        rw [hK (by rw [q]; exact fun z => nomatch z)] at e
        cases e
    have M : Mod K mg (hidT s₁.heap H) :=
      ⟨kB, nsT hns, ⟨mb, nsT hb, hbb⟩, hlim.elim fun mc z => ⟨mc, nsT z.1, z.2⟩⟩
    have e0 : Env0 P w K mg (hidT s₁.heap H) callerA [] s₁ H :=
      ⟨rfl, M, fun b o e => of_hidT e, Nat.le_of_eq (hidT_size _ _), trivial,
        fun b z => absurd (show b ∈ ([] : List Addr) from z) List.not_mem_nil, hok, .of_eq hg⟩
    have z := (F _ kB (nsT hns)).run callerA [] s₁ H ⟨[.ref a], []⟩ [.ref a] [.ref a] _ _ rfl hr e0
      (hbind s₁ (.ref a)) (.cons rfl .nil) (hsp H hS)
    refine codeAny_mono z fun r s' h => ?_
    match r, h with
    | .error e, h => exact False.elim h
    | .ok .next, h => exact False.elim h
    | .ok .brk, h => exact False.elim h
    | .ok .cont, h => exact False.elim h
    | .ok (.ret u), ⟨v, H', os, bare, un, hok', r', q⟩ =>
      obtain rfl : v = .bl true := q
      obtain rfl : u = Value.bool true := by exact r'
      refine ⟨rfl, OldK.of_keep (fun b o e => ?_), os, bare⟩
      match q : H b with
      | none => exact un.keep b o e q (fun z => absurd (show b ∈ ([] : List Addr) from z) List.not_mem_nil) List.not_mem_nil
      | some u =>
        obtain ⟨_, ob, ys, rfl⟩ := hA b u q
        have y2 := un.frzs b ob _ q
        have e1 := (hok b _ q).1
        have e2 := (hok' b _ y2).1
        rw [e] at e1
        cases e1
        exact e2
  match hk : K.lookup a with
  | some o =>
    have e := KX a o hk
    rw [ha] at e
    cases e
    refine main (fun _ => none) (fun b u z => nomatch z) (.inr ?_) (fun b u z => nomatch z) fun z => absurd rfl z
    exact ⟨_, vs.toArray, _, hk, rfl, rfl, rfl, by rw [List.size_toArray, lenV]; exact hl, rv⟩
  | none =>
    let fz : HO := .frz { cls := .type "list", data := .seq vs.toArray } (.lst (ns.map V.int))
    refine main (upd (fun _ => none) a fz) ?_ (.inl (.inr ⟨_, upd_same⟩)) ?_ fun _ => hk
    · intro b u z
      by_cases hb : b = a
      · subst hb
        rw [upd_same] at z
        cases z
        exact ⟨rfl, _, _, rfl⟩
      · rw [upd_ne hb] at z
        cases z
    · intro b u z
      by_cases hb : b = a
      · subst hb
        rw [upd_same] at z
        cases z
        exact ⟨ha, (by rw [List.length_map]; exact hl), vs, _, rv, ha⟩
      · rw [upd_ne hb] at z
        cases z

/-- where a law's walk begins: its last def keeps its promise -/
theorem walkG {l : PySem.W.OpenLaw} {n k : Nat} {q : Program} {loose : List Str}
    {XP : (Str → Option Value) → Heap → Prop} {YP : World → Heap → Prop} {d : DefRec}
    {K : Params → PySem.W.Frag} {sp : PySem.W.Frag → Sp} {x : Str}
    (hn : l.most = some n) (hn2 : n ≤ sizeLine)
    (hdf : d.params.defaults = []) (hr : Room k callerA)
    (hY : ∀ (v : World) (h : Heap), YP v h → (K v.params).In h)
    (F : ∀ (w : World) (mg : Str → Option Value) (fa : Addr) (h : Heap), (K w.params).In h →
      h.Ns mainGlobals mg → mg d.name = some (.ref fa) →
      ∃ fd : FuncData, (∀ (s' : Shared) (u : Value), BindsTo s' fd ⟨[u], []⟩ [(x, u)]) ∧
        ∀ base : Heap, (K w.params).In base → base.Ns mainGlobals mg →
          FnG l.prog w (K w.params) mg base CX0 k fa fd [x] (sp (K w.params)))
    (hsp : ∀ (K : PySem.W.Frag) (H : Hp) (a : Addr) (ns : List Int), ns.length ≤ n →
      SqL K H a (ns.map V.int) → sp K [.ref a] H (fun v _ => v = .bl true) fun _ _ _ => False) :
    PySem.W.WalkO q loose XP YP l.row.toRowW d []
      (fun f vs => PySem.call f vs) := by
  refine Att.attach_call hn hdf ?_
  intro w s₀ s₁ mg mb fa o pm cd doc a vs ns G Y ho hd hcd hmg hobj hints hlen hg
  have KX := hY w _ Y
  obtain ⟨fd, hb, hF⟩ := F w mg fa _ KX (G.T.g) hmg
  exact callG KX G.T.g G.T.b G.T.builtins G.T.nolimit hg hobj hints (Nat.le_trans hlen hn2) hr hF hb
    fun H hS => hsp _ H a ns hlen hS

/-! heaps that change at one place alone -/
def Chg (a : Addr) (H H' : Hp) : Prop := ∀ b o, b ≠ a → H b = some o → H' b = some o
theorem Chg.rfl' {a : Addr} {H : Hp} : Chg a H H := fun _ _ _ h => h
theorem Chg.trans {a : Addr} {H H1 H2 : Hp} (x : Chg a H H1) (y : Chg a H1 H2) : Chg a H H2 :=
  fun b o n h => y b o n (x b o n h)
theorem Chg.of {a : Addr} {H H' : Hp} (s : Same H H') : Chg a H H' := fun b o _ h => s b o h
theorem Chg.seq {K : PySem.W.Frag} {a b : Addr} {H H' : Hp} {xs : List V} (c : Chg a H H') (n : b ≠ a)
    (h : SqL K H b xs) : SqL K H' b xs := by
  rcases h with (h | ⟨oo, h⟩) | h
  · exact .inl (.inl (c _ _ n h))
  · exact .inl (.inr ⟨oo, c _ _ n h⟩)
  · exact .inr h
theorem Same.put {H : Hp} {p : Addr} {o : HO} (h : H p = none) : Same H (upd H p o) := by
  intro b x e
  rw [upd_ne (ne_of_none e h)]
  exact e
theorem Same.tseq {K : PySem.W.Frag} {a : Addr} {H H' : Hp} {xs : List V} (e : Same H H')
    (h : SqT K H a xs) : SqT K H' a xs := by
  rcases h with (h | ⟨oo, h⟩) | h
  · exact .inl (.inl (e _ _ h))
  · exact .inl (.inr ⟨oo, e _ _ h⟩)
  · exact .inr h

/-! what a law draws from -/
def PotAt (H : Hp) (a : Addr) : Prop :=
  ∃ P R : Int, H a = some (.lst [.int P, .int R]) ∧ 0 ≤ P ∧ 0 ≤ R ∧ R < 2147483648
theorem Same.pot {H H' : Hp} {a : Addr} (s : Same H H') (p : PotAt H a) : PotAt H' a := by
  obtain ⟨P, R, h, r⟩ := p
  exact ⟨P, R, s _ _ h, r⟩
theorem PotAt.ne {H : Hp} {a p : Addr} (x : PotAt H a) (h : H p = none) : p ≠ a := by
  obtain ⟨P, R, e, _⟩ := x
  exact (ne_of_none e h).symm
def spPot (K : PySem.W.Frag) : Sp := fun vs H Q _ => ∃ (a : Addr) (ns : List Int) (k : Int),
  vs = [.ref a, .int k] ∧ SqL K H a (ns.map V.int) ∧ 0 ≤ k ∧ k ≤ 63 ∧
  ∀ H' p, Same H H' → H p = none → PotAt H' p → Q (.ref p) H'
def spDraw : Sp := fun vs H Q _ => ∃ (a : Addr) (m : Int), vs = [.ref a, .int m] ∧ PotAt H a ∧
  0 < m ∧ m < 1073741824 ∧
  ∀ H' d, Chg a H H' → PotAt H' a → 0 ≤ d → d < m → Q (.int d) H'
def spPick (K : PySem.W.Frag) : Sp := fun vs H Q _ => ∃ (a b : Addr) (xs : List V),
  vs = [.ref a, .ref b] ∧ PotAt H a ∧ b ≠ a ∧ SqL K H b xs ∧ xs ≠ [] ∧ xs.length ≤ 1000 ∧
  ∀ H' x, Chg a H H' → PotAt H' a → x ∈ xs → Q x H'
/-- a drawn line -/
def spLine : Sp := fun vs H Q _ => ∃ (a : Addr) (n : Nat) (w : Int),
  vs = [.ref a, .int n, .int w] ∧ PotAt H a ∧ n ≤ 60 ∧ 2 ≤ w ∧ w ≤ 1000000 ∧
  ∀ H' p (ns : List Int), Chg a H H' → PotAt H' a → H p = none → p ≠ a →
    H' p = some (.lst (ns.map V.int)) → ns.length = n + 1 →
    (∀ z ∈ ns, -w - 3 ≤ z ∧ z ≤ w + 3) → (∀ z, ns.getLast? = some z → z ≠ 0) → Q (.ref p) H'
def spLaw (K : PySem.W.Frag) : Sp := fun vs H Q _ => ∃ (a : Addr) (ns : List Int),
  vs = [.ref a] ∧ SqL K H a (ns.map V.int) ∧ ns.length ≤ 63 ∧ ∀ H', Q (.bl true) H'
end Kr
/-! Any value: its kind, whether it is a line. -/
namespace Kr
open PySem PySem.Spec
open PyProof.Rows L2

theorem ifF {c : Bool} {A B : Prop} (e : c = false) (h : B) : if c = true then A else B := by
  subst e; exact iteF h
theorem ifT {c : Bool} {A B : Prop} (e : c = true) (h : A) : if c = true then A else B := by
  subst e; exact iteT h

theorem yesT {σ : L2.St} {H : Hp} {A B : Hp → Prop} (h : A H) :
    tYes σ H (fun b H3 => if b = true then A H3 else B H3) := by
  show if true = true then A H else B H
  rw [if_pos rfl]; exact h

inductive Kd (H : Hp) : V → String → Prop where
  | non : Kd H .non "NoneType"
  | bl (b : Bool) : Kd H (.bl b) "bool"
  | int (i : Int) : Kd H (.int i) "int"
  | str (x : Str) : Kd H (.str x) "str"
  | lst {a : Addr} {xs : List V} : H a = some (.lst xs) → Kd H (.ref a) "list"
  | tup {a : Addr} {xs : List V} : H a = some (.tup xs) → Kd H (.ref a) "tuple"
  | dct {a : Addr} {kvs : List (Key × V)} : H a = some (.dK kvs) → Kd H (.ref a) "dict"
theorem Kd.same {H H' : Hp} {v : V} {k : String} (s : Same H H') (x : Kd H v k) : Kd H' v k := by
  cases x with
  | non => exact .non
  | bl b => exact .bl b
  | int i => exact .int i
  | str y => exact .str y
  | lst e => exact .lst (s _ _ e)
  | tup e => exact .tup (s _ _ e)
  | dct e => exact .dct (s _ _ e)
theorem Kd.ty {K : PySem.W.Frag} {H : Hp} {v : V} {k : String} (x : Kd H v k) : TyX K H v (.type k) := by
  cases x with
  | non => exact .base .non
  | bl b => exact .base (.bl b)
  | int i => exact .base (.int i)
  | str y => exact .base (.str y)
  | lst e => exact .base (.lst e)
  | tup e => exact .base (.tup e)
  | dct e => exact .base (.dK e)
def isI : V → Bool
  | .int _ => true
  | _ => false
theorem isI_int {v : V} (h : isI v = true) : ∃ i, v = .int i := by
  cases v with
  | int i => exact ⟨i, rfl⟩
  | _ => cases h
/-- a list or a tuple -/
def isLT (k : String) : Bool := k == "list" || k == "tuple"
theorem kit_int {K : PySem.W.Frag} {H : Hp} {v : V} {k : String} (x : Kd H v k) :
    PySem.W.kitOne K (.type k) (.type "int") = some (k == "int" || k == "bool") := by
  cases x <;> exact kit_ty (by decide +kernel)
theorem kit_bool {K : PySem.W.Frag} {H : Hp} {v : V} {k : String} (x : Kd H v k) :
    PySem.W.kitOne K (.type k) (.type "bool") = some (k == "bool") := by
  cases x <;> exact kit_ty (by decide +kernel)
theorem Kd.isI {H : Hp} {v : V} {k : String} (x : Kd H v k) : Kr.isI v = ((k == "int" || k == "bool") && !(k == "bool")) := by
  cases x <;> rfl
theorem kit_lt {K : PySem.W.Frag} {H : Hp} {v : V} {k : String} (x : Kd H v k) :
    PySem.W.kitAny K (.type k) [.type "list", .type "tuple"] = some (isLT k) := by
  cases x with
  | lst e => exact kitAny_cons (b := true) (kit_ty (by decide +kernel)) (fun z => nomatch z) fun _ => rfl
  | tup e => exact kitAny_cons (b := false) (kit_ty (by decide +kernel)) (fun _ => kitAny_cons (b := true) (kit_ty (by decide +kernel)) (fun z => nomatch z) fun _ => rfl) fun z => nomatch z
  | _ => exact kitAny_cons (b := false) (kit_ty (by decide +kernel)) (fun _ => kitAny_cons (b := false) (kit_ty (by decide +kernel)) (fun _ => kitAny_nil) fun z => nomatch z) fun z => nomatch z

/-- 0 to 13 INTEGERS, the last one not 0 -/
def lineB (xs : List V) : Bool :=
  decide (xs.length ≤ 13) && xs.all isI && (xs.isEmpty || !decide (xs.getLast? = some (.int 0)))
inductive Val (H : Hp) : V → Bool → Prop where
  | lst {a : Addr} {xs : List V} : H a = some (.lst xs) → (∀ x ∈ xs, ∃ k, Kd H x k) →
      xs.length ≤ 1000 → Val H (.ref a) (lineB xs)
  | tup {a : Addr} {xs : List V} : H a = some (.tup xs) → (∀ x ∈ xs, ∃ k, Kd H x k) →
      xs.length ≤ 1000 → Val H (.ref a) (lineB xs)
  | oth {v : V} {k : String} : Kd H v k → isLT k = false → Val H v false
theorem Val.same {H H' : Hp} {v : V} {b : Bool} (s : Same H H') (x : Val H v b) : Val H' v b := by
  cases x with
  | lst e h l => exact .lst (s _ _ e) (fun x m => (h x m).elim fun k z => ⟨k, z.same s⟩) l
  | tup e h l => exact .tup (s _ _ e) (fun x m => (h x m).elim fun k z => ⟨k, z.same s⟩) l
  | oth k e => exact .oth (k.same s) e
theorem Val.kd {H : Hp} {v : V} {b : Bool} (x : Val H v b) : ∃ k, Kd H v k := by
  cases x with
  | lst e _ _ => exact ⟨_, .lst e⟩
  | tup e _ _ => exact ⟨_, .tup e⟩
  | oth k _ => exact ⟨_, k⟩
def spIsInt : Sp := fun vs H Q _ => ∃ (v : V) (k : String), vs = [v] ∧ Kd H v k ∧ Q (.bl (isI v)) H
def spIsList : Sp := fun vs H Q _ => ∃ (v : V) (k : String), vs = [v] ∧ Kd H v k ∧
  ∀ H', Same H H' → Q (.bl (isLT k)) H'
def spNumber : Sp := fun vs H Q _ => ∃ i : Int, vs = [.int i] ∧ Q .non H
def spIsLine : Sp := fun vs H Q _ => ∃ (v : V) (b : Bool), vs = [v] ∧ Val H v b ∧
  ∀ H', Same H H' → Q (.bl b) H'
theorem take_snoc {α : Type} {xs : List α} {i : Nat} {x : α} (h : xs[i]? = some x) : xs.take (i + 1) = xs.take i ++ [x] := by
  rw [List.take_add_one, h]; rfl
theorem lineB_long {xs : List V} (h : ¬ xs.length ≤ 13) : lineB xs = false := by
  unfold lineB; rw [decide_eq_false h]; rfl
theorem lineB_odd {xs : List V} (h : xs.all isI = false) : lineB xs = false := by
  unfold lineB; rw [h, Bool.and_false, Bool.false_and]
theorem lineB_end {xs : List V} (l : xs.length ≤ 13) (h : xs.all isI = true) :
    lineB xs = (xs.isEmpty || !decide (xs.getLast? = some (.int 0))) := by
  unfold lineB; rw [h, decide_eq_true l]; rfl
/-- what an own list of truth values holds while it grows -/
theorem all_id (xs : List V) : (xs.map isI).all id = xs.all isI := by
  rw [List.all_map]; rfl
theorem last_at1 {xs : List V} (h : xs ≠ []) : ∃ v, atI xs (-1) = some v ∧ xs.getLast? = some v ∧ v ∈ xs := by
  refine ⟨xs.getLast h, ?_, List.getLast?_eq_getLast h, List.getLast_mem h⟩
  have e : xs = xs.dropLast ++ [xs.getLast h] := (List.dropLast_concat_getLast h).symm
  have z := atI_last xs.dropLast (xs.getLast h)
  rwa [← e] at z
/-- the last look of a line's test -/
theorem last_look {xs : List V} (l : xs.length ≤ 13) (hI : xs.all isI = true) (hne : xs ≠ []) :
    ∃ v, atI xs (-1) = some v ∧ scal v (.int 0) = true ∧ (!decide (v = .int 0)) = lineB xs := by
  obtain ⟨v, h1, h2, h3⟩ := last_at1 hne
  obtain ⟨i, rfl⟩ := isI_int (List.all_eq_true.mp hI v h3)
  refine ⟨_, h1, rfl, ?_⟩
  rw [lineB_end l hI, h2]
  have e : xs.isEmpty = false := by cases xs with | nil => exact absurd rfl hne | cons _ _ => rfl
  rw [e]
  simp
end Kr
/-! repr of any value. -/
namespace Kr
open PySem PySem.Spec
open PyProof.Rows L2

/-- ints, and dicts of nothing, in a row -/
inductive OddAll (H : Hp) : List V → List PyData → Prop where
  | nil : OddAll H [] []
  | int {vs : List V} {ds : List PyData} (i : Int) : i.natAbs.log2 < 1920 → OddAll H vs ds → OddAll H (.int i :: vs) (.int i :: ds)
  | dct {b : Addr} {vs : List V} {ds : List PyData} : H b = some (.dK []) → OddAll H vs ds →
      OddAll H (.ref b :: vs) (.dict [] :: ds)
theorem OddAll.same {H H' : Hp} (s : Same H H') : ∀ {vs : List V} {ds : List PyData}, OddAll H vs ds → OddAll H' vs ds
  | _, _, .nil => .nil
  | _, _, .int i z r => .int i z (r.same s)
  | _, _, .dct e r => .dct (s _ _ e) (r.same s)
theorem OddAll.showable {H : Hp} : ∀ {vs : List V} {ds : List PyData}, OddAll H vs ds → PyData.showableAll ds = true
  | _, _, .nil => by simp only [PyData.showableAll]
  | _, _, .int i z r => by simp [PyData.showableAll, PyData.showable, r.showable, z]
  | _, _, .dct e r => by simp [PyData.showableAll, PyData.showable, PyData.showableKv, r.showable]
theorem OddAll.depth {H : Hp} : ∀ {vs : List V} {ds : List PyData}, OddAll H vs ds → PyData.depthAll ds ≤ 1
  | _, _, .nil => by simp [PyData.depthAll]
  | _, _, .int i _ r => by
    have z := r.depth
    simp [PyData.depthAll, PyData.depth]; omega
  | _, _, .dct e r => by
    have z := r.depth
    simp [PyData.depthAll, PyData.depth, PyData.depthKv]; omega
section
variable {X : Cx} {pins : List (Addr × Obj)} {σ : L2.St}
  {H : Hp} {s : Shared}
theorem dict0_reads (I : Inv X pins σ H s) {b : Addr} (e : H b = some (.dK [])) :
    Reads s.heap (.ref b) (.dict []) [b] ∧ b ≠ sysModules := by
  obtain ⟨_, hs, vs, kv, o, es, ep, h1, h2, h3, _, hp, _⟩ : ObjOk X.prog X.w H s.heap b (.dK []) := I.hok b _ e
  cases kv
  cases hl : es.toList with
  | nil =>
    refine ⟨?_, by simpa using hs⟩
    have z := Reads.dict (h := s.heap) (kvs := []) h1 h2.1 h3 (as := []) (bs := []) (by rw [hl]; exact .nil) (by rw [hl]; exact .nil)
    simpa using z
  | cons x r =>
    rw [hl] at hp
    cases hp
theorem dict1_reads (I : Inv X pins σ H s) {b : Addr} {i j : Int} (e : H b = some (.dK [(.inl i, .int j)])) :
    Reads s.heap (.ref b) (.dict [(.int i, .int j)]) [b] ∧ b ≠ sysModules := by
  obtain ⟨_, hs, vs, kv, o, es, ep, h1, h2, h3, _, hp, _⟩ : ObjOk X.prog X.w H s.heap b (.dK [(.inl i, .int j)]) := I.hok b _ e
  match vs, kv with
  | [(qk, qv)], .cons k1 .nil =>
    obtain ⟨k2, tj, rfl⟩ : Sum.inl i = qk ∧ ∃ t, qv = Value.int j t := k1
    subst k2
    cases hl : es.toList with
    | nil => rw [hl] at hp; cases hp
    | cons x r =>
      rw [hl] at hp
      cases hp with
      | cons a1 a2 a3 =>
        cases a3
        refine ⟨?_, by simpa using hs⟩
        obtain ⟨hh, key, val⟩ := x
        obtain ⟨ti, rfl⟩ := Value.isInt_shape (k := i) (v := key) a1
        obtain rfl : val = Value.int j tj := a2
        have z := Reads.dict (h := s.heap) (kvs := [(.int i, .int j)]) h1 h2.1 h3 (as := [] ++ []) (bs := [] ++ []) (by rw [hl]; exact .cons (.int i ti) .nil) (by rw [hl]; exact .cons (.int j tj) .nil)
        simpa using z
theorem OddAll.reads (I : Inv X pins σ H s) : ∀ {vs : List V} {ds : List PyData} {us : List Value}, OddAll H vs ds → Vals vs us →
    ∃ as, ReadsAll s.heap us ds as ∧ sysModules ∉ as
  | _, _, _, .nil, .nil => ⟨[], .nil, by simp⟩
  | _, _, _, .int i _ r, .cons rv rr => by
    obtain ⟨t, rfl⟩ := rv
    obtain ⟨as, z, n⟩ := r.reads I rr
    exact ⟨[] ++ as, .cons (.int i t) z, by simpa using n⟩
  | _, _, _, .dct (b := b) e r, .cons rv rr => by
    obtain rfl := rv
    obtain ⟨as, z, n⟩ := r.reads I rr
    obtain ⟨z1, n1⟩ := dict0_reads I e
    exact ⟨[b] ++ as, .cons z1 z, by simp [n, Ne.symm n1]⟩
end
/-- a list's repr, its items told -/
theorem repr_items {prog : Program} {w : World} {h₀ : Heap} {a : Addr} {o : Obj} {l : List Value} {n : Nat} {ds : List PyData} {as : List Addr}
    {A : Around} {E : Value → Shared → Prop} {s : Shared} {Q : Value → Shared → Prop}
    (h1 : h₀.get? a = some o) (h2 : o.cls = .type "list") (h3 : o.data = .seq l.toArray n) (h4 : ReadsAll h₀ l ds as) (hl : l ≠ [])
    (hs : PyData.showableAll ds = true) (hsm : sysModules ∉ as) (hg : A.guards = some [])
    (hd : PyData.depthAll ds ≤ 40) (hu : A.units + 64 < cLine) (hk : ∀ b o, h₀.get? b = some o → s.heap.get? b = some o)
    (hQ : ∀ h' u tk, (∀ b o, s.heap.get? b = some o → h'.get? b = some o) →
      Q (.str (PyData.shown (.list ds)) u) { s with heap := h', toks := tk })
    (hz : (PyData.shown (.list ds)).length ≤ sizeLine) :
    wpAny (model prog w) A (call (.builtin "repr") [.ref a]) Q E s := by
  have hz' : (listText (PyData.shownAll ds)).length ≤ sizeLine := by simpa only [PyData.shown] using hz
  obtain ⟨bs, hb, kk⟩ := ReprAllK.of_readsAll (prog := prog) (w := w) h4 hs (fun _ => hsm)
    (fun t ht => Nat.le_trans (listText_mem_le ht) hz')
  have R : Reads h₀ (.ref a) (.list ds) (a :: as) := .list h1 h2 h3 h4
  have nb : a ∉ bs := not_mem_of_deeper R (by simp only [PyData.depth]; omega) hb
  refine call_repr_slot (by omega) ⟨o, hk _ _ h1, h2⟩ F.slot_list_repr.toG ?_
  match l, hl with
  | x :: l, _ =>
    refine call_list_reprK h1 h2 h3 nb (by simpa using kk.length_eq) (fun i y e => kk.item i y (by simpa using e)) hg
      (fun b _ => Clear.nil b) (by show A.units + 1 + (PyData.depthAll ds + 1) < cLine; omega) hk (fun h' u tk z => ⟨_, _, rfl, ?_⟩) hz'
    have y := hQ h' u tk z
    simp only [PyData.shown] at y
    exact y

/-- the text that repr tells of a value -/
inductive Sh (K : PySem.W.Frag) (H : Hp) : V → Str → Prop where
  | non : Sh K H .non "None"
  | bl (b : Bool) : Sh K H (.bl b) (if b = true then "True" else "False")
  | int (i : Int) : i.natAbs.log2 < 1920 → Sh K H (.int i) (toString i)
  | str (x : Str) : (reprText x).length ≤ sizeLine → Sh K H (.str x) (reprText x)
  | dat {a : Addr} {d : PyData} : Dp K H (.ref a) d → d.showable = true → d.hasDict = false → d.depth ≤ 60 →
      d.shown.length ≤ sizeLine → Sh K H (.ref a) d.shown
  | d0 {a : Addr} : H a = some (.dK []) → Sh K H (.ref a) (PyData.shown (.dict []))
  | d1 {a : Addr} (i j : Int) : H a = some (.dK [(.inl i, .int j)]) →
      i.natAbs.log2 < 1920 ∧ j.natAbs.log2 < 1920 → (PyData.shown (.dict [(.int i, .int j)])).length ≤ sizeLine →
      Sh K H (.ref a) (PyData.shown (.dict [(.int i, .int j)]))
  | odd {a : Addr} {xs : List V} {ds : List PyData} : H a = some (.lst xs) → xs ≠ [] → OddAll H xs ds →
      (PyData.shown (.list ds)).length ≤ sizeLine → Sh K H (.ref a) (PyData.shown (.list ds))
mutual
theorem dp_same {K : PySem.W.Frag} {H H' : Hp} (s : Same H H') : ∀ {d : PyData} {v : V}, Dp K H v d → Dp K H' v d
  | _, _, .non => .non
  | _, _, .bl b => .bl b
  | _, _, .int i => .int i
  | _, _, .str x => .str x
  | _, _, .lst h r => .lst (s.seq h) (dps_same s r)
  | _, _, .tup h r => .tup (Same.tseq s h) (dps_same s r)
theorem dps_same {K : PySem.W.Frag} {H H' : Hp} (s : Same H H') : ∀ {ds : List PyData} {vs : List V}, DpAll K H vs ds → DpAll K H' vs ds
  | _, _, .nil => .nil
  | _, _, .cons h r => .cons (dp_same s h) (dps_same s r)
end
theorem Sh.same {K : PySem.W.Frag} {H H' : Hp} {v : V} {t : Str} (s : Same H H') (x : Sh K H v t) : Sh K H' v t := by
  cases x with
  | non => exact .non
  | bl b => exact .bl b
  | int i h => exact .int i h
  | str y h => exact .str y h
  | dat h a b c e => exact .dat (dp_same s h) a b c e
  | d0 h => exact .d0 (s _ _ h)
  | d1 i j h y z => exact .d1 i j (s _ _ h) y z
  | odd h n r z => exact .odd (s _ _ h) n (r.same s) z
section
variable {X : Cx}
theorem call_shown (hG : Quiet X.A) (hu : X.A.units + 64 < cLine) :
    CallR X (.builtin "repr") (fun xs H Q => ∃ v t, xs = [v] ∧ Sh X.K H v t ∧ Q (.str t) H) := by
  intro pins s σ H zs us Q I r h
  obtain ⟨v, t, rfl, hv, q⟩ := h
  obtain ⟨u', rfl, rx⟩ := vals1 r
  have fin : ∀ h' u tk, (∀ b o, s.heap.get? b = some o → h'.get? b = some o) →
      EP X pins σ Q (.str t u) { s with heap := h', toks := tk } :=
    fun h' u tk kk => ⟨.str t, H, I.kept (fun b o e => kk b o e), ⟨u, rfl⟩, q⟩
  cases hv with
  | non => obtain rfl := rx; exact PySem.P.repr_of_none ⟨.str _, H, I.tok _, ⟨_, rfl⟩, q⟩
  | bl b => obtain rfl := rx; exact PySem.P.repr_of_bool ⟨.str _, H, I.tok _, ⟨_, rfl⟩, q⟩
  | int i h => obtain ⟨t, rfl⟩ := rx; exact PySem.P.repr_of_int h ⟨.str _, H, I.tok _, ⟨_, rfl⟩, q⟩
  | str x h => obtain ⟨t, rfl⟩ := rx; exact PySem.P.repr_of_str ⟨.str _, H, I.tok _, ⟨_, rfl⟩, q⟩ h
  | @dat a d hd hs hn h60 hz =>
    exact call_repr hG hu pins s σ H _ _ Q I (.cons rx .nil) ⟨a, d, rfl, hd, hs, hn, h60, hz, q⟩
  | @d0 a h =>
    obtain rfl := rx
    obtain ⟨R, n⟩ := dict0_reads I h
    refine repr_of_reads' R (by decide) (fun _ => by simpa using Ne.symm n) hG ?_ (fun _ _ e => e) fin (by decide +kernel)
    exact Nat.lt_of_le_of_lt (Nat.add_le_add_left (by decide) _) hu
  | @d1 a i j h y z =>
    obtain rfl := rx
    obtain ⟨R, n⟩ := dict1_reads I h
    refine repr_of_reads' R (by simp [PyData.showable, PyData.showableKv, y]) (fun _ => by simpa using Ne.symm n) hG ?_ (fun _ _ e => e) fin z
    refine Nat.lt_of_le_of_lt (Nat.add_le_add_left ?_ _) hu
    simp [PyData.depth, PyData.depthKv]
  | @odd a xs ds h nx ho z =>
    obtain rfl := rx
    obtain ⟨_, its, n, rv, e⟩ : ObjOk X.prog X.w H s.heap a (.lst xs) := I.hok a _ h
    obtain ⟨as, R, n⟩ := ho.reads I rv
    refine repr_items e rfl rfl R (fun z => ?_) ho.showable n hG (Nat.le_trans ho.depth (by decide)) hu (fun _ _ e => e) fin z
    subst z
    cases rv
    exact nx rfl
end
end Kr
/-! Values that are made in a row: each is looked at as a line, and shown. -/
namespace Kr
open PySem PySem.Spec
open PyProof.Rows L2

def Good (K : PySem.W.Frag) (H : Hp) (v : V) : Prop := ∃ b t, Val H v b ∧ Sh K H v t
theorem Good.same {K : PySem.W.Frag} {H H' : Hp} {v : V} (s : Same H H') : Good K H v → Good K H' v
  | ⟨b, t, x, y⟩ => ⟨b, t, x.same s, y.same s⟩
/-- such a value comes, whatever else has come -/
def GE (K : PySem.W.Frag) (te : TE) (σ : L2.St) (H : Hp) : Prop :=
  ∀ H1, Same H H1 → ∀ Q : VK, (∀ v H2, Same H1 H2 → Good K H2 v → Q v H2) → te σ H1 Q
def GA (K : PySem.W.Frag) (ta : TA) (n : Nat) (σ : L2.St) (H : Hp) : Prop :=
  ∀ H1, Same H H1 → ∀ Q : List V → Hp → Prop,
    (∀ vs H2, Same H1 H2 → vs.length = n → (∀ v ∈ vs, Good K H2 v) → Q vs H2) → ta σ H1 Q
theorem ga_nil {K : PySem.W.Frag} {σ : L2.St} {H : Hp} : GA K tNil 0 σ H :=
  fun H1 s Q q => q [] H1 (Same.refl _) rfl fun v h => nomatch h
theorem ga_cons {K : PySem.W.Frag} {σ : L2.St} {H : Hp} {te : TE} {ta : TA} {n : Nat} (h : GE K te σ H) (r : GA K ta n σ H) :
    GA K (tCons te ta) (n + 1) σ H := fun H1 s Q q =>
  h H1 s _ fun v H2 s2 gv => r H2 (s.trans s2) _ fun vs H3 s3 l gs => q (v :: vs) H3 (s2.trans s3) (by rw [List.length_cons, l]) fun y hy => by
    rcases List.mem_cons.mp hy with e | hy
    · rw [e]; exact gv.same s3
    · exact gs y hy
theorem GA.use {K : PySem.W.Frag} {σ : L2.St} {H : Hp} {ta : TA} {n : Nat} {Q : List V → Hp → Prop} (g : GA K ta n σ H)
    (q : ∀ vs H2, Same H H2 → vs.length = n → (∀ v ∈ vs, Good K H2 v) → Q vs H2) : ta σ H Q := g H (Same.refl _) Q q

theorem GA.lst {K : PySem.W.Frag} {σ : L2.St} {H : Hp} {ta : TA} {n : Nat} {Q : VK} (g : GA K ta n σ H) (hn : n ≤ 1000)
    (q : ∀ vs H2 r, Same H H2 → vs.length = n → (∀ v ∈ vs, Good K H2 v) → H2 r = none → Q (.ref r) (upd H2 r (.lst vs))) : tLst ta σ H Q :=
  g.use fun vs H2 s l gs => ⟨Nat.le_of_lt (small1000 (by omega)), fun r nr => q vs H2 r s l gs nr⟩

/-- an item that is small -/
def It (K : PySem.W.Frag) (H : Hp) (x : V) : Prop := ∃ d k, Dp K H x d ∧ Kd H x k ∧ d.showable = true ∧ d.hasDict = false ∧
  d.depth ≤ 5 ∧ d.leavesShort 13 = true ∧ d.bulk ≤ 100
theorem It.same {K : PySem.W.Frag} {H H' : Hp} {x : V} (s : Same H H') : It K H x → It K H' x
  | ⟨d, k, a, b, r⟩ => ⟨d, k, dp_same s a, b.same s, r⟩
theorem log2_small {n : Nat} (h : n ≤ 1000000000) : n.log2 < 1920 := by
  by_cases z : n = 0
  · subst z; decide
  · exact (Nat.log2_lt z).mpr (Nat.lt_of_le_of_lt h (Nat.lt_of_lt_of_le (show 1000000000 < 2 ^ 40 by decide) (Nat.pow_le_pow_right (by decide) (by decide))))
theorem it_int {K : PySem.W.Frag} {H : Hp} {z : Int} (h : z.natAbs ≤ 1000000000) : It K H (.int z) :=
  ⟨.int z, "int", .int z, .int z, by simpa [PyData.showable] using log2_small h, by simp [PyData.hasDict], by simp [PyData.depth],
    by simpa only [PyData.leavesShort, decide_eq_true_eq] using PyData.shown_int_le2 (by omega) (by omega), by simp [PyData.bulk]⟩
theorem it_bl {K : PySem.W.Frag} {H : Hp} (b : Bool) : It K H (.bl b) := ⟨.bool b, "bool", .bl b, .bl b, by cases b <;> decide, by cases b <;> decide, by cases b <;> decide, by cases b <;> decide, by cases b <;> decide⟩
theorem it_non {K : PySem.W.Frag} {H : Hp} : It K H .non := ⟨.none, "NoneType", .non, .non, by decide, by decide, by decide, by decide, by decide⟩
theorem it_str1 {K : PySem.W.Frag} {H : Hp} : It K H (.str "1") := ⟨.str "1", "str", .str _, .str _, by decide, by decide, by decide, by decide +kernel, by decide +kernel⟩
theorem it_lst0 {K : PySem.W.Frag} {H : Hp} {a : Addr} (e : H a = some (.lst [])) : It K H (.ref a) :=
  ⟨.list [], "list", .lst (SqL.of e) .nil, .lst e, by decide, by decide, by decide, by decide, by decide⟩
theorem it_lst1 {K : PySem.W.Frag} {H : Hp} {a : Addr} (e : H a = some (.lst [.int 1])) : It K H (.ref a) :=
  ⟨.list [.int 1], "list", .lst (SqL.of e) (.cons (.int 1) .nil), .lst e, by decide, by decide, by decide, by decide +kernel, by decide⟩
theorem it_tup0 {K : PySem.W.Frag} {H : Hp} {a : Addr} (e : H a = some (.tup [])) : It K H (.ref a) :=
  ⟨.tuple [], "tuple", .tup (SqT.of e) .nil, .tup e, by decide, by decide, by decide, by decide, by decide⟩
/-- .. all of them together -/
theorem its_all {K : PySem.W.Frag} {H : Hp} : ∀ {xs : List V}, (∀ x ∈ xs, It K H x) → ∃ ds, DpAll K H xs ds ∧ PyData.showableAll ds = true ∧
    PyData.hasDictAll ds = false ∧ PyData.depthAll ds ≤ 5 ∧ PyData.leavesShortAll 13 ds = true ∧ PyData.bulkAll ds ≤ 101 * xs.length
  | [], _ => ⟨[], .nil, by simp [PyData.showableAll], by simp [PyData.hasDictAll], by simp [PyData.depthAll], by simp [PyData.leavesShortAll], by simp [PyData.bulkAll]⟩
  | x :: xs, h => by
    obtain ⟨ds, h1, h2, h3, h4, h5, h6⟩ := its_all (xs := xs) fun y hy => h y (List.mem_cons_of_mem _ hy)
    obtain ⟨d, k, a1, _, a2, a3, a4, a5, a6⟩ := h x List.mem_cons_self
    refine ⟨d :: ds, .cons a1 h1, by simp [PyData.showableAll, a2, h2], by simp [PyData.hasDictAll, a3, h3], ?_, by simp [PyData.leavesShortAll, a5, h5], ?_⟩
    · simp only [PyData.depthAll]; omega
    · simp only [PyData.bulkAll, List.length_cons]; omega
theorem pow20 : (2 : Nat) ^ 20 = 1048576 := by decide
theorem good_lst {K : PySem.W.Frag} {H : Hp} {a : Addr} {xs : List V} (e : H a = some (.lst xs)) (h : ∀ x ∈ xs, It K H x)
    (l : xs.length ≤ 40) : Good K H (.ref a) := by
  obtain ⟨ds, h1, h2, h3, h4, h5, h6⟩ := its_all h
  refine ⟨_, _, .lst e (fun x hx => ?_) (by omega), .dat (d := .list ds) (.lst (SqL.of e) h1) (by simpa [PyData.showable] using h2) (by simpa [PyData.hasDict] using h3) (by simp only [PyData.depth]; omega) ?_⟩
  · obtain ⟨d, k, _, hk, _⟩ := h x hx
    exact ⟨k, hk⟩
  · exact PyData.shown_fits_bulk (B := 13) (by decide) (by decide) (by simpa [PyData.leavesShort] using h5) (by simp only [PyData.bulk]; rw [pow20]; omega)
theorem good_tup {K : PySem.W.Frag} {H : Hp} {a : Addr} {xs : List V} (e : H a = some (.tup xs)) (h : ∀ x ∈ xs, It K H x)
    (l : xs.length ≤ 40) : Good K H (.ref a) := by
  obtain ⟨ds, h1, h2, h3, h4, h5, h6⟩ := its_all h
  refine ⟨_, _, .tup e (fun x hx => ?_) (by omega), .dat (d := .tuple ds) (.tup (SqT.of e) h1) (by simpa [PyData.showable] using h2) (by simpa [PyData.hasDict] using h3) (by simp only [PyData.depth]; omega) ?_⟩
  · obtain ⟨d, k, _, hk, _⟩ := h x hx
    exact ⟨k, hk⟩
  · exact PyData.shown_fits_bulk (B := 13) (by decide) (by decide) (by simpa [PyData.leavesShort] using h5) (by simp only [PyData.bulk]; rw [pow20]; omega)
/-- a value of another kind, or small -/
def OddV (K : PySem.W.Frag) (H : Hp) (v : V) : Prop := It K H v ∨ ∃ b, v = .ref b ∧ H b = some (.dK [])
theorem OddV.same {K : PySem.W.Frag} {H H' : Hp} {x : V} (s : Same H H') : OddV K H x → OddV K H' x
  | .inl h => .inl (h.same s)
  | .inr ⟨b, e, h⟩ => .inr ⟨b, e, s _ _ h⟩
/-- small ints -/
def SI (x : V) : Prop := ∃ z : Int, x = .int z ∧ z.natAbs ≤ 1000000000
theorem SI.it {K : PySem.W.Frag} {H : Hp} {x : V} : SI x → It K H x
  | ⟨z, e, h⟩ => by rw [e]; exact it_int h
theorem shortInts : ∀ {H : Hp} {xs : List V} {b : Addr}, H b = some (.dK []) → ∀ ys : List V, (∀ x ∈ xs, SI x) → (∀ x ∈ ys, SI x) →
    ∃ ds, OddAll H (xs ++ [.ref b] ++ ys) ds ∧ PyData.leavesShortAll 13 ds = true ∧ PyData.bulkAll ds ≤ 101 * (xs.length + ys.length + 1) := by
  intro H xs b e ys hx hy
  have rowI : ∀ zs : List V, (∀ x ∈ zs, SI x) → ∀ {us : List V} {ds : List PyData}, OddAll H us ds → PyData.leavesShortAll 13 ds = true →
      ∃ es, OddAll H (zs ++ us) es ∧ PyData.leavesShortAll 13 es = true ∧ PyData.bulkAll es ≤ 101 * zs.length + PyData.bulkAll ds := by
    intro zs
    induction zs with
    | nil => exact fun _ us ds h l => ⟨ds, h, l, by simp⟩
    | cons z zs ih =>
      intro h us ds ho l
      obtain ⟨es, h1, h2, h3⟩ := ih (fun x hx => h x (List.mem_cons_of_mem _ hx)) ho l
      obtain ⟨i, rfl, hi⟩ := h z List.mem_cons_self
      refine ⟨.int i :: es, .int i (log2_small hi) h1, ?_, ?_⟩
      · have y : PyData.leavesShort 13 (.int i) = true := by simpa only [PyData.leavesShort, decide_eq_true_eq] using PyData.shown_int_le2 (by omega) (by omega)
        simp [PyData.leavesShortAll, y, h2]
      · simp only [PyData.bulkAll, PyData.bulk, List.length_cons]; omega
  obtain ⟨ds, h1, h2, h3⟩ := rowI ys hy (us := []) (ds := []) .nil (by simp [PyData.leavesShortAll])
  rw [List.append_nil] at h1
  have z : OddAll H (.ref b :: ys) (.dict [] :: ds) := .dct e h1
  obtain ⟨es, g1, g2, g3⟩ := rowI xs hx z (by simp [PyData.leavesShortAll, PyData.leavesShort, PyData.leavesShortKv, h2])
  refine ⟨es, by simpa using g1, g2, ?_⟩
  simp only [PyData.bulkAll, PyData.bulk, PyData.bulkKv] at g3 h3
  omega
theorem good_odd {K : PySem.W.Frag} {H : Hp} {a : Addr} {xs ys : List V} {v : V} (e : H a = some (.lst (xs ++ [v] ++ ys)))
    (hv : OddV K H v) (hx : ∀ x ∈ xs, SI x) (hy : ∀ x ∈ ys, SI x) (l : xs.length + ys.length ≤ 30) : Good K H (.ref a) := by
  rcases hv with hv | ⟨b, rfl, hb⟩
  · refine good_lst e (fun x hm => ?_) (by simp; omega)
    simp only [List.mem_append, List.mem_cons, List.not_mem_nil, or_false] at hm
    rcases hm with (hm | hm) | hm
    · exact (hx x hm).it
    · rw [hm]; exact hv
    · exact (hy x hm).it
  · obtain ⟨ds, h1, h2, h3⟩ := shortInts hb ys hx hy
    refine ⟨_, _, .lst e (fun x hm => ?_) (by simp; omega), .odd e (by simp) h1 ?_⟩
    · simp only [List.mem_append, List.mem_cons, List.not_mem_nil, or_false] at hm
      rcases hm with (hm | hm) | hm
      · obtain ⟨z, rfl, _⟩ := hx x hm; exact ⟨_, .int z⟩
      · rw [hm]; exact ⟨_, .dct hb⟩
      · obtain ⟨z, rfl, _⟩ := hy x hm; exact ⟨_, .int z⟩
    · exact PyData.shown_fits_bulk (B := 13) (by decide) (by decide) (by simpa [PyData.leavesShort] using h2) (by simp only [PyData.bulk]; rw [pow20]; omega)
theorem cut_mem {xs : List V} {lo hi : Option Int} {x : V} (h : x ∈ cutV xs lo hi) : x ∈ xs :=
  List.mem_of_mem_drop (List.mem_of_mem_take h)
theorem cut_si {xs : List V} {lo hi : Option Int} (h : ∀ x ∈ xs, SI x) : ∀ x ∈ cutV xs lo hi, SI x := fun x hx => h x (cut_mem hx)
theorem rep_si {xs : List V} {n : Nat} (h : ∀ x ∈ xs, SI x) : ∀ x ∈ (List.replicate n xs).flatten, SI x := fun x hx => by
  obtain ⟨l, h1, h2⟩ := List.mem_flatten.mp hx
  rw [List.eq_of_mem_replicate h1] at h2
  exact h x h2
theorem si_one (z : Int) (h : z.natAbs ≤ 1000000000) : ∀ x ∈ [V.int z], SI x := fun x hx => by
  have e : x = .int z := by simpa using hx
  exact ⟨z, e, h⟩
theorem si_app {xs ys : List V} (h1 : ∀ x ∈ xs, SI x) (h2 : ∀ x ∈ ys, SI x) : ∀ x ∈ xs ++ ys, SI x := fun x hx =>
  (List.mem_append.mp hx).elim (h1 x) (h2 x)
theorem si_map {ns : List Int} (h : ∀ z ∈ ns, z.natAbs ≤ 1000000000) : ∀ x ∈ ns.map V.int, SI x := fun x hx => by
  obtain ⟨z, hz, rfl⟩ := List.mem_map.mp hx
  exact ⟨z, rfl, h z hz⟩
theorem good_si {K : PySem.W.Frag} {H : Hp} {a : Addr} {xs : List V} (e : H a = some (.lst xs)) (h : ∀ x ∈ xs, SI x)
    (l : xs.length ≤ 40) : Good K H (.ref a) := good_lst e (fun x hx => (h x hx).it) l
theorem good_sc {K : PySem.W.Frag} {H : Hp} {v : V} {k : String} {t : Str} (hk : Kd H v k) (e : isLT k = false) (h : Sh K H v t) : Good K H v :=
  ⟨false, t, .oth hk e, h⟩
end Kr
namespace Kr
/-! ### primes -/
/-- no lesser number but 1 divides it -/
def prm (n : Nat) : Bool := (List.range n).all fun d => decide (d < 2) || decide (n < d * d) || decide (n % d ≠ 0)
theorem prm_false {n d : Nat} (h2 : 2 ≤ d) (hd : d * d ≤ n) (hz : n % d = 0) : prm n = false := by
  have hlt : d < n := by
    have : 2 * d ≤ d * d := Nat.mul_le_mul_right d h2
    omega
  cases h : prm n with
  | false => rfl
  | true =>
    have z := List.all_eq_true.mp h d (List.mem_range.mpr hlt)
    have a : ¬ d < 2 := by omega
    have b : ¬ n < d * d := by omega
    simp [a, b, hz] at z
theorem prm_true {n p : Nat} (hp : n < p * p) (h : ∀ d, 2 ≤ d → d < p → n % d ≠ 0) : prm n = true := by
  refine List.all_eq_true.mpr fun d hd => ?_
  by_cases a : d < 2
  · simp [a]
  · by_cases b : n < d * d
    · simp [b]
    · have : d < p := by
        apply Nat.lt_of_not_le
        intro z
        have := Nat.mul_le_mul z z
        omega
      have c := h d (by omega) this
      simp [c]
theorem int_mod_nat {n d : Nat} (hd : 0 < d) : ((n : Int) % (d : Int) = 0) ↔ n % d = 0 := by
  rw [← Int.natCast_emod]; omega
theorem fdiv_mul_eq {n d : Nat} (hd : 0 < d) : ((n : Int).fdiv (d : Int) * (d : Int) = (n : Int)) ↔ n % d = 0 := by
  rw [Int.fdiv_eq_ediv_of_nonneg _ (by omega)]
  have := Int.emod_add_mul_ediv (n : Int) (d : Int)
  rw [Int.mul_comm] at this
  have e := int_mod_nat (n := n) hd
  constructor
  · intro h; apply e.mp; omega
  · intro h; have := e.mpr h; omega
/-! ### rests, and the mixing -/
theorem fmod_abs {a b : Int} (hb : b ≠ 0) : (a - a.fdiv b * b).natAbs < b.natAbs := by
  have e : a - a.fdiv b * b = a.fmod b := by
    have := Int.fmod_add_mul_fdiv a b
    have c := Int.mul_comm b (a.fdiv b)
    omega
  rw [e, Int.fmod_eq_emod]
  have h0 := Int.emod_nonneg a hb
  have h1 : a % b < b.natAbs := Int.emod_lt a hb
  split
  · omega
  · rename_i z
    have z1 : ¬ 0 ≤ b := fun q => z (.inl q)
    have z2 : a % b ≠ 0 := fun q => z (.inr (Int.dvd_of_emod_eq_zero q))
    omega
theorem gcd_rest (a b q : Int) : Int.gcd b (a - q * b) = Int.gcd a b := by
  rw [Int.gcd_comm a b]
  exact Int.gcd_sub_mul_right_right ..

/-- what the mixing keeps -/
structure Mix (x y a a1 a2 b b1 b2 : Int) : Prop where
  ea : a = a1 * x + a2 * y
  eb : b = b1 * x + b2 * y
  g : Int.gcd a b = Int.gcd x y
  la : a.natAbs ≤ 300000
  lb : b.natAbs ≤ 300000
theorem Mix.step {x y a a1 a2 b b1 b2 q : Int} (m : Mix x y a a1 a2 b b1 b2) (hq : q = a.fdiv b) (hb : b ≠ 0) :
    Mix x y b b1 b2 (a - q * b) (a1 - q * b1) (a2 - q * b2) := by
  subst hq
  have h := fmod_abs (a := a) hb
  refine ⟨m.eb, ?_, by rw [gcd_rest, m.g], m.lb, by have := m.lb; omega⟩
  have e1 := m.ea
  have e2 := m.eb
  generalize a.fdiv b = q at *
  rw [Int.sub_mul, Int.sub_mul, Int.mul_assoc, Int.mul_assoc]
  have e3 : q * b = q * (b1 * x) + q * (b2 * y) := by rw [e2, Int.mul_add]
  omega
theorem fdiv_small {a b : Int} (ha : a.natAbs ≤ 300000) (hb : b ≠ 0) : -(2 ^ 64) < a.fdiv b ∧ a.fdiv b < 2 ^ 64 := by
  have e : a.fdiv b * b = a - a.fmod b := Int.fdiv_mul_self a b
  have h := fmod_abs (a := a) hb
  have e2 : a - a.fdiv b * b = a.fmod b := by omega
  rw [e2] at h
  have k : (a.fdiv b * b).natAbs = (a.fdiv b).natAbs * b.natAbs := Int.natAbs_mul ..
  have hb' : 1 ≤ b.natAbs := by omega
  have l : (a.fdiv b).natAbs ≤ 300001 := by
    apply Nat.le_of_not_lt
    intro z
    have z2 : 300002 * b.natAbs ≤ (a.fdiv b).natAbs * b.natAbs := Nat.mul_le_mul_right _ z
    have z3 : 300002 * b.natAbs = 300001 * b.natAbs + b.natAbs := by omega
    have z4 : 300001 ≤ 300001 * b.natAbs := by omega
    rw [← k, e] at z2
    omega
  have p : (2 : Int) ^ 64 = 18446744073709551616 := by decide
  rw [p]; omega
theorem Mix.start (x y : Int) (hx : x.natAbs ≤ 300000) (hy : y.natAbs ≤ 300000) : Mix x y x 1 0 y 0 1 :=
  ⟨by omega, by omega, rfl, hx, hy⟩
theorem Mix.done {x y a a1 a2 b1 b2 : Int} (m : Mix x y a a1 a2 0 b1 b2) : a.natAbs = Int.gcd x y := by
  rw [← m.g]; simp
theorem gcd_div {x y : Int} {g : Nat} (h : g = Int.gcd x y) : (x.fdiv g) * g = x ∧ (y.fdiv g) * g = y := by
  subst h
  constructor
  · exact Int.fdiv_mul_cancel_of_fmod_eq_zero (Int.fmod_eq_zero_of_dvd (Int.gcd_dvd_left ..))
  · exact Int.fdiv_mul_cancel_of_fmod_eq_zero (Int.fmod_eq_zero_of_dvd (Int.gcd_dvd_right ..))
end Kr
namespace Kr
open PySem PySem.Spec
open PyProof.Rows L2
/-- what is told of primes -/
def primeV : V → Bool
  | .int i => decide (2 ≤ i) && decide (i < 10000) && prm i.toNat
  | _ => false
theorem primeV_non {v : V} (h : isI v = false) : primeV v = false := by
  cases v <;> first | rfl | cases h
theorem primeV_off {i : Int} (h : i < 2 ∨ 10000 ≤ i) : primeV (.int i) = false := by
  show (decide (2 ≤ i) && decide (i < 10000) && prm i.toNat) = false
  rcases h with h | h
  · rw [decide_eq_false (show ¬ 2 ≤ i by omega)]; rfl
  · rw [decide_eq_false (show ¬ i < 10000 by omega), Bool.and_false]; rfl
theorem primeV_nat {n : Nat} (h : 2 ≤ n) (l : n < 10000) : primeV (.int (n : Nat)) = prm n := by
  show (decide ((2 : Int) ≤ (n : Nat)) && decide (((n : Nat) : Int) < 10000) && prm (n : Int).toNat) = prm n
  rw [decide_eq_true (show (2 : Int) ≤ (n : Nat) by omega), decide_eq_true (show ((n : Nat) : Int) < 10000 by omega)]
  rfl
def spIsPrime : Sp := fun vs H Q _ => ∃ (v : V) (k : String), vs = [v] ∧ Kd H v k ∧ Q (.bl (primeV v)) H
/-- what the mixing comes to -/
def spMixed : Sp := fun vs H Q _ => ∃ x y : Int, vs = [.int x, .int y] ∧ x.natAbs ≤ 300000 ∧ y.natAbs ≤ 300000 ∧
  ∀ H' p a a1 a2, Same H H' → H' p = some (.tup [.int a, .int a1, .int a2]) → a = a1 * x + a2 * y →
    a.natAbs = Int.gcd x y → a.natAbs ≤ 300000 → Q (.ref p) H'
/-- a part of the law that holds -/
def spHolds : Sp := fun vs H Q _ => ∃ a : Addr, vs = [.ref a] ∧ PotAt H a ∧
  ∀ H', Chg a H H' → PotAt H' a → Q (.bl true) H'
def spGreatest : Sp := fun vs H Q _ => ∃ a b : Int, vs = [.int a, .int b] ∧
  Q (.int ((Nat.gcd a.natAbs b.natAbs : Nat) : Int)) H
def topS (i : Nat) : Stmt :=
  PySem.Challenge.pw_curvepieces_k16_any_value_as_line_or_pri.main.body.getD i (.Pass ⟨0, 0, 0, 0⟩)
abbrev s__law_pot : Stmt := topS 16
theorem S__law_pot : FnScope ["_law_script", "_law_k", "_law_cell"]
    ["_law_script", "_law_k"] (defScope s__law_pot) :=
  ⟨rfl, rfl, rfl, by decide +kernel, rfl, by decide +kernel, by decide +kernel⟩
abbrev s__law_draw : Stmt := topS 17
theorem S__law_draw : FnScope ["_law_pot_here", "_law_many", "_law_digit"]
    ["_law_pot_here", "_law_many"] (defScope s__law_draw) :=
  ⟨rfl, rfl, rfl, by decide +kernel, rfl, by decide +kernel, by decide +kernel⟩
abbrev s__law_pick : Stmt := topS 18
theorem S__law_pick : FnScope ["_law_pot_here", "_law_some"]
    ["_law_pot_here", "_law_some"] (defScope s__law_pick) :=
  ⟨rfl, rfl, rfl, by decide +kernel, rfl, by decide +kernel, by decide +kernel⟩
abbrev s__law_line : Stmt := topS 19
theorem S__law_line : FnScope ["_law_pot_here", "_law_most", "_law_wide", "_law_found", "_law_power"]
    ["_law_pot_here", "_law_most", "_law_wide"] (defScope s__law_line) :=
  ⟨rfl, rfl, rfl, by decide +kernel, rfl, by decide +kernel, by decide +kernel⟩
abbrev s_is_integer : Stmt := topS 5
theorem S_is_integer : FnScope ["value"]
    ["value"] (defScope s_is_integer) :=
  ⟨rfl, rfl, rfl, by decide +kernel, rfl, by decide +kernel, by decide +kernel⟩
abbrev s__law_is_integer : Stmt := topS 20
theorem S__law_is_integer : FnScope ["_law_value"]
    ["_law_value"] (defScope s__law_is_integer) :=
  ⟨rfl, rfl, rfl, by decide +kernel, rfl, by decide +kernel, by decide +kernel⟩
abbrev s_is_list : Stmt := topS 6
theorem S_is_list : FnScope ["value"]
    ["value"] (defScope s_is_list) :=
  ⟨rfl, rfl, rfl, by decide +kernel, rfl, by decide +kernel, by decide +kernel⟩
abbrev s_check_number : Stmt := topS 7
theorem S_check_number : FnScope ["number"]
    ["number"] (defScope s_check_number) :=
  ⟨rfl, rfl, rfl, by decide +kernel, rfl, by decide +kernel, by decide +kernel⟩
abbrev s_greatest : Stmt := topS 13
theorem S_greatest : FnScope ["number", "other"]
    ["number", "other"] (defScope s_greatest) :=
  ⟨rfl, rfl, rfl, by decide +kernel, rfl, by decide +kernel, by decide +kernel⟩
abbrev s_is_prime : Stmt := topS 14
theorem S_is_prime : FnScope ["value", "part"]
    ["value"] (defScope s_is_prime) :=
  ⟨rfl, rfl, rfl, by decide +kernel, rfl, by decide +kernel, by decide +kernel⟩
abbrev s__law_is_prime : Stmt := topS 22
theorem S__law_is_prime : FnScope ["_law_value", "_law_divisor"]
    ["_law_value"] (defScope s__law_is_prime) :=
  ⟨rfl, rfl, rfl, by decide +kernel, rfl, by decide +kernel, by decide +kernel⟩
abbrev s_is_line : Stmt := topS 10
theorem S_is_line : FnScope ["value", "number"]
    ["value"] (defScope s_is_line) :=
  ⟨rfl, rfl, rfl, by decide +kernel, rfl, by decide +kernel, by decide +kernel⟩
abbrev s__law_is_line : Stmt := topS 21
theorem S__law_is_line : FnScope ["_law_value", "_law_one"]
    ["_law_value"] (defScope s__law_is_line) :=
  ⟨rfl, rfl, rfl, by decide +kernel, rfl, by decide +kernel, by decide +kernel⟩
abbrev s__law_mixed : Stmt := topS 25
theorem S__law_mixed : FnScope ["_law_one", "_law_other", "_law_near", "_law_far", "_law_often", "_law_left", "_law_right_here"]
    ["_law_one", "_law_other"] (defScope s__law_mixed) :=
  ⟨rfl, rfl, rfl, by decide +kernel, rfl, by decide +kernel, by decide +kernel⟩
abbrev s__law_greatest_right : Stmt := topS 26
theorem S__law_greatest_right : FnScope ["_law_pot_here", "_law_shared", "_law_one", "_law_other", "_law_told", "_law_mixed_here"]
    ["_law_pot_here"] (defScope s__law_greatest_right) :=
  ⟨rfl, rfl, rfl, by decide +kernel, rfl, by decide +kernel, by decide +kernel⟩
abbrev s__law_primes_right : Stmt := topS 24
theorem S__law_primes_right : FnScope ["_law_pot_here", "_law_values", "_law_turn", "_law_value"]
    ["_law_pot_here"] (defScope s__law_primes_right) :=
  ⟨rfl, rfl, rfl, by decide +kernel, rfl, by decide +kernel, by decide +kernel⟩
abbrev s__law_lines_right : Stmt := topS 23
theorem S__law_lines_right : FnScope ["_law_pot_here", "_law_line_here", "_law_at", "_law_odd", "_law_values", "_law_value", "_law_shown"]
    ["_law_pot_here"] (defScope s__law_lines_right) :=
  ⟨rfl, rfl, rfl, by decide +kernel, rfl, by decide +kernel, by decide +kernel⟩
abbrev s__law_right : Stmt := topS 27
theorem S__law_right : FnScope ["_law_pot_here"]
    ["_law_pot_here"] (defScope s__law_right) :=
  ⟨rfl, rfl, rfl, by decide +kernel, rfl, by decide +kernel, by decide +kernel⟩
abbrev s_law : Stmt := topS 28
theorem S_law : FnScope ["_law_script"]
    ["_law_script"] (defScope s_law) :=
  ⟨rfl, rfl, rfl, by decide +kernel, rfl, by decide +kernel, by decide +kernel⟩
/-- what the top has written -/
structure Top (K : PySem.W.Frag) (mg : Str → Option Value) : Prop where
  d__law_pot : Df K mg "_law_pot" s__law_pot ["_law_script", "_law_k"]
  d__law_draw : Df K mg "_law_draw" s__law_draw ["_law_pot_here", "_law_many"]
  d__law_pick : Df K mg "_law_pick" s__law_pick ["_law_pot_here", "_law_some"]
  d__law_line : Df K mg "_law_line" s__law_line ["_law_pot_here", "_law_most", "_law_wide"]
  d_is_integer : Df K mg "is_integer" s_is_integer ["value"]
  d__law_is_integer : Df K mg "_law_is_integer" s__law_is_integer ["_law_value"]
  d_is_list : Df K mg "is_list" s_is_list ["value"]
  d_check_number : Df K mg "check_number" s_check_number ["number"]
  d_greatest : Df K mg "greatest" s_greatest ["number", "other"]
  d_is_prime : Df K mg "is_prime" s_is_prime ["value"]
  d__law_is_prime : Df K mg "_law_is_prime" s__law_is_prime ["_law_value"]
  d_is_line : Df K mg "is_line" s_is_line ["value"]
  d__law_is_line : Df K mg "_law_is_line" s__law_is_line ["_law_value"]
  d__law_mixed : Df K mg "_law_mixed" s__law_mixed ["_law_one", "_law_other"]
  d__law_greatest_right : Df K mg "_law_greatest_right" s__law_greatest_right ["_law_pot_here"]
  d__law_primes_right : Df K mg "_law_primes_right" s__law_primes_right ["_law_pot_here"]
  d__law_lines_right : Df K mg "_law_lines_right" s__law_lines_right ["_law_pot_here"]
  d__law_right : Df K mg "_law_right" s__law_right ["_law_pot_here"]
  d_law : Df K mg "law" s_law ["_law_script"]
  n_abs : mg "abs" = none
  n_all : mg "all" = none
  n_bool : mg "bool" = none
  c_LINE_DEGREE : ∃ t, mg "LINE_DEGREE" = some (.int 12 t)
  c_PRIMES_END : ∃ t, mg "PRIMES_END" = some (.int 10000 t)
  n_divmod : mg "divmod" = none
  n_int : mg "int" = none
  n_isinstance : mg "isinstance" = none
  n_len : mg "len" = none
  n_list : mg "list" = none
  m_gcd : mg "gcd" = some (.builtin "math.gcd")
  n_max : mg "max" = none
  n_range : mg "range" = none
  n_repr : mg "repr" = none
  n_tuple : mg "tuple" = none
  n_zip : mg "zip" = none
theorem ok__law_pot {P : Program} {w : World} {K : PySem.W.Frag}
    {mg : Str → Option Value} {base : Heap} (T : Top K mg) :
    Cl P w K mg base CX0 1 "_law_pot" s__law_pot ["_law_script", "_law_k"] (spPot K) := by
  refine T.d__law_pot.cl fun f fd F => body_0 F S__law_pot (fun vs H Q E h => by obtain ⟨_, _, _, rfl, _⟩ := h; rfl) ?_
  intro cdv A out s H vs Q E hG hr h
  obtain ⟨a, ns, k, rfl, hS, k0, k1, q⟩ := h
  refine ⟨_, (pss_cons (ps_set (i := 2) S__law_pot.nd rfl (Or.inl rfl) (pe_ifExp (pt_cmpR op_lt (pv 1) (pe_callB call_len_seq (by rfl) T.n_len PySem.boot_len (pa_cons (pv 0) pa_nil)) (nomark _)) (pe_callB call_abs (by rfl) T.n_abs (by decide +kernel) (pa_cons (pe_ix ix_list (pv 0) (pv 1) (fun _ _ => rfl)) pa_nil)) (pe_op op_add (pe_op op_mulX pe_int (pv 1)) pe_int)))
    (pss_one (ps_ret (pe_lst (pa_cons (pe_callB (call_max2 rfl) (by rfl) T.n_max (by decide +kernel) (pa_cons pe_int (pa_cons (pe_op op_sub (pv 2) (pe_op op_pow pe_int pe_int)) pa_nil))) (pa_cons (pe_op op_add (pe_op op_mod (pe_callTy call_int1 (by rfl) T.n_int (by decide +kernel) (pa_cons (pe_op op_add (pe_op op_add (pe_op op_mulX (pe_op op_mod (pe_callTy call_int1 (by rfl) T.n_int (by decide +kernel) (pa_cons (pv 2) pa_nil)) pe_int) pe_int) (pe_op op_mulX pe_int (pv 1))) pe_int) pa_nil)) pe_int) pe_int) pa_nil)))))), ?_⟩
  have lenE : ((ns.map V.int).length : Int) = ns.length := by rw [List.length_map]
  have e18 : (10 : Int) ^ (18 : Int).toNat = 1000000000000000000 := by decide
  refine ⟨_, rfl, _, rfl, a, _, rfl, .inl hS, _, _, rfl, rfl, _, rfl, ite2 (fun c => ?_) (fun c => ?_)⟩
  · have c0 : k < ((ns.map V.int).length : Int) := of_decide_eq_true c
    have c1 : k.toNat < ns.length := by omega
    have g : atI (ns.map V.int) k = some (.int ns[k.toNat]) := by
      have z := atI_nat (xs := ns.map V.int) (j := k.toNat) (v := .int ns[k.toNat]) (by
        rw [List.getElem?_map, List.getElem?_eq_getElem c1]; rfl)
      rwa [Int.toNat_of_nonneg k0] at z
    refine ⟨_, rfl, _, rfl, a, _, k, _, rfl, rfl, hS, g, _, rfl, ?_⟩
    refine ⟨_, rfl, _, _, rfl, rfl, ⟨by decide, by decide, by decide⟩, _, _, rfl, rfl, _, _, rfl, _, rfl, .inl ⟨_, rfl, _, _, rfl, rfl, (by show (0 : Int) < 2147483549; decide), _, _, rfl, rfl, mulx_ok (a := 32) (b := 20) (by omega) (by decide) (by decide), _, rfl, _, _, rfl, rfl, mulx_ok (a := 20) (b := 20) (by decide) (by omega) (by decide), _, _, rfl, rfl, _, _, rfl, rfl, .inl ⟨_, rfl, _, _, rfl, rfl, (by show (0 : Int) < 2147483563; decide), _, _, rfl, rfl, (by show 2 ≤ sizeLine; decide), fun p np => ?_⟩⟩⟩
    refine q _ p (Same.put np) np ⟨_, _, upd_same, ?_, ?_, ?_⟩
    · split <;> omega
    · omega
    · omega
  · refine ⟨_, rfl, _, _, rfl, rfl, mulx_ok (a := 20) (b := 20) (by decide) (by omega) (by decide), _, _, rfl, rfl, ?_⟩
    refine ⟨_, rfl, _, _, rfl, rfl, ⟨by decide, by decide, by decide⟩, _, _, rfl, rfl, _, _, rfl, _, rfl, .inl ⟨_, rfl, _, _, rfl, rfl, (by show (0 : Int) < 2147483549; decide), _, _, rfl, rfl, mulx_ok (a := 32) (b := 20) (by omega) (by decide) (by decide), _, rfl, _, _, rfl, rfl, mulx_ok (a := 20) (b := 20) (by decide) (by omega) (by decide), _, _, rfl, rfl, _, _, rfl, rfl, .inl ⟨_, rfl, _, _, rfl, rfl, (by show (0 : Int) < 2147483563; decide), _, _, rfl, rfl, (by show 2 ≤ sizeLine; decide), fun p np => ?_⟩⟩⟩
    refine q _ p (Same.put np) np ⟨_, _, upd_same, ?_, ?_, ?_⟩
    · split <;> omega
    · omega
    · omega
theorem ok__law_draw {P : Program} {w : World} {K : PySem.W.Frag}
    {mg : Str → Option Value} {base : Heap} (T : Top K mg) :
    Cl P w K mg base CX0 1 "_law_draw" s__law_draw ["_law_pot_here", "_law_many"] (spDraw) := by
  refine T.d__law_draw.cl fun f fd F => body_0 F S__law_draw (fun vs H Q E h => by obtain ⟨_, _, rfl, _⟩ := h; rfl) ?_
  intro cdv A out s H vs Q E hG hr h
  obtain ⟨a, m, rfl, ⟨P, R, hp, h0, h1, h2⟩, m0, m1, q⟩ := h
  refine ⟨_, (pss_cons (ps_if (pt_cmpR op_gt (pe_ix ix_list (pv 0) pe_int (fun _ _ => rfl)) pe_int (nomark _))
      (pss_cons (ps_asg (pe_callB call_divmodW (by rfl) T.n_divmod (by decide +kernel) (pa_cons (pe_ix ix_list (pv 0) pe_int (fun _ _ => rfl)) (pa_cons (pv 1) pa_nil))) (pg_tup rfl (pgs_cons (pg_sub (pv 0) pe_int set_list) (pgs_cons (pg_name (i := 2) S__law_draw.nd rfl (Or.inl rfl)) pgs_nil))))
    (pss_one (ps_ret (pv 2))))
      pss_nil)
    (pss_cons (ps_asg (pe_op op_mod (pe_callTy call_int1 (by rfl) T.n_int (by decide +kernel) (pa_cons (pe_op op_add (pe_op op_mulX (pe_ix ix_list (pv 0) pe_int (fun _ _ => rfl)) pe_int) pe_int) pa_nil)) pe_int) (pg_sub (pv 0) pe_int set_list))
    (pss_one (ps_ret (pe_op op_mod (pe_callTy call_int1 (by rfl) T.n_int (by decide +kernel) (pa_cons (pe_op op_fdivN (pe_op op_mod (pe_callTy call_int1 (by rfl) T.n_int (by decide +kernel) (pa_cons (pe_op op_mulX (pe_ix ix_list (pv 0) pe_int (fun _ _ => rfl)) (pe_ix ix_list (pv 0) pe_int (fun _ _ => rfl))) pa_nil)) pe_int) pe_int) pa_nil)) (pv 1)))))), ?_⟩
  refine ⟨_, rfl, a, _, 0, _, rfl, rfl, SqL.of hp, atI_nat (j := 0) rfl, _, _, rfl, rfl, _, rfl, ite2 (fun c => ?_) (fun c => ?_)⟩
  · have c0 : 0 < P := of_decide_eq_true c
    refine ⟨_, rfl, a, _, 0, _, rfl, rfl, SqL.of hp, atI_nat (j := 0) rfl, _, rfl, _, _, rfl, ⟨m0, PyProof.noPylong_small (by omega)⟩, fun p np => ?_⟩
    have pa : a ≠ p := ne_of_none hp np
    refine ⟨p, _, rfl, SqT.of upd_same, rfl, _, _, rfl, _, rfl, a, _, 0, 0, rfl, rfl, (upd_ne pa).trans hp, rfl, _, _, rfl, rfl, _, rfl, ?_⟩
    refine q _ _ (fun b o n e => ?_) ⟨P / m, R, upd_same, Int.ediv_nonneg h0 (by omega), h1, h2⟩ (Int.emod_nonneg P (by omega)) (Int.emod_lt_of_pos P m0)
    rw [upd_ne n, upd_ne (ne_of_none e np)]
    exact e
  · refine ⟨_, rfl, a, _, 1, _, rfl, rfl, SqL.of hp, atI_nat (j := 1) rfl, _, _, rfl, rfl, mulx_ok (a := 31) (b := 20) (by omega) (by decide) (by decide), _, _, rfl, rfl, .inl ⟨_, rfl, _, _, rfl, rfl, (by show (0 : Int) < 2147483563; decide), _, rfl, a, _, 1, 1, rfl, rfl, hp, rfl, ?_⟩⟩
    have r0 := Int.emod_nonneg (R * 40014 + 1109) (show (2147483563 : Int) ≠ 0 by decide)
    have r1 := Int.emod_lt_of_pos (R * 40014 + 1109) (show (0 : Int) < 2147483563 by decide)
    refine ⟨_, rfl, a, _, 1, _, rfl, rfl, SqL.of upd_same, atI_nat (j := 1) rfl, _, rfl, a, _, 1, _, rfl, rfl, SqL.of upd_same, atI_nat (j := 1) rfl, _, _, rfl, rfl, mulx_ok (a := 31) (b := 31) (by omega) (by omega) (by decide), .inl ⟨_, rfl, _, _, rfl, rfl, (by show (0 : Int) < 2147483587; decide), _, _, rfl, rfl, ⟨by decide, by decide⟩, .inl ⟨_, rfl, _, rfl, _, _, rfl, rfl, m0, ?_⟩⟩⟩
    exact q _ _ (fun b o n e => (upd_ne n).trans e) ⟨P, (R * 40014 + 1109) % 2147483563, upd_same, h0, r0, by omega⟩ (Int.emod_nonneg _ (by omega)) (Int.emod_lt_of_pos _ m0)
theorem ok__law_pick {P : Program} {w : World} {K : PySem.W.Frag}
    {mg : Str → Option Value} {base : Heap} (T : Top K mg)
    (C__law_draw : Cl P w K mg base CX0 1 "_law_draw" s__law_draw ["_law_pot_here", "_law_many"] (spDraw)) :
    Cl P w K mg base CX0 2 "_law_pick" s__law_pick ["_law_pot_here", "_law_some"] (spPick K) := by
  refine T.d__law_pick.cl fun f fd F => body_0 F S__law_pick (fun vs H Q E h => by obtain ⟨_, _, _, rfl, _⟩ := h; rfl) ?_
  intro cdv A out s H vs Q E hG hr h
  obtain ⟨a, b, xs, rfl, hp, ba, hS, ne, hl, q⟩ := h
  refine ⟨_, (pss_one (ps_ret (pe_ix ix_list (pv 1) (pe_u C__law_draw hG hr (by decide) (by rfl) pass0 (pa_cons (pv 0) (pa_cons (pe_callB call_len_seq (by rfl) T.n_len PySem.boot_len (pa_cons (pv 1) pa_nil)) pa_nil))) (fun _ _ => rfl)))), ?_⟩
  have l0 : 0 < xs.length := by
    cases xs with
    | nil => exact absurd rfl ne
    | cons x r => exact Nat.succ_pos _
  refine ⟨_, rfl, _, rfl, _, rfl, b, xs, rfl, .inl hS, a, _, rfl, hp, by omega, by omega, fun H1 d c p d0 d1 => ?_⟩
  have dl : d.toNat < xs.length := by omega
  have g : atI xs d = some xs[d.toNat] := by
    have z := atI_nat (xs := xs) (j := d.toNat) (v := xs[d.toNat]) (List.getElem?_eq_getElem dl)
    rwa [Int.toNat_of_nonneg d0] at z
  exact ⟨b, xs, d, _, rfl, rfl, c.seq ba hS, g, q H1 _ c p (List.getElem_mem dl)⟩
theorem ok__law_line {P : Program} {w : World} {K : PySem.W.Frag}
    {mg : Str → Option Value} {base : Heap} (T : Top K mg)
    (C__law_draw : Cl P w K mg base CX0 1 "_law_draw" s__law_draw ["_law_pot_here", "_law_many"] (spDraw))
    (C__law_pick : Cl P w K mg base CX0 2 "_law_pick" s__law_pick ["_law_pot_here", "_law_some"] (spPick K)) :
    Cl P w K mg base CX0 3 "_law_line" s__law_line ["_law_pot_here", "_law_most", "_law_wide"] (spLine) := by
  refine T.d__law_line.cl fun f fd F => body_0 F S__law_line (fun vs H Q E h => by obtain ⟨_, _, _, rfl, _⟩ := h; rfl) ?_
  intro cdv A out s H vs Q E hG hr h
  obtain ⟨a, n, w, rfl, hp, n0, w0, w1, q⟩ := h
  refine ⟨_, (pss_cons (ps_set (i := 3) S__law_line.nd rfl (Or.inl rfl) (pe_lst pa_nil))
    (pss_cons (ps_for PassesOwn.never rfl (pi_range1 (by rfl) T.n_range (pa_cons (pv 1) pa_nil)) (pg_name (i := 4) S__law_line.nd rfl (Or.inl rfl))
      (pss_one (ps_expr (pe_bm PySem.F.plainAttrs_list PySem.F.slot_list_append PySem.F.type_list_append mt_append (pv 3) (pa_cons (pe_op op_sub (pe_u C__law_draw hG hr (by decide) (by rfl) pass0 (pa_cons (pv 0) (pa_cons (pe_op op_add (pe_op op_mulX pe_int (pv 2)) pe_int) pa_nil))) (pv 2)) pa_nil)))))
    (pss_one (ps_ret (pe_op op_cat (pv 3) (pe_lst (pa_cons (pe_u C__law_pick hG hr (by decide) (by rfl) pass0 (pa_cons (pv 0) (pa_cons (pe_lst (pa_cons pe_int (pa_cons (pe_un un_neg pe_int) (pa_cons pe_int (pa_cons pe_int (pa_cons (pe_op op_sub pe_int (pv 2)) pa_nil)))))) pa_nil))) pa_nil))))))), ?_⟩
  have e62 : (2 : Int) ^ 62 = 4611686018427387904 := by decide
  refine ⟨Nat.zero_le _, fun o no => ?_⟩
  have oa := hp.ne no
  refine ⟨_, rfl, n, rfl, by omega, by omega, ?_⟩
  refine for_range (n := n) (fun i σ H' => ∃ (y : Option V) (ns : List Int), σ = [some (.ref a), some (.int n), some (.int w), some (.ref o), y] ∧
    Chg a H H' ∧ PotAt H' a ∧ H' o = some (.lst (ns.map V.int)) ∧ ns.length = i ∧ ∀ z ∈ ns, -w - 3 ≤ z ∧ z ≤ w + 3) ?_ ?_ ?_
  · exact ⟨none, [], rfl, .of (Same.put no), Same.pot (Same.put no) hp, upd_same, rfl, fun z hz => nomatch hz⟩
  · rintro i σ H1 hi ⟨y, ns, rfl, c1, p1, e1, l1, b1⟩
    refine ⟨_, rfl, .inl ⟨rfl, _, SqL.of e1⟩, _, rfl, _, rfl, _, _, rfl, rfl, mulx_ok (a := 20) (b := 21) (by decide) (by omega) (by decide), _, _, rfl, rfl,
      a, _, rfl, p1, by omega, by omega, fun H2 d c2 p2 d0 d1 => ?_⟩
    have e2 := c2 _ _ oa e1
    refine ⟨_, rfl, _, _, rfl, rfl, o, _, _, rfl, rfl, e2, small1000 (by rw [List.length_map]; omega), ?_⟩
    refine ⟨_, ns ++ [d - w], rfl, fun b x nb e => ?_, ?_, ?_, ?_, ?_⟩
    · have z := c2 _ _ nb (c1 _ _ nb e)
      rw [upd_ne (show b ≠ o from ne_of_none e no)]
      exact z
    · obtain ⟨P, R, x, y⟩ := p2
      exact ⟨P, R, (upd_ne oa.symm).trans x, y⟩
    · rw [upd_same, List.map_append]; rfl
    · rw [List.length_append, l1]; rfl
    · intro z hz
      rcases List.mem_append.mp hz with hz | hz
      · exact b1 z hz
      · have ez : z = d - w := by simpa using hz
        omega
  · rintro σ H1 ⟨y, ns, rfl, c1, p1, e1, l1, b1⟩
    refine ⟨_, rfl, _, rfl, _, rfl, _, rfl, _, _, rfl, rfl, (by show 5 ≤ sizeLine; decide), fun u nu => ?_⟩
    have ua := p1.ne nu
    have s2 : Same H1 _ := Same.put (o := .lst [.int 1, .int (-1), .int 2, .int 3, .int (1 - w)]) nu
    refine ⟨a, u, _, rfl, Same.pot s2 p1, ua, SqL.of upd_same, List.cons_ne_nil _ _, (by show 5 ≤ 1000; decide), fun H2 x c2 p2 hx => ?_⟩
    obtain ⟨z, rfl, hz, z0⟩ : ∃ z : Int, x = .int z ∧ (-w - 3 ≤ z ∧ z ≤ w + 3) ∧ z ≠ 0 := by
      simp only [List.mem_cons, List.not_mem_nil, or_false] at hx
      rcases hx with h | h | h | h | h
      · exact ⟨1, h, by omega, by omega⟩
      · exact ⟨-1, h, by omega, by omega⟩
      · exact ⟨2, h, by omega, by omega⟩
      · exact ⟨3, h, by omega, by omega⟩
      · exact ⟨1 - w, h, by omega, by omega⟩
    have e2 : H2 o = some (.lst (ns.map V.int)) := c2 _ _ oa (s2 _ _ e1)
    refine ⟨(by show 1 ≤ sizeLine; decide), fun v nv => ?_⟩
    have vo : o ≠ v := ne_of_none e2 nv
    have va : a ≠ v := (p2.ne nv).symm
    refine ⟨o, v, _, _, rfl, rfl, (upd_ne vo).trans e2, upd_same, Nat.le_of_lt (small1000 (by rw [List.length_map]; show ns.length + 1 ≤ 1000; omega)), fun r nr => ?_⟩
    have nr2 : H2 r = none := Same.free (Same.put nv) nr
    have rH : H r = none := by
      cases hr' : H r with
      | none => rfl
      | some ob =>
        have ra : r ≠ a := by
          have z : a ≠ r := ((Same.pot (Same.put nv) p2).ne nr).symm
          exact z.symm
        have := c2 _ _ ra (s2 _ _ (c1 _ _ ra hr'))
        rw [nr2] at this
        cases this
    refine q _ r (ns ++ [z]) (fun b x nb e => ?_) ?_ rH ?_ ?_ ?_ ?_ ?_
    · have z1 := c2 _ _ nb (s2 _ _ (c1 _ _ nb e))
      exact Same.put nr _ _ (Same.put nv _ _ z1)
    · exact Same.pot (Same.put nr) (Same.pot (Same.put nv) p2)
    · exact (Same.pot (Same.put nv) p2).ne nr
    · rw [upd_same, List.map_append]; rfl
    · rw [List.length_append, l1]; rfl
    · intro y hy
      rcases List.mem_append.mp hy with hy | hy
      · exact b1 y hy
      · have ey : y = z := by simpa using hy
        omega
    · intro y hy
      rw [List.getLast?_append] at hy
      have ey : z = y := by simpa using hy
      omega
theorem ok_is_integer {P : Program} {w : World} {K : PySem.W.Frag}
    {mg : Str → Option Value} {base : Heap} (T : Top K mg) :
    Cl P w K mg base CX0 1 "is_integer" s_is_integer ["value"] (spIsInt) := by
  refine T.d_is_integer.cl fun f fd F => body_0 F S_is_integer (fun vs H Q E h => by obtain ⟨_, _, rfl, _⟩ := h; rfl) ?_
  intro cdv A out s H vs Q E hG hr h
  obtain ⟨v, k, rfl, kd, q⟩ := h
  refine ⟨_, (pss_one (ps_ret (pe_and (pe_callB call_isi (by rfl) T.n_isinstance (by decide +kernel) (pa_cons (pv 0) (pa_cons (pe_bltn (v := .ty "int") (u := .type "int") (by rfl) T.n_int (by decide +kernel) rfl) pa_nil))) (pe_one (pe_not (pe_callB call_isi (by rfl) T.n_isinstance (by decide +kernel) (pa_cons (pv 0) (pa_cons (pe_bltn (v := .ty "bool") (u := .type "bool") (by rfl) T.n_bool (by decide +kernel) rfl) pa_nil)))))))), ?_⟩
  rw [kd.isI] at q
  refine ⟨_, rfl, _, _, _, _, _, rfl, .ty _, kd.ty, kit_int kd, _, rfl, ite2 (fun c => ?_) (fun c => ?_)⟩
  · refine ⟨_, rfl, _, _, _, _, _, rfl, .ty _, kd.ty, kit_bool kd, _, rfl, ?_⟩
    rw [c] at q
    exact q
  · rw [Bool.eq_false_iff.mpr c] at q
    exact q
theorem ok__law_is_integer {P : Program} {w : World} {K : PySem.W.Frag}
    {mg : Str → Option Value} {base : Heap} (T : Top K mg) :
    Cl P w K mg base CX0 1 "_law_is_integer" s__law_is_integer ["_law_value"] (spIsInt) := by
  refine T.d__law_is_integer.cl fun f fd F => body_0 F S__law_is_integer (fun vs H Q E h => by obtain ⟨_, _, rfl, _⟩ := h; rfl) ?_
  intro cdv A out s H vs Q E hG hr h
  obtain ⟨v, k, rfl, kd, q⟩ := h
  refine ⟨_, (pss_one (ps_ret (pe_and (pe_callB call_isi (by rfl) T.n_isinstance (by decide +kernel) (pa_cons (pv 0) (pa_cons (pe_bltn (v := .ty "int") (u := .type "int") (by rfl) T.n_int (by decide +kernel) rfl) pa_nil))) (pe_one (pe_not (pe_callB call_isi (by rfl) T.n_isinstance (by decide +kernel) (pa_cons (pv 0) (pa_cons (pe_bltn (v := .ty "bool") (u := .type "bool") (by rfl) T.n_bool (by decide +kernel) rfl) pa_nil)))))))), ?_⟩
  rw [kd.isI] at q
  refine ⟨_, rfl, _, _, _, _, _, rfl, .ty _, kd.ty, kit_int kd, _, rfl, ite2 (fun c => ?_) (fun c => ?_)⟩
  · refine ⟨_, rfl, _, _, _, _, _, rfl, .ty _, kd.ty, kit_bool kd, _, rfl, ?_⟩
    rw [c] at q
    exact q
  · rw [Bool.eq_false_iff.mpr c] at q
    exact q
theorem ok_is_list {P : Program} {w : World} {K : PySem.W.Frag}
    {mg : Str → Option Value} {base : Heap} (T : Top K mg) :
    Cl P w K mg base CX0 1 "is_list" s_is_list ["value"] (spIsList) := by
  refine T.d_is_list.cl fun f fd F => body_0 F S_is_list (fun vs H Q E h => by obtain ⟨_, _, rfl, _⟩ := h; rfl) ?_
  intro cdv A out s H vs Q E hG hr h
  obtain ⟨v, k, rfl, kd, q⟩ := h
  refine ⟨_, (pss_one (ps_ret (pe_callB call_isiT (by rfl) T.n_isinstance (by decide +kernel) (pa_cons (pv 0) (pa_cons (pe_tup (pa_cons (pe_bltn (v := .ty "list") (u := .type "list") (by rfl) T.n_list (by decide +kernel) rfl) (pa_cons (pe_bltn (v := .ty "tuple") (u := .type "tuple") (by rfl) T.n_tuple (by decide +kernel) rfl) pa_nil))) pa_nil))))), ?_⟩
  refine ⟨_, rfl, (by show 2 ≤ sizeLine; decide), fun p np => ?_⟩
  refine ⟨v, p, _, _, _, _, rfl, upd_same, .cons (.ty _) (.cons (.ty _) .nil), (kd.same (Same.put np)).ty, kit_lt kd, q _ (Same.put np)⟩
theorem ok_check_number {P : Program} {w : World} {K : PySem.W.Frag}
    {mg : Str → Option Value} {base : Heap} (T : Top K mg)
    (C_is_integer : Cl P w K mg base CX0 1 "is_integer" s_is_integer ["value"] (spIsInt)) :
    Cl P w K mg base CX0 2 "check_number" s_check_number ["number"] (spNumber) := by
  refine T.d_check_number.cl fun f fd F => body_0 F S_check_number (fun vs H Q E h => by obtain ⟨_, rfl, _⟩ := h; rfl) ?_
  intro cdv A out s H vs Q E hG hr h
  obtain ⟨i, rfl, q⟩ := h
  refine ⟨_, (pss_one (ps_if (pt_not (pt_val (pe_u C_is_integer hG hr (by decide) (by rfl) pass0 (pa_cons (pv 0) pa_nil))))
      (pss_one ps_never)
      pss_nil)), ?_⟩
  exact ⟨_, rfl, _, _, rfl, .int i, _, rfl, iteF q⟩
theorem ok_greatest {P : Program} {w : World} {K : PySem.W.Frag}
    {mg : Str → Option Value} {base : Heap} (T : Top K mg)
    (C_check_number : Cl P w K mg base CX0 2 "check_number" s_check_number ["number"] (spNumber)) :
    Cl P w K mg base CX0 3 "greatest" s_greatest ["number", "other"] (spGreatest) := by
  refine T.d_greatest.cl fun f fd F => body_0 F S_greatest (fun vs H Q E h => by obtain ⟨_, _, rfl, _⟩ := h; rfl) ?_
  intro cdv A out s H vs Q E hG hr h
  obtain ⟨a, b, rfl, q⟩ := h
  refine ⟨_, (pss_cons (ps_expr (pe_u C_check_number hG hr (by decide) (by rfl) pass0 (pa_cons (pv 0) pa_nil)))
    (pss_cons (ps_expr (pe_u C_check_number hG hr (by decide) (by rfl) pass0 (pa_cons (pv 1) pa_nil)))
    (pss_one (ps_ret (pe_callBfun cr_gcd (by rfl) T.m_gcd (pa_cons (pv 0) (pa_cons (pv 1) pa_nil))))))), ?_⟩
  exact ⟨_, rfl, a, rfl, _, rfl, b, rfl, _, rfl, _, rfl, a, b, rfl, q⟩
theorem ok_is_prime {P : Program} {w : World} {K : PySem.W.Frag}
    {mg : Str → Option Value} {base : Heap} (T : Top K mg)
    (C_is_integer : Cl P w K mg base CX0 1 "is_integer" s_is_integer ["value"] (spIsInt)) :
    Cl P w K mg base CX0 2 "is_prime" s_is_prime ["value"] (spIsPrime) := by
  obtain ⟨_, c_PRIMES_END⟩ := T.c_PRIMES_END
  refine T.d_is_prime.cl fun f fd F => body_0 F S_is_prime (fun vs H Q E h => by obtain ⟨_, _, rfl, _⟩ := h; rfl) ?_
  intro cdv A out s H vs Q E hG hr h
  obtain ⟨v, k, rfl, kd, q⟩ := h
  refine ⟨_, (pss_cons (ps_if ((pw_or (pt_not (pt_val (pe_u C_is_integer hG hr (by decide) (by rfl) pass0 (pa_cons (pv 0) pa_nil)))) (pw_or (pt_cmpR op_lt (pv 0) pe_int (nomark _)) (pw_or1 (pt_cmpR op_ge (pv 0) (pe_glob (v := .int 10000) (by rfl) c_PRIMES_END ⟨_, rfl⟩) (nomark _)))))).pt
      (pss_one (ps_ret pe_bl))
      pss_nil)
    (pss_cons (ps_set (i := 1) S_is_prime.nd rfl (Or.inl rfl) pe_int)
    (pss_cons (ps_while PassesOwn.never (pt_cmpR op_le (pe_op op_mulX (pv 1) (pv 1)) (pv 0) (nomark _))
      (pss_cons (ps_if (pt_cmpR op_eq (pe_op op_mod (pv 0) (pv 1)) pe_int (nomark _))
      (pss_one (ps_ret pe_bl))
      pss_nil)
    (pss_one (ps_aug (i := 1) S_is_prime.nd rfl (Or.inl rfl) pe_int ip_add))))
    (pss_one (ps_ret pe_bl))))), ?_⟩
  refine ⟨_, rfl, v, k, rfl, kd, _, rfl, ?_⟩
  match hI : isI v with
  | false =>
    rw [primeV_non hI] at q
    exact iteT (iteT q)
  | true =>
  obtain ⟨i, rfl⟩ := isI_int hI
  refine iteF ⟨_, rfl, _, _, rfl, rfl, _, rfl, ite2 (fun c1 => ?_) (fun c1 => ⟨_, rfl, _, _, rfl, rfl, _, rfl, ite2 (fun c2 => ?_) (fun c2 => ?_)⟩)⟩
  · have c1 : i < 2 := of_decide_eq_true c1
    rw [primeV_off (by omega)] at q
    exact q
  · have c2 : (10000 : Int) ≤ i := of_decide_eq_true c2
    rw [primeV_off (by omega)] at q
    exact q
  · have d1 : ¬ i < 2 := fun z => c1 (decide_eq_true z)
    have d2 : ¬ (10000 : Int) ≤ i := fun z => c2 (decide_eq_true z)
    obtain ⟨n, rfl⟩ := Int.eq_ofNat_of_zero_le (show 0 ≤ i by omega)
    rw [primeV_nat (by omega) (by omega)] at q
    refine ⟨fun m σ H' => ∃ p : Nat, σ = [some (.int (n : Nat)), some (.int (p : Nat))] ∧ H' = H ∧ 2 ≤ p ∧ p ≤ 101 ∧ m = 200 - p ∧
      ∀ d, 2 ≤ d → d < p → n % d ≠ 0, ⟨198, 2, rfl, rfl, by omega, by omega, rfl, fun d a b => absurd a (by omega)⟩, ?_⟩
    rintro m σ H' ⟨p, rfl, rfl, p2, p1, rfl, hd⟩
    refine ⟨_, rfl, _, rfl, _, _, rfl, rfl, mulx_ok (a := 10) (b := 10) (by omega) (by omega) (by decide), _, rfl, _, _, rfl, rfl, _, rfl, ite2 (fun c => ?_) (fun c => ?_)⟩
    · have c : (p : Int) * (p : Int) ≤ (n : Int) := of_decide_eq_true c
      have c3 : p * p ≤ n := by omega
      refine ⟨fun σ' H'' => ∃ m', m' < 200 - p ∧ ∃ p : Nat, σ' = [some (.int (n : Nat)), some (.int (p : Nat))] ∧ H'' = H' ∧ 2 ≤ p ∧ p ≤ 101 ∧ m' = 200 - p ∧
        ∀ d, 2 ≤ d → d < p → n % d ≠ 0, fun _ _ z => z, ?_⟩
      refine ⟨_, rfl, _, rfl, _, _, rfl, rfl, (by show (0 : Int) < (p : Int); omega), rfl, _, rfl, ite2 (fun c4 => ?_) (fun c4 => ?_)⟩
      · have c5 : (n : Int) % (p : Int) = 0 := V.int.inj (of_decide_eq_true c4)
        rw [prm_false p2 c3 ((int_mod_nat (by omega)).mp c5)] at q
        exact q
      · have c5 : n % p ≠ 0 := fun z => c4 (decide_eq_true (congrArg V.int ((int_mod_nat (by omega)).mpr z)))
        have p100 : p ≤ 100 := by
          apply Nat.le_of_not_lt
          intro z
          have := Nat.mul_le_mul z z
          omega
        refine ⟨_, rfl, _, _, rfl, rfl, 200 - (p + 1), by omega, p + 1, rfl, rfl, by omega, by omega, rfl, fun d a b => ?_⟩
        by_cases e : d = p
        · rw [e]; exact c5
        · exact hd d a (by omega)
    · have c : ¬ (p : Int) * (p : Int) ≤ (n : Int) := fun z => c (decide_eq_true z)
      rw [prm_true (p := p) (by omega) hd] at q
      exact q
theorem ok__law_is_prime {P : Program} {w : World} {K : PySem.W.Frag}
    {mg : Str → Option Value} {base : Heap} (T : Top K mg)
    (C__law_is_integer : Cl P w K mg base CX0 1 "_law_is_integer" s__law_is_integer ["_law_value"] (spIsInt)) :
    Cl P w K mg base CX0 2 "_law_is_prime" s__law_is_prime ["_law_value"] (spIsPrime) := by
  refine T.d__law_is_prime.cl fun f fd F => body_0 F S__law_is_prime (fun vs H Q E h => by obtain ⟨_, _, rfl, _⟩ := h; rfl) ?_
  intro cdv A out s H vs Q E hG hr h
  obtain ⟨v, k, rfl, kd, q⟩ := h
  refine ⟨_, (pss_cons (ps_if ((pw_or (pt_not (pt_val (pe_u C__law_is_integer hG hr (by decide) (by rfl) pass0 (pa_cons (pv 0) pa_nil)))) (pw_or1 (pt_not (pt_chain op_le op_lt pe_int (pv 0) pe_int))))).pt
      (pss_one (ps_ret pe_bl))
      pss_nil)
    (pss_cons (ps_set (i := 1) S__law_is_prime.nd rfl (Or.inl rfl) pe_int)
    (pss_cons (ps_while PassesOwn.never (pt_cmpR op_le (pe_op op_mulX (pv 1) (pv 1)) (pv 0) (nomark _))
      (pss_cons (ps_if (pt_cmpR op_eq (pe_op op_mulX (pe_op op_fdivN (pv 0) (pv 1)) (pv 1)) (pv 0) (nomark _))
      (pss_one (ps_ret pe_bl))
      pss_nil)
    (pss_one (ps_set (i := 1) S__law_is_prime.nd rfl (Or.inl rfl) (pe_op op_add (pv 1) pe_int)))))
    (pss_one (ps_ret pe_bl))))), ?_⟩
  refine ⟨_, rfl, v, k, rfl, kd, _, rfl, ?_⟩
  match hI : isI v with
  | false =>
    rw [primeV_non hI] at q
    exact iteT (iteT q)
  | true =>
  obtain ⟨i, rfl⟩ := isI_int hI
  by_cases d1 : 2 ≤ i
  case neg =>
    rw [primeV_off (by omega)] at q
    refine iteF ⟨_, rfl, _, _, rfl, rfl, _, rfl, ifF (decide_eq_false d1) ?_⟩
    exact ⟨_, rfl, iteT q⟩
  by_cases d2 : i < 10000
  case neg =>
    rw [primeV_off (by omega)] at q
    refine iteF ⟨_, rfl, _, _, rfl, rfl, _, rfl, ifT (decide_eq_true d1) ?_⟩
    exact ⟨_, _, rfl, rfl, _, rfl, ifT (by rw [decide_eq_false d2]; rfl) q⟩
  refine iteF ⟨_, rfl, _, _, rfl, rfl, _, rfl, ifT (decide_eq_true d1) ⟨_, _, rfl, rfl, _, rfl, ifF (by rw [decide_eq_true d2]; rfl) ?_⟩⟩
  obtain ⟨n, rfl⟩ := Int.eq_ofNat_of_zero_le (show 0 ≤ i by omega)
  rw [primeV_nat (by omega) (by omega)] at q
  refine ⟨fun m σ H' => ∃ p : Nat, σ = [some (.int (n : Nat)), some (.int (p : Nat))] ∧ H' = H ∧ 2 ≤ p ∧ p ≤ 101 ∧ m = 200 - p ∧
    ∀ d, 2 ≤ d → d < p → n % d ≠ 0, ⟨198, 2, rfl, rfl, by omega, by omega, rfl, fun d a b => absurd a (by omega)⟩, ?_⟩
  rintro m σ H' ⟨p, rfl, rfl, p2, p1, rfl, hd⟩
  refine ⟨_, rfl, _, rfl, _, _, rfl, rfl, mulx_ok (a := 10) (b := 10) (by omega) (by omega) (by decide), _, rfl, _, _, rfl, rfl, _, rfl, ite2 (fun c => ?_) (fun c => ?_)⟩
  · have c : (p : Int) * (p : Int) ≤ (n : Int) := of_decide_eq_true c
    have c3 : p * p ≤ n := by omega
    refine ⟨fun σ' H'' => ∃ m', m' < 200 - p ∧ ∃ p : Nat, σ' = [some (.int (n : Nat)), some (.int (p : Nat))] ∧ H'' = H' ∧ 2 ≤ p ∧ p ≤ 101 ∧ m' = 200 - p ∧
      ∀ d, 2 ≤ d → d < p → n % d ≠ 0, fun _ _ z => z, ?_⟩
    have qs : ((n : Int).fdiv (p : Int)).natAbs < 2 ^ 14 := by
      rw [Int.fdiv_eq_ediv_of_nonneg _ (by omega), ← Int.natCast_ediv, Int.natAbs_natCast]
      exact Nat.lt_of_le_of_lt (Nat.div_le_self n p) (by omega)
    refine ⟨_, rfl, _, rfl, _, _, rfl, rfl, ⟨by omega, by omega⟩, _, rfl, _, _, rfl, rfl, mulx_ok (a := 14) (b := 10) qs (by omega) (by decide), _, rfl, rfl, _, rfl, ite2 (fun c4 => ?_) (fun c4 => ?_)⟩
    · have c5 := V.int.inj (of_decide_eq_true c4)
      rw [prm_false p2 c3 ((fdiv_mul_eq (by omega)).mp c5)] at q
      exact q
    · have c5 : n % p ≠ 0 := fun z => c4 (decide_eq_true (congrArg V.int ((fdiv_mul_eq (by omega)).mpr z)))
      have p100 : p ≤ 100 := by
        apply Nat.le_of_not_lt
        intro z
        have := Nat.mul_le_mul z z
        omega
      refine ⟨_, rfl, _, _, rfl, rfl, 200 - (p + 1), by omega, p + 1, rfl, rfl, by omega, by omega, rfl, fun d a b => ?_⟩
      by_cases e : d = p
      · rw [e]; exact c5
      · exact hd d a (by omega)
  · have c : ¬ (p : Int) * (p : Int) ≤ (n : Int) := fun z => c (decide_eq_true z)
    rw [prm_true (p := p) (by omega) hd] at q
    exact q
theorem ok_is_line {P : Program} {w : World} {K : PySem.W.Frag}
    {mg : Str → Option Value} {base : Heap} (T : Top K mg)
    (C_is_integer : Cl P w K mg base CX0 1 "is_integer" s_is_integer ["value"] (spIsInt))
    (C_is_list : Cl P w K mg base CX0 1 "is_list" s_is_list ["value"] (spIsList)) :
    Cl P w K mg base CX0 2 "is_line" s_is_line ["value"] (spIsLine) := by
  obtain ⟨_, c_LINE_DEGREE⟩ := T.c_LINE_DEGREE
  refine T.d_is_line.cl fun f fd F => body_0 F S_is_line (fun vs H Q E h => by obtain ⟨_, _, rfl, _⟩ := h; rfl) ?_
  intro cdv A out s H vs Q E hG hr h
  obtain ⟨v, b, rfl, hv, q⟩ := h
  cases hv with
  | oth kd e =>
    refine ⟨_, (pss_cons (ps_if ((pw_or (pt_not (pt_val (pe_u C_is_list hG hr (by decide) (by rfl) pass0 (pa_cons (pv 0) pa_nil)))) (pw_or1 (pt_cmpR op_gt (pe_callB call_len_seq (by rfl) T.n_len PySem.boot_len (pa_cons (pv 0) pa_nil)) (pe_op op_add (pe_glob (v := .int 12) (by rfl) c_LINE_DEGREE ⟨_, rfl⟩) pe_int) (nomark _))))).pt
      (pss_one (ps_ret pe_bl))
      pss_nil)
    (pss_cons (ps_if (pt_not (pt_val (pe_callB (cr_all rfl) (by rfl) T.n_all (by decide +kernel) (pa_cons (pe_lc (own := [("number", 1)]) (g := gName 1) (tt := tYes) rfl S_is_line.nd (pi_list (pv 0)) (blkOk_by (N := ["value", "number"]) (sc := defScope s_is_line) (by decide +kernel)) (fun _ _ _ _ _ => (pg_name (i := 1) S_is_line.nd rfl (Or.inl rfl))) (fun _ _ _ _ _ => pts_nil) (fun _ _ _ _ _ => (pe_u C_is_integer hG hr (by decide) (by rfl) pass0 (pa_cons (pv 1) pa_nil)))) pa_nil))))
      (pss_one (ps_ret pe_bl))
      pss_nil)
    (pss_one (ps_ret (pe_or (pe_cmpR op_eq (pe_callB call_len_seq (by rfl) T.n_len PySem.boot_len (pa_cons (pv 0) pa_nil)) pe_int (nomark _)) (pe_one (pe_cmpR op_ne (pe_ix ix_list (pv 0) (pe_un un_neg pe_int) (fun _ _ => rfl)) pe_int (nomark _)))))))), ?_⟩
    exact ⟨_, rfl, _, _, rfl, kd, fun H1 s1 => ⟨_, rfl, ifT (by rw [e]; rfl) (iteT (q H1 s1))⟩⟩
  | @lst a xs e hK hz =>
    refine ⟨_, (pss_cons (ps_if ((pw_or (pt_not (pt_val (pe_u C_is_list hG hr (by decide) (by rfl) pass0 (pa_cons (pv 0) pa_nil)))) (pw_or1 (pt_cmpR op_gt (pe_callB call_len_seq (by rfl) T.n_len PySem.boot_len (pa_cons (pv 0) pa_nil)) (pe_op op_add (pe_glob (v := .int 12) (by rfl) c_LINE_DEGREE ⟨_, rfl⟩) pe_int) (nomark _))))).pt
      (pss_one (ps_ret pe_bl))
      pss_nil)
    (pss_cons (ps_if (pt_not (pt_val (pe_callB (cr_all rfl) (by rfl) T.n_all (by decide +kernel) (pa_cons (pe_lc (own := [("number", 1)]) (g := gName 1) (tt := tYes) rfl S_is_line.nd (pi_list (pv 0)) (blkOk_by (N := ["value", "number"]) (sc := defScope s_is_line) (by decide +kernel)) (fun _ _ _ _ _ => (pg_name (i := 1) S_is_line.nd rfl (Or.inl rfl))) (fun _ _ _ _ _ => pts_nil) (fun _ _ _ _ _ => (pe_u C_is_integer hG hr (by decide) (by rfl) pass0 (pa_cons (pv 1) pa_nil)))) pa_nil))))
      (pss_one (ps_ret pe_bl))
      pss_nil)
    (pss_one (ps_ret (pe_or (pe_cmpR op_eq (pe_callB call_len_seq (by rfl) T.n_len PySem.boot_len (pa_cons (pv 0) pa_nil)) pe_int (nomark _)) (pe_one (pe_cmpR op_ne (pe_ix ix_list (pv 0) (pe_un un_neg pe_int) (fun _ _ => rfl)) pe_int (nomark _)))))))), ?_⟩
    refine ⟨_, rfl, _, _, rfl, .lst e, fun H1 s1 => ⟨_, rfl, iteF ?_⟩⟩
    refine ⟨_, rfl, a, xs, rfl, .inl (SqL.of (s1 _ _ e)), _, _, rfl, rfl, _, _, rfl, rfl, _, rfl, ite2 (fun c => ?_) (fun c => ?_)⟩
    · have c0 : (12 : Int) + 1 < xs.length := of_decide_eq_true c
      rw [lineB_long (by omega)] at q
      exact q H1 s1
    have hl : xs.length ≤ 13 := by
      have c0 : ¬ (12 : Int) + 1 < xs.length := fun z => c (decide_eq_true z)
      omega
    have eA : H1 a = some (.lst xs) := s1 _ _ e
    refine ⟨_, rfl, a, rfl, ⟨_, SqL.of eA⟩, fun D nD => ?_⟩
    refine lc_list (K := K) (xs := xs) (fun i H' => Same H1 H' ∧ H' D = some (.lst ((xs.take i).map fun x => V.bl (isI x)))) ⟨Same.put nD, upd_same⟩ (fun i H' _ z => SqL.of (z.1 _ _ eA)) ?_ ?_
    · rintro i x H' hx ⟨s2, eD⟩
      obtain ⟨kx, hk⟩ := hK x (List.mem_of_getElem? hx)
      refine ⟨rfl, ?_⟩
      refine yesT ?_
      refine ⟨_, rfl, x, kx, rfl, (hk.same s1).same s2, _, eD, small1000 (by rw [List.length_map, List.length_take]; omega), ?_, ?_⟩
      · intro b o eb
        rw [upd_ne (ne_of_none eb nD)]
        exact s2 _ _ eb
      · rw [upd_same, take_snoc hx, List.map_append]; rfl
    rintro H2 ⟨s2, eD⟩
    rw [List.take_length] at eD
    have eB : H2 D = some (.lst ((xs.map isI).map V.bl)) := by rw [eD, List.map_map]; rfl
    have eA2 : H2 a = some (.lst xs) := s2 _ _ eA
    refine ⟨D, xs.map isI, rfl, SqL.of eB, _, rfl, ?_⟩
    rw [all_id]
    match hA : xs.all isI with
    | false =>
      rw [lineB_odd hA] at q
      exact iteT (q H2 (s1.trans s2))
    | true =>
      refine iteF ?_
      refine ⟨_, rfl, a, xs, rfl, .inl (SqL.of eA2), rfl, _, rfl, ite2 (fun c => ?_) (fun c => ?_)⟩
      · have c0 : (xs.length : Int) = 0 := V.int.inj (of_decide_eq_true c)
        have hn : xs = [] := List.length_eq_zero_iff.mp (by omega)
        subst hn
        exact q H2 (s1.trans s2)
      · have hn : xs ≠ [] := fun z => by
          subst z
          exact c (decide_eq_true rfl)
        obtain ⟨v, g1, g2, g3⟩ := last_look hl hA hn
        refine ⟨_, rfl, _, rfl, a, xs, -1, v, rfl, rfl, SqL.of eA2, g1, g2, ?_⟩
        rw [g3]
        exact q H2 (s1.trans s2)
  | @tup a xs e hK hz =>
    refine ⟨_, (pss_cons (ps_if ((pw_or (pt_not (pt_val (pe_u C_is_list hG hr (by decide) (by rfl) pass0 (pa_cons (pv 0) pa_nil)))) (pw_or1 (pt_cmpR op_gt (pe_callB call_len_seq (by rfl) T.n_len PySem.boot_len (pa_cons (pv 0) pa_nil)) (pe_op op_add (pe_glob (v := .int 12) (by rfl) c_LINE_DEGREE ⟨_, rfl⟩) pe_int) (nomark _))))).pt
      (pss_one (ps_ret pe_bl))
      pss_nil)
    (pss_cons (ps_if (pt_not (pt_val (pe_callB (cr_all rfl) (by rfl) T.n_all (by decide +kernel) (pa_cons (pe_lc (own := [("number", 1)]) (g := gName 1) (tt := tYes) rfl S_is_line.nd (pi_tup (pv 0)) (blkOk_by (N := ["value", "number"]) (sc := defScope s_is_line) (by decide +kernel)) (fun _ _ _ _ _ => (pg_name (i := 1) S_is_line.nd rfl (Or.inl rfl))) (fun _ _ _ _ _ => pts_nil) (fun _ _ _ _ _ => (pe_u C_is_integer hG hr (by decide) (by rfl) pass0 (pa_cons (pv 1) pa_nil)))) pa_nil))))
      (pss_one (ps_ret pe_bl))
      pss_nil)
    (pss_one (ps_ret (pe_or (pe_cmpR op_eq (pe_callB call_len_seq (by rfl) T.n_len PySem.boot_len (pa_cons (pv 0) pa_nil)) pe_int (nomark _)) (pe_one (pe_cmpR op_ne (pe_ix ix_tup (pv 0) (pe_un un_neg pe_int) (fun _ _ => rfl)) pe_int (nomark _)))))))), ?_⟩
    refine ⟨_, rfl, _, _, rfl, .tup e, fun H1 s1 => ⟨_, rfl, iteF ?_⟩⟩
    refine ⟨_, rfl, a, xs, rfl, .inr (SqT.of (s1 _ _ e)), _, _, rfl, rfl, _, _, rfl, rfl, _, rfl, ite2 (fun c => ?_) (fun c => ?_)⟩
    · have c0 : (12 : Int) + 1 < xs.length := of_decide_eq_true c
      rw [lineB_long (by omega)] at q
      exact q H1 s1
    have hl : xs.length ≤ 13 := by
      have c0 : ¬ (12 : Int) + 1 < xs.length := fun z => c (decide_eq_true z)
      omega
    have eA : H1 a = some (.tup xs) := s1 _ _ e
    refine ⟨_, rfl, a, rfl, ⟨_, SqT.of eA⟩, fun D nD => ?_⟩
    refine lc_tup (K := K) (xs := xs) (fun i H' => Same H1 H' ∧ H' D = some (.lst ((xs.take i).map fun x => V.bl (isI x)))) ⟨Same.put nD, upd_same⟩ (fun i H' _ z => SqT.of (z.1 _ _ eA)) ?_ ?_
    · rintro i x H' hx ⟨s2, eD⟩
      obtain ⟨kx, hk⟩ := hK x (List.mem_of_getElem? hx)
      refine ⟨rfl, ?_⟩
      refine yesT ?_
      refine ⟨_, rfl, x, kx, rfl, (hk.same s1).same s2, _, eD, small1000 (by rw [List.length_map, List.length_take]; omega), ?_, ?_⟩
      · intro b o eb
        rw [upd_ne (ne_of_none eb nD)]
        exact s2 _ _ eb
      · rw [upd_same, take_snoc hx, List.map_append]; rfl
    rintro H2 ⟨s2, eD⟩
    rw [List.take_length] at eD
    have eB : H2 D = some (.lst ((xs.map isI).map V.bl)) := by rw [eD, List.map_map]; rfl
    have eA2 : H2 a = some (.tup xs) := s2 _ _ eA
    refine ⟨D, xs.map isI, rfl, SqL.of eB, _, rfl, ?_⟩
    rw [all_id]
    match hA : xs.all isI with
    | false =>
      rw [lineB_odd hA] at q
      exact iteT (q H2 (s1.trans s2))
    | true =>
      refine iteF ?_
      refine ⟨_, rfl, a, xs, rfl, .inr (SqT.of eA2), rfl, _, rfl, ite2 (fun c => ?_) (fun c => ?_)⟩
      · have c0 : (xs.length : Int) = 0 := V.int.inj (of_decide_eq_true c)
        have hn : xs = [] := List.length_eq_zero_iff.mp (by omega)
        subst hn
        exact q H2 (s1.trans s2)
      · have hn : xs ≠ [] := fun z => by
          subst z
          exact c (decide_eq_true rfl)
        obtain ⟨v, g1, g2, g3⟩ := last_look hl hA hn
        refine ⟨_, rfl, _, rfl, a, xs, -1, v, rfl, rfl, SqT.of eA2, g1, g2, ?_⟩
        rw [g3]
        exact q H2 (s1.trans s2)
theorem ok__law_is_line {P : Program} {w : World} {K : PySem.W.Frag}
    {mg : Str → Option Value} {base : Heap} (T : Top K mg)
    (C__law_is_integer : Cl P w K mg base CX0 1 "_law_is_integer" s__law_is_integer ["_law_value"] (spIsInt)) :
    Cl P w K mg base CX0 2 "_law_is_line" s__law_is_line ["_law_value"] (spIsLine) := by
  refine T.d__law_is_line.cl fun f fd F => body_0 F S__law_is_line (fun vs H Q E h => by obtain ⟨_, _, rfl, _⟩ := h; rfl) ?_
  intro cdv A out s H vs Q E hG hr h
  obtain ⟨v, b, rfl, hv, q⟩ := h
  cases hv with
  | oth kd e =>
    refine ⟨_, (pss_cons (ps_if ((pw_or (pt_not (pt_val (pe_callB call_isiT (by rfl) T.n_isinstance (by decide +kernel) (pa_cons (pv 0) (pa_cons (pe_tup (pa_cons (pe_bltn (v := .ty "list") (u := .type "list") (by rfl) T.n_list (by decide +kernel) rfl) (pa_cons (pe_bltn (v := .ty "tuple") (u := .type "tuple") (by rfl) T.n_tuple (by decide +kernel) rfl) pa_nil))) pa_nil))))) (pw_or (pt_cmpR op_gt (pe_callB call_len_seq (by rfl) T.n_len PySem.boot_len (pa_cons (pv 0) pa_nil)) pe_int (nomark _)) (pw_or1 (pt_not (pt_val (pe_callB (cr_all rfl) (by rfl) T.n_all (by decide +kernel) (pa_cons (pe_lc (own := [("_law_one", 1)]) (g := gName 1) (tt := tYes) rfl S__law_is_line.nd (pi_list (pv 0)) (blkOk_by (N := ["_law_value", "_law_one"]) (sc := defScope s__law_is_line) (by decide +kernel)) (fun _ _ _ _ _ => (pg_name (i := 1) S__law_is_line.nd rfl (Or.inl rfl))) (fun _ _ _ _ _ => pts_nil) (fun _ _ _ _ _ => (pe_u C__law_is_integer hG hr (by decide) (by rfl) pass0 (pa_cons (pv 1) pa_nil)))) pa_nil)))))))).pt
      (pss_one (ps_ret pe_bl))
      pss_nil)
    (pss_one (ps_ret (pe_or (pe_cmpR op_eq (pe_callB call_len_seq (by rfl) T.n_len PySem.boot_len (pa_cons (pv 0) pa_nil)) pe_int (nomark _)) (pe_one (pe_cmpR op_ne (pe_ix ix_list (pv 0) (pe_un un_neg pe_int) (fun _ _ => rfl)) pe_int (nomark _))))))), ?_⟩
    refine ⟨_, rfl, (by show 2 ≤ sizeLine; decide), fun p np => ?_⟩
    exact ⟨_, p, _, _, _, _, rfl, upd_same, .cons (.ty _) (.cons (.ty _) .nil), (kd.same (Same.put np)).ty, kit_lt kd, _, rfl, ifT (by rw [e]; rfl) (iteT (q _ (Same.put np)))⟩
  | @lst a xs e hK hz =>
    refine ⟨_, (pss_cons (ps_if ((pw_or (pt_not (pt_val (pe_callB call_isiT (by rfl) T.n_isinstance (by decide +kernel) (pa_cons (pv 0) (pa_cons (pe_tup (pa_cons (pe_bltn (v := .ty "list") (u := .type "list") (by rfl) T.n_list (by decide +kernel) rfl) (pa_cons (pe_bltn (v := .ty "tuple") (u := .type "tuple") (by rfl) T.n_tuple (by decide +kernel) rfl) pa_nil))) pa_nil))))) (pw_or (pt_cmpR op_gt (pe_callB call_len_seq (by rfl) T.n_len PySem.boot_len (pa_cons (pv 0) pa_nil)) pe_int (nomark _)) (pw_or1 (pt_not (pt_val (pe_callB (cr_all rfl) (by rfl) T.n_all (by decide +kernel) (pa_cons (pe_lc (own := [("_law_one", 1)]) (g := gName 1) (tt := tYes) rfl S__law_is_line.nd (pi_list (pv 0)) (blkOk_by (N := ["_law_value", "_law_one"]) (sc := defScope s__law_is_line) (by decide +kernel)) (fun _ _ _ _ _ => (pg_name (i := 1) S__law_is_line.nd rfl (Or.inl rfl))) (fun _ _ _ _ _ => pts_nil) (fun _ _ _ _ _ => (pe_u C__law_is_integer hG hr (by decide) (by rfl) pass0 (pa_cons (pv 1) pa_nil)))) pa_nil)))))))).pt
      (pss_one (ps_ret pe_bl))
      pss_nil)
    (pss_one (ps_ret (pe_or (pe_cmpR op_eq (pe_callB call_len_seq (by rfl) T.n_len PySem.boot_len (pa_cons (pv 0) pa_nil)) pe_int (nomark _)) (pe_one (pe_cmpR op_ne (pe_ix ix_list (pv 0) (pe_un un_neg pe_int) (fun _ _ => rfl)) pe_int (nomark _))))))), ?_⟩
    refine ⟨_, rfl, (by show 2 ≤ sizeLine; decide), fun p np => ?_⟩
    have kd : Kd H (.ref a) _ := .lst e
    have s1 : Same H (upd H p (.tup [.ty "list", .ty "tuple"])) := Same.put np
    refine ⟨_, p, _, _, _, _, rfl, upd_same, .cons (.ty _) (.cons (.ty _) .nil), (kd.same s1).ty, kit_lt kd, _, rfl, iteF ?_⟩
    generalize upd H p (.tup [.ty "list", .ty "tuple"]) = H1 at *
    refine ⟨_, rfl, a, xs, rfl, .inl (SqL.of (s1 _ _ e)), _, _, rfl, rfl, _, rfl, ite2 (fun c => ?_) (fun c => ?_)⟩
    · have c0 : (13 : Int) < xs.length := of_decide_eq_true c
      rw [lineB_long (by omega)] at q
      exact iteT (q H1 s1)
    have hl : xs.length ≤ 13 := by
      have c0 : ¬ (13 : Int) < xs.length := fun z => c (decide_eq_true z)
      omega
    have eA : H1 a = some (.lst xs) := s1 _ _ e
    refine ⟨_, rfl, a, rfl, ⟨_, SqL.of eA⟩, fun D nD => ?_⟩
    refine lc_list (K := K) (xs := xs) (fun i H' => Same H1 H' ∧ H' D = some (.lst ((xs.take i).map fun x => V.bl (isI x)))) ⟨Same.put nD, upd_same⟩ (fun i H' _ z => SqL.of (z.1 _ _ eA)) ?_ ?_
    · rintro i x H' hx ⟨s2, eD⟩
      obtain ⟨kx, hk⟩ := hK x (List.mem_of_getElem? hx)
      refine ⟨rfl, ?_⟩
      refine yesT ?_
      refine ⟨_, rfl, x, kx, rfl, (hk.same s1).same s2, _, eD, small1000 (by rw [List.length_map, List.length_take]; omega), ?_, ?_⟩
      · intro b o eb
        rw [upd_ne (ne_of_none eb nD)]
        exact s2 _ _ eb
      · rw [upd_same, take_snoc hx, List.map_append]; rfl
    rintro H2 ⟨s2, eD⟩
    rw [List.take_length] at eD
    have eB : H2 D = some (.lst ((xs.map isI).map V.bl)) := by rw [eD, List.map_map]; rfl
    have eA2 : H2 a = some (.lst xs) := s2 _ _ eA
    refine ⟨D, xs.map isI, rfl, SqL.of eB, _, rfl, ?_⟩
    rw [all_id]
    match hA : xs.all isI with
    | false =>
      rw [lineB_odd hA] at q
      exact iteT (q H2 (s1.trans s2))
    | true =>
      refine iteF ?_
      refine ⟨_, rfl, a, xs, rfl, .inl (SqL.of eA2), rfl, _, rfl, ite2 (fun c => ?_) (fun c => ?_)⟩
      · have c0 : (xs.length : Int) = 0 := V.int.inj (of_decide_eq_true c)
        have hn : xs = [] := List.length_eq_zero_iff.mp (by omega)
        subst hn
        exact q H2 (s1.trans s2)
      · have hn : xs ≠ [] := fun z => by
          subst z
          exact c (decide_eq_true rfl)
        obtain ⟨v, g1, g2, g3⟩ := last_look hl hA hn
        refine ⟨_, rfl, _, rfl, a, xs, -1, v, rfl, rfl, SqL.of eA2, g1, g2, ?_⟩
        rw [g3]
        exact q H2 (s1.trans s2)
  | @tup a xs e hK hz =>
    refine ⟨_, (pss_cons (ps_if ((pw_or (pt_not (pt_val (pe_callB call_isiT (by rfl) T.n_isinstance (by decide +kernel) (pa_cons (pv 0) (pa_cons (pe_tup (pa_cons (pe_bltn (v := .ty "list") (u := .type "list") (by rfl) T.n_list (by decide +kernel) rfl) (pa_cons (pe_bltn (v := .ty "tuple") (u := .type "tuple") (by rfl) T.n_tuple (by decide +kernel) rfl) pa_nil))) pa_nil))))) (pw_or (pt_cmpR op_gt (pe_callB call_len_seq (by rfl) T.n_len PySem.boot_len (pa_cons (pv 0) pa_nil)) pe_int (nomark _)) (pw_or1 (pt_not (pt_val (pe_callB (cr_all rfl) (by rfl) T.n_all (by decide +kernel) (pa_cons (pe_lc (own := [("_law_one", 1)]) (g := gName 1) (tt := tYes) rfl S__law_is_line.nd (pi_tup (pv 0)) (blkOk_by (N := ["_law_value", "_law_one"]) (sc := defScope s__law_is_line) (by decide +kernel)) (fun _ _ _ _ _ => (pg_name (i := 1) S__law_is_line.nd rfl (Or.inl rfl))) (fun _ _ _ _ _ => pts_nil) (fun _ _ _ _ _ => (pe_u C__law_is_integer hG hr (by decide) (by rfl) pass0 (pa_cons (pv 1) pa_nil)))) pa_nil)))))))).pt
      (pss_one (ps_ret pe_bl))
      pss_nil)
    (pss_one (ps_ret (pe_or (pe_cmpR op_eq (pe_callB call_len_seq (by rfl) T.n_len PySem.boot_len (pa_cons (pv 0) pa_nil)) pe_int (nomark _)) (pe_one (pe_cmpR op_ne (pe_ix ix_tup (pv 0) (pe_un un_neg pe_int) (fun _ _ => rfl)) pe_int (nomark _))))))), ?_⟩
    refine ⟨_, rfl, (by show 2 ≤ sizeLine; decide), fun p np => ?_⟩
    have kd : Kd H (.ref a) _ := .tup e
    have s1 : Same H (upd H p (.tup [.ty "list", .ty "tuple"])) := Same.put np
    refine ⟨_, p, _, _, _, _, rfl, upd_same, .cons (.ty _) (.cons (.ty _) .nil), (kd.same s1).ty, kit_lt kd, _, rfl, iteF ?_⟩
    generalize upd H p (.tup [.ty "list", .ty "tuple"]) = H1 at *
    refine ⟨_, rfl, a, xs, rfl, .inr (SqT.of (s1 _ _ e)), _, _, rfl, rfl, _, rfl, ite2 (fun c => ?_) (fun c => ?_)⟩
    · have c0 : (13 : Int) < xs.length := of_decide_eq_true c
      rw [lineB_long (by omega)] at q
      exact iteT (q H1 s1)
    have hl : xs.length ≤ 13 := by
      have c0 : ¬ (13 : Int) < xs.length := fun z => c (decide_eq_true z)
      omega
    have eA : H1 a = some (.tup xs) := s1 _ _ e
    refine ⟨_, rfl, a, rfl, ⟨_, SqT.of eA⟩, fun D nD => ?_⟩
    refine lc_tup (K := K) (xs := xs) (fun i H' => Same H1 H' ∧ H' D = some (.lst ((xs.take i).map fun x => V.bl (isI x)))) ⟨Same.put nD, upd_same⟩ (fun i H' _ z => SqT.of (z.1 _ _ eA)) ?_ ?_
    · rintro i x H' hx ⟨s2, eD⟩
      obtain ⟨kx, hk⟩ := hK x (List.mem_of_getElem? hx)
      refine ⟨rfl, ?_⟩
      refine yesT ?_
      refine ⟨_, rfl, x, kx, rfl, (hk.same s1).same s2, _, eD, small1000 (by rw [List.length_map, List.length_take]; omega), ?_, ?_⟩
      · intro b o eb
        rw [upd_ne (ne_of_none eb nD)]
        exact s2 _ _ eb
      · rw [upd_same, take_snoc hx, List.map_append]; rfl
    rintro H2 ⟨s2, eD⟩
    rw [List.take_length] at eD
    have eB : H2 D = some (.lst ((xs.map isI).map V.bl)) := by rw [eD, List.map_map]; rfl
    have eA2 : H2 a = some (.tup xs) := s2 _ _ eA
    refine ⟨D, xs.map isI, rfl, SqL.of eB, _, rfl, ?_⟩
    rw [all_id]
    match hA : xs.all isI with
    | false =>
      rw [lineB_odd hA] at q
      exact iteT (q H2 (s1.trans s2))
    | true =>
      refine iteF ?_
      refine ⟨_, rfl, a, xs, rfl, .inr (SqT.of eA2), rfl, _, rfl, ite2 (fun c => ?_) (fun c => ?_)⟩
      · have c0 : (xs.length : Int) = 0 := V.int.inj (of_decide_eq_true c)
        have hn : xs = [] := List.length_eq_zero_iff.mp (by omega)
        subst hn
        exact q H2 (s1.trans s2)
      · have hn : xs ≠ [] := fun z => by
          subst z
          exact c (decide_eq_true rfl)
        obtain ⟨v, g1, g2, g3⟩ := last_look hl hA hn
        refine ⟨_, rfl, _, rfl, a, xs, -1, v, rfl, rfl, SqT.of eA2, g1, g2, ?_⟩
        rw [g3]
        exact q H2 (s1.trans s2)
theorem kw_is_line_value {K : PySem.W.Frag} {f : Addr} {fd : FuncData} (F : Fun K "is_line" "is_line" s_is_line f fd) :
    KwB K fd ["value"] ["value"] (fun ws => ws) (fun zs => zs) := by
  obtain ⟨oc, od, kV, doc, pm, an, cdv, ct, osl, rfl, _, _⟩ := F.ex
  exact ⟨fun s ws _ hl => match ws, hl with | [a], _ => .of_eq rfl, fun r => r⟩
theorem kw_is_prime_value {K : PySem.W.Frag} {f : Addr} {fd : FuncData} (F : Fun K "is_prime" "is_prime" s_is_prime f fd) :
    KwB K fd ["value"] ["value"] (fun ws => ws) (fun zs => zs) := by
  obtain ⟨oc, od, kV, doc, pm, an, cdv, ct, osl, rfl, _, _⟩ := F.ex
  exact ⟨fun s ws _ hl => match ws, hl with | [a], _ => .of_eq rfl, fun r => r⟩
def turn2 {α : Type} : List α → List α
  | [x, y] => [y, x]
  | _ => []
theorem turn2_rel : ∀ {zs : List V} {ws : List Value}, Vals zs ws → Vals (turn2 zs) (turn2 ws)
  | _, _, .nil => .nil
  | _, _, .cons _ .nil => .nil
  | _, _, .cons r1 (.cons r2 .nil) => .cons r2 (.cons r1 .nil)
  | _, _, .cons _ (.cons _ (.cons _ _)) => .nil
theorem kw_greatest_other_number {K : PySem.W.Frag} {f : Addr} {fd : FuncData} (F : Fun K "greatest" "greatest" s_greatest f fd) :
    KwB K fd ["number", "other"] ["other", "number"] turn2 turn2 := by
  obtain ⟨oc, od, kV, doc, pm, an, cdv, ct, osl, rfl, _, _⟩ := F.ex
  exact ⟨fun s ws _ hl => match ws, hl with | [a, b], _ => .of_eq rfl, turn2_rel⟩
theorem ok__law_mixed {P : Program} {w : World} {K : PySem.W.Frag}
    {mg : Str → Option Value} {base : Heap} (T : Top K mg) :
    Cl P w K mg base CX0 1 "_law_mixed" s__law_mixed ["_law_one", "_law_other"] (spMixed) := by
  refine T.d__law_mixed.cl fun f fd F => body_0 F S__law_mixed (fun vs H Q E h => by obtain ⟨_, _, rfl, _⟩ := h; rfl) ?_
  intro cdv A out s H vs Q E hG hr h
  obtain ⟨x, y, rfl, hx, hy, q⟩ := h
  refine ⟨_, (pss_cons (ps_par (i := 2) (j := 3) rfl S__law_mixed.nd rfl rfl (by decide) rfl rfl (pa_cons (pe_tup (pa_cons (pv 0) (pa_cons pe_int (pa_cons pe_int pa_nil)))) (pa_cons (pe_tup (pa_cons (pv 1) (pa_cons pe_int (pa_cons pe_int pa_nil)))) pa_nil)) (by rfl))
    (pss_cons (ps_while PassesOwn.never (pt_cmpR op_ne (pe_ix ix_tup (pv 3) pe_int (fun _ _ => rfl)) pe_int (nomark _))
      (pss_cons (ps_set (i := 4) S__law_mixed.nd rfl (Or.inr rfl) (pe_op op_fdivN (pe_ix ix_tup (pv 2) pe_int (fun _ _ => rfl)) (pe_ix ix_tup (pv 3) pe_int (fun _ _ => rfl))))
    (pss_one (ps_par (i := 2) (j := 3) rfl S__law_mixed.nd rfl rfl (by decide) rfl rfl (pa_cons (pv 3) (pa_cons (pe_callTy call_tuple_of (by rfl) T.n_tuple (by decide +kernel) (pa_cons (pe_lc (own := [("_law_left", 5), ("_law_right_here", 6)]) (g := gTup K 2 (gCons (gName 5) (gCons (gName 6) gNil))) (tt := tYes) rfl S__law_mixed.nd (RZ.pi_zipA (by rfl) T.n_zip (pa_cons (pv 2) (pa_cons (pv 3) pa_nil))) (blkOk_by (N := ["_law_one", "_law_other", "_law_near", "_law_far", "_law_often", "_law_left", "_law_right_here"]) (sc := defScope s__law_mixed) (by decide +kernel)) (fun _ _ _ _ _ => (pg_tup rfl (pgs_cons (pg_name (i := 5) S__law_mixed.nd rfl (Or.inl rfl)) (pgs_cons (pg_name (i := 6) S__law_mixed.nd rfl (Or.inl rfl)) pgs_nil)))) (fun _ _ _ _ _ => pts_nil) (fun _ _ _ _ _ => (pe_op op_sub (pv 5) (pe_op op_mul (pv 4) (pv 6))))) pa_nil)) pa_nil)) (by rfl)))))
    (pss_one (ps_ret (pv 2))))), ?_⟩
  refine ⟨_, rfl, (by show 3 ≤ sizeLine; decide), fun p np => ⟨_, rfl, (by show 3 ≤ sizeLine; decide), fun r nr => ⟨_, _, rfl, ?_⟩⟩⟩
  refine ⟨fun m σ H' => ∃ (p r : Addr) (a a1 a2 b b1 b2 : Int) (y4 : Option V), σ = [some (.int x), some (.int y), some (.ref p), some (.ref r), y4, none, none] ∧
    Same H H' ∧ H' p = some (.tup [.int a, .int a1, .int a2]) ∧ H' r = some (.tup [.int b, .int b1, .int b2]) ∧ Mix x y a a1 a2 b b1 b2 ∧ m = b.natAbs,
    ⟨_, p, r, x, 1, 0, y, 0, 1, none, rfl, fun b o e => Same.put nr _ _ (Same.put np _ _ e), Same.put nr _ _ upd_same, upd_same, Mix.start x y hx hy, rfl⟩, ?_⟩
  rintro m σ H1 ⟨p, r, a, a1, a2, b, b1, b2, y4, rfl, s1, ep, er, mx, rfl⟩
  refine ⟨_, rfl, r, _, 0, _, rfl, rfl, SqT.of er, atI_nat (j := 0) rfl, rfl, _, rfl, ?_⟩
  by_cases hb : b = 0
  · subst hb
    refine ifF (by simp) ?_
    exact ⟨_, rfl, q H1 p a a1 a2 s1 ep mx.ea mx.done mx.la⟩
  refine ifT (by simp [hb]) ⟨fun σ' H'' => ∃ m', m' < b.natAbs ∧ ∃ (p r : Addr) (a a1 a2 b b1 b2 : Int) (y4 : Option V), σ' = [some (.int x), some (.int y), some (.ref p), some (.ref r), y4, none, none] ∧
    Same H H'' ∧ H'' p = some (.tup [.int a, .int a1, .int a2]) ∧ H'' r = some (.tup [.int b, .int b1, .int b2]) ∧ Mix x y a a1 a2 b b1 b2 ∧ m' = b.natAbs, fun _ _ z => z, ?_⟩
  refine ⟨_, rfl, p, _, 0, _, rfl, rfl, SqT.of ep, atI_nat (j := 0) rfl, _, rfl, r, _, 0, _, rfl, rfl, SqT.of er, atI_nat (j := 0) rfl, _, _, rfl, rfl, ⟨hb, by have := mx.lb; omega⟩, ?_⟩
  refine ⟨_, rfl, _, rfl, _, rfl, p, r, [.int a, .int a1, .int a2], [.int b, .int b1, .int b2], rfl, .inr ⟨SqT.of ep, SqT.of er, fun D nD => ?_⟩⟩
  have qs := fdiv_small mx.la hb
  have lq := mx.la
  refine ⟨fun i m H2 => m = 3 - i ∧ i ≤ 3 ∧ Same H1 H2 ∧ H2 D = some (.lst ([V.int (a - a.fdiv b * b), V.int (a1 - a.fdiv b * b1), V.int (a2 - a.fdiv b * b2)].take i)), ⟨3, rfl, by omega, Same.put nD, upd_same⟩, ?_⟩
  rintro i m H2 ⟨rfl, hi, s2, eD⟩
  have ep2 := s2 _ _ ep
  have er2 := s2 _ _ er
  by_cases h3 : i = 3
  · subst h3
    refine .inl ⟨⟨_, _, SqT.of ep2, SqT.of er2, .inl (Nat.le_refl _)⟩, ?_⟩
    refine ⟨D, _, rfl, .inl ⟨SqL.of eD, fun l nl => ?_⟩⟩
    refine ⟨_, _, rfl, (a - a.fdiv b * b).natAbs, ?_, r, l, b, b1, b2, a - a.fdiv b * b, a1 - a.fdiv b * b1, a2 - a.fdiv b * b2, some (.int (a.fdiv b)), rfl, fun c o e => Same.put nl _ _ (s2 _ _ (s1 _ _ e)), Same.put nl _ _ er2, upd_same, mx.step rfl hb, rfl⟩
    exact fmod_abs (a := a) hb
  · have hi3 : i = 0 ∨ i = 1 ∨ i = 2 := by omega
    refine .inr ⟨?_, fun H3 => 3 - (i + 1) = 3 - (i + 1) ∧ i + 1 ≤ 3 ∧ Same H1 H3 ∧ H3 D = some (.lst ([V.int (a - a.fdiv b * b), V.int (a1 - a.fdiv b * b1), V.int (a2 - a.fdiv b * b2)].take (i + 1))), fun H3 z => ⟨3 - (i + 1), by omega, z⟩, ?_⟩
    · rcases hi3 with rfl | rfl | rfl <;> exact ⟨_, _, _, _, SqT.of ep2, SqT.of er2, rfl, rfl⟩
    · rintro v H3 ⟨T, u, w2, rfl, nT, rfl, f1, f2⟩
      have g1 := f1 _ (SqT.of ep2)
      have g2 := f2 _ (SqT.of er2)
      have DT : D ≠ T := ne_of_none eD nT
      refine ⟨T, _, rfl, SqT.of upd_same, rfl, _, _, rfl, _, _, rfl, rfl, rfl, ?_⟩
      refine yesT ?_
      rcases hi3 with rfl | rfl | rfl
      all_goals
        cases g1
        cases g2
        refine ⟨_, rfl, _, rfl, _, rfl, _, _, rfl, rfl, .inl qs, _, _, rfl, rfl, _, (upd_ne DT).trans eD, small1000 (by simp only [List.length_take, List.length_cons, List.length_nil]; omega), rfl, by omega, ?_, ?_⟩
        · intro c o e
          rw [upd_ne (ne_of_none e nD)]
          exact Same.put nT _ _ (s2 _ _ e)
        · rw [upd_same]; rfl
theorem ok__law_greatest_right {P : Program} {w : World} {K : PySem.W.Frag}
    {mg : Str → Option Value} {base : Heap} (T : Top K mg)
    (C__law_draw : Cl P w K mg base CX0 1 "_law_draw" s__law_draw ["_law_pot_here", "_law_many"] (spDraw))
    (C__law_mixed : Cl P w K mg base CX0 1 "_law_mixed" s__law_mixed ["_law_one", "_law_other"] (spMixed))
    (C__law_pick : Cl P w K mg base CX0 2 "_law_pick" s__law_pick ["_law_pot_here", "_law_some"] (spPick K))
    (C_greatest : Cl P w K mg base CX0 3 "greatest" s_greatest ["number", "other"] (spGreatest)) :
    Cl P w K mg base CX0 4 "_law_greatest_right" s__law_greatest_right ["_law_pot_here"] (spHolds) := by
  refine T.d__law_greatest_right.cl fun f fd F => body_0 F S__law_greatest_right (fun vs H Q E h => by obtain ⟨_, rfl, _⟩ := h; rfl) ?_
  intro cdv A out s H vs Q E hG hr h
  obtain ⟨a, rfl, hp, q⟩ := h
  refine ⟨_, (pss_cons (ps_set (i := 1) S__law_greatest_right.nd rfl (Or.inl rfl) (pe_u C__law_pick hG hr (by decide) (by rfl) pass0 (pa_cons (pv 0) (pa_cons (pe_lst (pa_cons pe_int (pa_cons pe_int (pa_cons pe_int (pa_cons pe_int pa_nil))))) pa_nil))))
    (pss_cons (ps_par (i := 2) (j := 3) rfl S__law_greatest_right.nd rfl rfl (by decide) rfl rfl (pa_cons (pe_op op_mul (pv 1) (pe_op op_sub (pe_u C__law_draw hG hr (by decide) (by rfl) pass0 (pa_cons (pv 0) (pa_cons pe_int pa_nil))) pe_int)) (pa_cons (pe_op op_mul (pv 1) (pe_op op_sub (pe_u C__law_draw hG hr (by decide) (by rfl) pass0 (pa_cons (pv 0) (pa_cons pe_int pa_nil))) pe_int)) pa_nil)) (by rfl))
    (pss_cons (ps_par (i := 4) (j := 5) rfl S__law_greatest_right.nd rfl rfl (by decide) rfl rfl (pa_cons (pe_u C_greatest hG hr (by decide) (by rfl) pass0 (pa_cons (pv 2) (pa_cons (pv 3) pa_nil))) (pa_cons (pe_u C__law_mixed hG hr (by decide) (by rfl) pass0 (pa_cons (pv 2) (pa_cons (pv 3) pa_nil))) pa_nil)) (by rfl))
    (pss_cons (ps_if ((pw_or (pt_cmpR op_ne (pv 4) (pe_callB call_abs (by rfl) T.n_abs (by decide +kernel) (pa_cons (pe_ix ix_tup (pv 5) pe_int (fun _ _ => rfl)) pa_nil)) (nomark _)) (pw_or (pt_cmpR op_ne (pe_uk C_greatest (kw_greatest_other_number) hG hr (by decide) (by rfl) pass0 (pk_cons (pv 2) (pk_cons (pv 3) pk_nil))) (pv 4) (nomark _)) (pw_or (pt_cmpR op_ne (pe_u C_greatest hG hr (by decide) (by rfl) pass0 (pa_cons (pe_op op_sub pe_int (pv 2)) (pa_cons (pv 3) pa_nil))) (pv 4) (nomark _)) (pw_or1 (pt_cmpR op_ne (pe_u C_greatest hG hr (by decide) (by rfl) pass0 (pa_cons (pv 2) (pa_cons pe_int pa_nil))) (pe_callB call_abs (by rfl) T.n_abs (by decide +kernel) (pa_cons (pv 2) pa_nil)) (nomark _))))))).pt
      (pss_one (ps_ret pe_bl))
      pss_nil)
    (pss_cons (ps_if (pt_cmpR op_eq (pv 4) pe_int (nomark _))
      (pss_one (ps_ret (pe_and (pe_cmpR op_eq (pv 2) pe_int (nomark _)) (pe_one (pe_cmpR op_eq (pv 3) pe_int (nomark _))))))
      pss_nil)
    (pss_one (ps_ret (pe_and (pe_cmpR op_eq (pe_op op_mul (pe_op op_fdivN (pv 2) (pv 4)) (pv 4)) (pv 2) (nomark _)) (pe_and (pe_cmpR op_eq (pe_op op_mul (pe_op op_fdivN (pv 3) (pv 4)) (pv 4)) (pv 3) (nomark _)) (pe_one (pe_cmpR op_in_seq (pe_op op_add (pe_op op_mul (pe_ix ix_tup (pv 5) pe_int (fun _ _ => rfl)) (pv 2)) (pe_op op_mul (pe_ix ix_tup (pv 5) pe_int (fun _ _ => rfl)) (pv 3))) (pe_tup (pa_cons (pv 4) (pa_cons (pe_op op_sub pe_int (pv 4)) pa_nil))) (by with_unfolding_all rfl)))))))))))), ?_⟩
  refine ⟨_, rfl, (by show 4 ≤ sizeLine; decide), fun u nu => ?_⟩
  have s0 : Same H (upd H u (.lst [.int 1, .int 6, .int 35, .int 1001])) := Same.put nu
  refine ⟨a, u, _, rfl, Same.pot s0 hp, hp.ne nu, SqL.of upd_same, List.cons_ne_nil _ _, (by show 4 ≤ 1000; decide), fun H1 x c1 p1 hx => ?_⟩
  obtain ⟨sh, rfl, hs⟩ : ∃ z : Int, x = .int z ∧ z.natAbs ≤ 1001 := by
    simp only [List.mem_cons, List.not_mem_nil, or_false] at hx
    rcases hx with h | h | h | h
    · exact ⟨_, h, by decide⟩
    · exact ⟨_, h, by decide⟩
    · exact ⟨_, h, by decide⟩
    · exact ⟨_, h, by decide⟩
  have small : ∀ d : Int, 0 ≤ d → d < 401 → (sh * (d - 200)).natAbs ≤ 300000 := fun d d0 d1 => by
    rw [Int.natAbs_mul]
    have z : sh.natAbs * (d - 200).natAbs ≤ 1001 * 200 := Nat.mul_le_mul hs (by omega)
    omega
  have shm : -(2 ^ 64) < sh ∧ sh < 2 ^ 64 := by
    have p : (2 : Int) ^ 64 = 18446744073709551616 := by decide
    rw [p]; omega
  refine ⟨_, rfl, _, rfl, a, _, rfl, p1, (by decide), (by decide), fun H2 d c2 p2 d0 d1 => ⟨_, _, rfl, rfl, _, _, rfl, rfl, .inl shm, ?_⟩⟩
  refine ⟨_, rfl, _, rfl, a, _, rfl, p2, (by decide), (by decide), fun H3 e c3 p3 e0 e1 => ⟨_, _, rfl, rfl, _, _, rfl, rfl, .inl shm, _, _, rfl, ?_⟩⟩
  have lx := small d d0 d1
  have ly := small e e0 e1
  show tSeq _ _ _ [some (.ref a), some (.int sh), some (.int (sh * (d - 200))), some (.int (sh * (e - 200))), none, none] _
  generalize sh * (d - 200) = x at *
  generalize sh * (e - 200) = y at *
  refine ⟨_, rfl, _, rfl, x, y, rfl, _, rfl, _, rfl, x, y, rfl, lx, ly, fun H4 m g a1 a2 s4 em eg gg gl => ⟨_, _, rfl, ?_⟩⟩
  have big : ∀ z : Int, z.natAbs ≤ 300000 → -(2 ^ 64) < z ∧ z < 2 ^ 64 := fun z hz => by
    have p : (2 : Int) ^ 64 = 18446744073709551616 := by decide
    rw [p]; omega
  have eT : ((Nat.gcd x.natAbs y.natAbs : Nat) : Int) = (g.natAbs : Int) := by rw [gg]; rfl
  have fin : Chg a H H4 := fun b o n z => s4 _ _ (c3 _ _ n (c2 _ _ n (c1 _ _ n (s0 _ _ z))))
  have p4 : PotAt H4 a := Same.pot s4 p3
  have abE : ∀ z : Int, (if z < 0 then -z else z) = (z.natAbs : Int) := fun z => by split <;> omega
  refine ⟨_, rfl, _, rfl, m, _, 0, _, rfl, rfl, SqT.of em, atI_nat (j := 0) rfl, _, rfl, rfl, _, rfl, ifF (by rw [abE, eT]; simp) ?_⟩
  refine ⟨_, rfl, _, rfl, y, x, rfl, _, rfl, rfl, _, rfl, ifF (by rw [Nat.gcd_comm]; simp) ?_⟩
  refine ⟨_, rfl, _, _, rfl, rfl, _, rfl, _, _, rfl, _, rfl, rfl, _, rfl, ifF (by rw [Int.zero_sub, Int.natAbs_neg]; simp) ?_⟩
  refine ⟨_, rfl, x, 0, rfl, _, rfl, _, rfl, rfl, _, rfl, ifF (by rw [abE]; simp) ?_⟩
  refine ⟨_, rfl, rfl, _, rfl, ite2 (fun c => ?_) (fun c => ?_)⟩
  · have c0 : ((Nat.gcd x.natAbs y.natAbs : Nat) : Int) = 0 := V.int.inj (of_decide_eq_true c)
    have c1 : Nat.gcd x.natAbs y.natAbs = 0 := by omega
    have hx0 : x.natAbs = 0 := Nat.eq_zero_of_gcd_eq_zero_left c1
    have hy0 : y.natAbs = 0 := Nat.eq_zero_of_gcd_eq_zero_right c1
    have hx1 : x = 0 := by omega
    have hy1 : y = 0 := by omega
    subst hx1 hy1
    refine ⟨_, rfl, rfl, _, rfl, ifT (by simp) ⟨_, rfl, rfl, ?_⟩⟩
    exact q H4 fin p4
  · have c0 : ((Nat.gcd x.natAbs y.natAbs : Nat) : Int) ≠ 0 := fun z => c (decide_eq_true (congrArg V.int z))
    have lt : ((Nat.gcd x.natAbs y.natAbs : Nat) : Int).natAbs < 1073741824 := by rw [eT]; omega
    have gb := big ((Nat.gcd x.natAbs y.natAbs : Nat) : Int) (by rw [eT]; omega)
    obtain ⟨v1, v2⟩ := gcd_div (x := x) (y := y) (g := Nat.gcd x.natAbs y.natAbs) rfl
    refine ⟨_, rfl, _, rfl, _, _, rfl, rfl, ⟨c0, lt⟩, _, rfl, _, _, rfl, rfl, .inr gb, _, rfl, rfl, _, rfl, ifT (decide_eq_true (congrArg V.int v1)) ?_⟩
    refine ⟨_, rfl, _, rfl, _, _, rfl, rfl, ⟨c0, lt⟩, _, rfl, _, _, rfl, rfl, .inr gb, _, rfl, rfl, _, rfl, ifT (decide_eq_true (congrArg V.int v2)) ?_⟩
    refine ⟨_, rfl, m, _, 1, _, rfl, rfl, SqT.of em, atI_nat (j := 1) rfl, _, rfl, _, _, rfl, rfl, .inr (big x lx), _, rfl, m, _, 2, _, rfl, rfl, SqT.of em, atI_nat (j := 2) rfl, _, rfl, _, _, rfl, rfl, .inr (big y ly), _, _, rfl, rfl, ?_⟩
    refine ⟨_, rfl, _, rfl, _, _, rfl, rfl, (by show 2 ≤ sizeLine; decide), fun t nt => ⟨t, _, rfl, .inr (SqT.of upd_same), rfl, rfl, ?_⟩⟩
    have inE : inV (.int (a1 * x + a2 * y)) [.int ((Nat.gcd x.natAbs y.natAbs : Nat) : Int), .int (0 - ((Nat.gcd x.natAbs y.natAbs : Nat) : Int))] = true := by
      rw [← eg, eT]
      unfold inV
      simp [eqV]
      omega
    have y : ∀ b : Bool, b = true → ∀ H', Chg a H H' → PotAt H' a → Q (.bl b) H' := fun b hb H' c p => by rw [hb]; exact q H' c p
    exact y _ inE _ (fun b o n z => Same.put nt _ _ (fin b o n z)) (Same.pot (Same.put nt) p4)
theorem sh_bools {K : PySem.W.Frag} {H : Hp} {a : Addr} (b c : Bool) (h : H a = some (.lst [.bl b, .bl c])) :
    Sh K H (.ref a) (PyData.shown (.list [.bool b, .bool c])) :=
  .dat (.lst (SqL.of h) (.cons (.bl b) (.cons (.bl c) .nil))) (by cases b <;> cases c <;> decide) (by cases b <;> cases c <;> decide) (by cases b <;> cases c <;> decide)
    (by cases b <;> cases c <;> decide +kernel)
theorem ok__law_primes_right {P : Program} {w : World} {K : PySem.W.Frag}
    {mg : Str → Option Value} {base : Heap} (T : Top K mg)
    (C__law_draw : Cl P w K mg base CX0 1 "_law_draw" s__law_draw ["_law_pot_here", "_law_many"] (spDraw))
    (C__law_is_prime : Cl P w K mg base CX0 2 "_law_is_prime" s__law_is_prime ["_law_value"] (spIsPrime))
    (C_is_prime : Cl P w K mg base CX0 2 "is_prime" s_is_prime ["value"] (spIsPrime)) :
    Cl P w K mg base CX0 3 "_law_primes_right" s__law_primes_right ["_law_pot_here"] (spHolds) := by
  refine T.d__law_primes_right.cl fun f fd F => body_0 F S__law_primes_right (fun vs H Q E h => by obtain ⟨_, rfl, _⟩ := h; rfl) ?_
  intro cdv A out s H vs Q E hG hr h
  obtain ⟨a, rfl, hp, q⟩ := h
  refine ⟨_, (pss_cons (ps_set (i := 1) S__law_primes_right.nd rfl (Or.inl rfl) (pe_lst (pa_cons pe_int (pa_cons pe_int (pa_cons pe_int (pa_cons pe_int (pa_cons pe_int (pa_cons (pe_un un_neg pe_int) (pa_cons (pe_un un_neg pe_int) (pa_cons pe_int (pa_cons pe_int (pa_cons pe_int (pa_cons pe_int (pa_cons pe_int (pa_cons (pe_op op_add (pe_op op_pow pe_int pe_int) pe_int) (pa_cons pe_bl (pa_cons pe_bl (pa_cons pe_non (pa_cons pe_str (pa_cons (pe_lst (pa_cons pe_int pa_nil)) (pa_cons pe_dnewK pa_nil)))))))))))))))))))))
    (pss_cons (ps_for PassesOwn.never rfl (pi_range1 (by rfl) T.n_range (pa_cons pe_int pa_nil)) (pg_name (i := 2) S__law_primes_right.nd rfl (Or.inl rfl))
      (pss_one (ps_expr (pe_bm PySem.F.plainAttrs_list PySem.F.slot_list_append PySem.F.type_list_append mt_append (pv 1) (pa_cons (pe_u C__law_draw hG hr (by decide) (by rfl) pass0 (pa_cons (pv 0) (pa_cons pe_int pa_nil))) pa_nil)))))
    (pss_cons (ps_for PassesOwn.never rfl (pi_list (pv 1)) (pg_name (i := 3) S__law_primes_right.nd rfl (Or.inl rfl))
      (pss_one (ps_if (pt_cmpR op_ne (pe_callB (call_shown hG (hu64 hr)) (by rfl) T.n_repr (by decide +kernel) (pa_cons (pe_lst (pa_cons (pe_u C_is_prime hG hr (by decide) (by rfl) pass0 (pa_cons (pv 3) pa_nil)) (pa_cons (pe_uk C_is_prime (kw_is_prime_value) hG hr (by decide) (by rfl) pass0 (pk_cons (pv 3) pk_nil)) pa_nil))) pa_nil)) (pe_callB (call_shown hG (hu64 hr)) (by rfl) T.n_repr (by decide +kernel) (pa_cons (pe_op op_rep (pe_lst (pa_cons (pe_u C__law_is_prime hG hr (by decide) (by rfl) pass0 (pa_cons (pv 3) pa_nil)) pa_nil)) pe_int) pa_nil)) (nomark _))
      (pss_one (ps_ret pe_bl))
      pss_nil)))
    (pss_one (ps_ret pe_bl))))), ?_⟩
  refine ⟨_, rfl, _, rfl, _, _, rfl, rfl, ⟨by decide, by decide, by decide⟩, _, _, rfl, rfl, (by show 1 ≤ sizeLine; decide), fun u nu => fun d nd => ⟨(by show 19 ≤ sizeLine; decide), fun o no => ?_⟩⟩
  generalize hg : upd _ o _ = H0
  have s3 : Same H H0 := by rw [← hg]; exact fun b x e => Same.put no _ _ (Same.put nd _ _ (Same.put nu _ _ e))
  have eu : H0 u = some (.lst [.int 7]) := by rw [← hg]; exact Same.put no _ _ (Same.put nd _ _ upd_same)
  have ed : H0 d = some (.dK []) := by rw [← hg]; exact Same.put no _ _ upd_same
  have eo : H0 o = some (.lst [V.int 0, .int 1, .int 2, .int 3, .int 4, .int (-2), .int (-7), .int 9973, .int 9991, .int 9999, .int 10000, .int 10007, .int (10 ^ 6 + 3), .bl true, .bl false, .non, .str "7", .ref u, .ref d]) := by rw [← hg]; exact upd_same
  have hO : H o = none := Same.free (Same.put nu) (Same.free (Same.put nd) no)
  have ua : u ≠ a := hp.ne nu
  have da : d ≠ a := (Same.pot (Same.put (o := .lst [.int 7]) nu) hp).ne nd
  have oa : o ≠ a := (Same.pot (Same.put (o := .dK []) nd) (Same.pot (Same.put (o := .lst [.int 7]) nu) hp)).ne no
  have ou : o ≠ u := by
    intro z
    subst z
    rw [upd_ne (show o ≠ d from fun z => by rw [z, upd_same] at nd; cases nd)] at no
    rw [upd_same] at no
    cases no
  have od : o ≠ d := by
    intro z
    subst z
    rw [upd_same] at no
    cases no
  have base : ∀ x ∈ [V.int 0, .int 1, .int 2, .int 3, .int 4, .int (-2), .int (-7), .int 9973, .int 9991, .int 9999, .int 10000, .int 10007, .int (10 ^ 6 + 3), .bl true, .bl false, .non, .str "7", .ref u, .ref d], ∀ H' : Hp, H' u = some (.lst [.int 7]) → H' d = some (.dK []) → ∃ k, Kd H' x k := by
    intro x hx H' h1 h2
    simp only [List.mem_cons, List.not_mem_nil, or_false] at hx
    rcases hx with h | h | h | h | h | h | h | h | h | h | h | h | h | h | h | h | h | h | h <;> subst h
    all_goals first | exact ⟨_, .int _⟩ | exact ⟨_, .bl _⟩ | exact ⟨_, .non⟩ | exact ⟨_, .str _⟩ | exact ⟨_, .lst h1⟩ | exact ⟨_, .dct h2⟩
  have pot0 := Same.pot s3 hp
  clear hg
  generalize hB : [V.int 0, .int 1, .int 2, .int 3, .int 4, .int (-2), .int (-7), .int 9973, .int 9991, .int 9999, .int 10000, .int 10007, .int (10 ^ 6 + 3), .bl true, .bl false, .non, .str "7", .ref u, .ref d] = B at *
  have lB : B.length = 19 := by rw [← hB]; rfl
  refine ⟨12, rfl, by decide, by decide, ?_⟩
  refine for_range (n := 12) (fun i σ H' => ∃ (y : Option V) (ns : List Int), σ = [some (.ref a), some (.ref o), y, none] ∧
    Chg a H H' ∧ PotAt H' a ∧ H' o = some (.lst (B ++ ns.map V.int)) ∧ ns.length = i ∧ H' u = some (.lst [.int 7]) ∧ H' d = some (.dK [])) ?_ ?_ ?_
  · exact ⟨none, [], rfl, .of s3, pot0, by rw [eo]; simp, rfl, eu, ed⟩
  · rintro i σ H1 hi ⟨y, ns, rfl, c1, p1, e1, l1, u1, d1⟩
    refine ⟨_, rfl, .inl ⟨rfl, _, SqL.of e1⟩, _, rfl, a, _, rfl, p1, (by decide), (by decide), fun H2 z c2 p2 z0 z1 => ?_⟩
    have e2 := c2 _ _ oa e1
    refine ⟨o, _, _, rfl, rfl, e2, small1000 (by rw [List.length_append, List.length_map]; omega), ?_⟩
    refine ⟨_, ns ++ [z], rfl, fun b x nb e => ?_, ?_, ?_, ?_, ?_, ?_⟩
    · have z := c2 _ _ nb (c1 _ _ nb e)
      rw [upd_ne (show b ≠ o from fun q => ?_)]
      · exact z
      · subst q
        exact absurd e (by rw [hO]; exact fun z => nomatch z)
    · obtain ⟨P, R, x, y⟩ := p2
      exact ⟨P, R, (upd_ne oa.symm).trans x, y⟩
    · rw [upd_same, List.map_append, ← List.append_assoc]; rfl
    · rw [List.length_append, l1]; rfl
    · rw [upd_ne ou.symm]; exact c2 _ _ ua u1
    · rw [upd_ne od.symm]; exact c2 _ _ da d1
  · rintro σ H1 ⟨y, ns, rfl, c1, p1, e1, l1, u1, d1⟩
    refine ⟨_, rfl, o, rfl, ⟨_, SqL.of e1⟩, ?_⟩
    refine for_list (xs := B ++ ns.map V.int) (fun i σ H' => ∃ y' : Option V, σ = [some (.ref a), some (.ref o), y, y'] ∧ Same H1 H') ?_ ?_ ?_ ?_
    · exact ⟨none, rfl, Same.refl _⟩
    · exact fun i σ H' _ ⟨y, _, s2⟩ => s2.seq (SqL.of e1)
    · rintro i x σ H' hx ⟨y, rfl, s2⟩
      obtain ⟨k, kd⟩ : ∃ k, Kd H' x k := by
        rcases List.mem_append.mp (List.mem_of_getElem? hx) with hm | hm
        · exact base x hm H' (s2 _ _ u1) (s2 _ _ d1)
        · obtain ⟨z, _, rfl⟩ := List.mem_map.mp hm
          exact ⟨_, .int z⟩
      refine ⟨_, rfl, x, k, rfl, kd, _, rfl, x, k, rfl, kd, (by show 2 ≤ sizeLine; decide), fun t nt => ?_⟩
      refine ⟨_, _, rfl, sh_bools _ _ upd_same, ?_⟩
      have kd2 := kd.same (Same.put (o := .lst [.bl (primeV x), .bl (primeV x)]) nt)
      refine ⟨_, rfl, x, k, rfl, kd2, (by show 1 ≤ sizeLine; decide), fun t2 nt2 => ?_⟩
      refine ⟨t2, 2, _, rfl, rfl, upd_same, (by decide), (by decide), (by show 1 * 2 ≤ sizeLine; decide), fun t3 nt3 => ?_⟩
      refine ⟨_, _, rfl, sh_bools (primeV x) (primeV x) upd_same, rfl, _, rfl, ifF (by simp) ?_⟩
      exact ⟨_, rfl, fun b o e => Same.put nt3 _ _ (Same.put nt2 _ _ (Same.put nt _ _ (s2 _ _ e)))⟩
    · rintro σ H' ⟨y, rfl, s2⟩
      exact q H' (fun b o n e => s2 _ _ (c1 _ _ n e)) (Same.pot s2 p1)
theorem ok__law_lines_right {P : Program} {w : World} {K : PySem.W.Frag}
    {mg : Str → Option Value} {base : Heap} (T : Top K mg)
    (C__law_draw : Cl P w K mg base CX0 1 "_law_draw" s__law_draw ["_law_pot_here", "_law_many"] (spDraw))
    (C__law_is_line : Cl P w K mg base CX0 2 "_law_is_line" s__law_is_line ["_law_value"] (spIsLine))
    (C__law_line : Cl P w K mg base CX0 3 "_law_line" s__law_line ["_law_pot_here", "_law_most", "_law_wide"] (spLine))
    (C__law_pick : Cl P w K mg base CX0 2 "_law_pick" s__law_pick ["_law_pot_here", "_law_some"] (spPick K))
    (C_is_line : Cl P w K mg base CX0 2 "is_line" s_is_line ["value"] (spIsLine)) :
    Cl P w K mg base CX0 4 "_law_lines_right" s__law_lines_right ["_law_pot_here"] (spHolds) := by
  refine T.d__law_lines_right.cl fun f fd F => body_0 F S__law_lines_right (fun vs H Q E h => by obtain ⟨_, rfl, _⟩ := h; rfl) ?_
  intro cdv A out s H vs Q E hG hr h
  obtain ⟨a, rfl, hp, q⟩ := h
  refine ⟨_, (pss_cons (ps_set (i := 1) S__law_lines_right.nd rfl (Or.inl rfl) (pe_u C__law_line hG hr (by decide) (by rfl) pass0 (pa_cons (pv 0) (pa_cons (pe_u C__law_draw hG hr (by decide) (by rfl) pass0 (pa_cons (pv 0) (pa_cons pe_int pa_nil))) (pa_cons pe_int pa_nil)))))
    (pss_cons (ps_par (i := 2) (j := 3) rfl S__law_lines_right.nd rfl rfl (by decide) rfl rfl (pa_cons (pe_u C__law_draw hG hr (by decide) (by rfl) pass0 (pa_cons (pv 0) (pa_cons (pe_callB call_len_seq (by rfl) T.n_len PySem.boot_len (pa_cons (pv 1) pa_nil)) pa_nil))) (pa_cons (pe_u C__law_pick hG hr (by decide) (by rfl) pass0 (pa_cons (pv 0) (pa_cons (pe_lst (pa_cons pe_non (pa_cons pe_bl (pa_cons pe_bl (pa_cons pe_str (pa_cons (pe_lst (pa_cons pe_int pa_nil)) (pa_cons pe_dnewK (pa_cons (pe_tup pa_nil) pa_nil)))))))) pa_nil))) pa_nil)) (by rfl))
    (pss_cons (ps_set (i := 4) S__law_lines_right.nd rfl (Or.inl rfl) (pe_lst (pa_cons (pv 1) (pa_cons (pe_callTy call_tuple_of (by rfl) T.n_tuple (by decide +kernel) (pa_cons (pv 1) pa_nil)) (pa_cons (pe_op op_cat (pv 1) (pe_lst (pa_cons pe_int pa_nil))) (pa_cons (pe_slice sl_list (pv 1) po_none (po_some (pe_un un_neg pe_int))) (pa_cons (pe_op op_cat (pe_op op_rep (pe_lst (pa_cons pe_int pa_nil)) pe_int) (pe_slice sl_list (pv 1) (po_some (pe_un un_neg pe_int)) po_none)) (pa_cons (pe_op op_cat (pe_op op_rep (pe_lst (pa_cons pe_int pa_nil)) pe_int) (pe_slice sl_list (pv 1) (po_some (pe_un un_neg pe_int)) po_none)) (pa_cons (pe_op op_cat (pe_op op_cat (pe_slice sl_list (pv 1) po_none (po_some (pv 2))) (pe_lst (pa_cons (pv 3) pa_nil))) (pe_slice sl_list (pv 1) (po_some (pe_op op_add (pv 2) pe_int)) po_none)) (pa_cons (pe_op op_cat (pe_op op_cat (pe_slice sl_list (pv 1) po_none (po_some (pv 2))) (pe_lst (pa_cons pe_int pa_nil))) (pe_slice sl_list (pv 1) (po_some (pe_op op_add (pv 2) pe_int)) po_none)) pa_nil))))))))))
    (pss_cons (ps_for PassesOwn.never rfl (pi_list (pe_op op_cat (pv 4) (pe_lst (pa_cons (pe_lst pa_nil) (pa_cons (pe_tup pa_nil) (pa_cons (pe_lst (pa_cons pe_int pa_nil)) (pa_cons (pe_lst (pa_cons pe_int (pa_cons pe_int pa_nil))) (pa_cons pe_non (pa_cons pe_int (pa_cons pe_int (pa_cons pe_bl (pa_cons pe_str (pa_cons pe_str (pa_cons pe_dnewK (pa_cons (pe_disp (pps_cons pe_int pe_int pps_nil) rfl rfl (by exact fun z => nomatch z) (by decide)) (pa_cons (pe_lst (pa_cons (pe_lst pa_nil) pa_nil)) (pa_cons (pe_lst (pa_cons (pe_lst (pa_cons pe_int pa_nil)) pa_nil)) (pa_cons (pe_lst (pa_cons (pe_op op_pow pe_int pe_int) pa_nil)) (pa_cons (pe_tup (pa_cons pe_int (pa_cons (pe_op op_pow pe_int pe_int) pa_nil))) (pa_cons (pe_op op_rep (pe_lst (pa_cons pe_int pa_nil)) pe_int) (pa_cons (pe_op op_rep (pe_lst (pa_cons pe_int pa_nil)) pe_int) pa_nil))))))))))))))))))))) (pg_name (i := 5) S__law_lines_right.nd rfl (Or.inl rfl))
      (pss_cons (ps_set (i := 6) S__law_lines_right.nd rfl (Or.inl rfl) (pe_callB (call_shown hG (hu64 hr)) (by rfl) T.n_repr (by decide +kernel) (pa_cons (pv 5) pa_nil)))
    (pss_one (ps_if ((pw_or (pt_cmpR op_ne (pe_callB (call_shown hG (hu64 hr)) (by rfl) T.n_repr (by decide +kernel) (pa_cons (pe_lst (pa_cons (pe_u C_is_line hG hr (by decide) (by rfl) pass0 (pa_cons (pv 5) pa_nil)) (pa_cons (pe_uk C_is_line (kw_is_line_value) hG hr (by decide) (by rfl) pass0 (pk_cons (pv 5) pk_nil)) pa_nil))) pa_nil)) (pe_callB (call_shown hG (hu64 hr)) (by rfl) T.n_repr (by decide +kernel) (pa_cons (pe_op op_rep (pe_lst (pa_cons (pe_u C__law_is_line hG hr (by decide) (by rfl) pass0 (pa_cons (pv 5) pa_nil)) pa_nil)) pe_int) pa_nil)) (nomark _)) (pw_or1 (pt_cmpR op_ne (pe_callB (call_shown hG (hu64 hr)) (by rfl) T.n_repr (by decide +kernel) (pa_cons (pv 5) pa_nil)) (pv 6) (nomark _))))).pt
      (pss_one (ps_ret pe_bl))
      pss_nil))))
    (pss_one (ps_ret pe_bl)))))), ?_⟩
  refine ⟨_, rfl, _, rfl, a, _, rfl, hp, (by decide), (by decide), fun H1 n c1 p1 n0 n1 => ?_⟩
  obtain ⟨n, rfl⟩ := Int.eq_ofNat_of_zero_le n0
  refine ⟨a, n, 9, rfl, p1, by omega, by decide, by decide, fun H2 p ns c2 p2 np pa e2 hn hb hl => ?_⟩
  refine ⟨_, rfl, _, rfl, p, _, rfl, .inl (SqL.of e2), a, _, rfl, p2, by rw [List.length_map]; omega, by rw [List.length_map]; omega, fun H3 at' c3 p3 t0 t1 => ?_⟩
  have e3 := c3 _ _ pa e2
  refine ⟨_, rfl, (by show 1 ≤ sizeLine; decide), fun u nu => fun d nd => ⟨(by show 0 ≤ sizeLine; decide), fun t nt => ⟨(by show 7 ≤ sizeLine; decide), fun o no => ?_⟩⟩⟩
  generalize hg : upd _ o _ = H4
  have s3 : Same H3 H4 := by rw [← hg]; exact fun b x e => Same.put no _ _ (Same.put nt _ _ (Same.put nd _ _ (Same.put nu _ _ e)))
  have eu : H4 u = some (.lst [.int 1]) := by rw [← hg]; exact Same.put no _ _ (Same.put nt _ _ (Same.put nd _ _ upd_same))
  have ed : H4 d = some (.dK []) := by rw [← hg]; exact Same.put no _ _ (Same.put nt _ _ upd_same)
  have et : H4 t = some (.tup []) := by rw [← hg]; exact Same.put no _ _ upd_same
  have eo : H4 o = some (.lst [.non, .bl true, .bl false, .str "1", .ref u, .ref d, .ref t]) := by rw [← hg]; exact upd_same
  have pu := Same.pot (Same.put (o := .lst [.int 1]) nu) p3
  have pd := Same.pot (Same.put (o := .dK []) nd) pu
  have pt := Same.pot (Same.put (o := .tup []) nt) pd
  have ua := p3.ne nu
  have da := pu.ne nd
  have ta := pd.ne nt
  have oa := pt.ne no
  clear hg pu pd pt
  refine ⟨a, o, _, rfl, Same.pot s3 p3, oa, SqL.of eo, List.cons_ne_nil _ _, (by show 7 ≤ 1000; decide), fun H5 v c5 p5 hv => ⟨_, _, rfl, ?_⟩⟩
  have e5 : H5 p = some (.lst (ns.map V.int)) := c5 _ _ pa (s3 _ _ e3)
  have ov : OddV K H5 v := by
    simp only [List.mem_cons, List.not_mem_nil, or_false] at hv
    rcases hv with h | h | h | h | h | h | h <;> subst h
    · exact .inl it_non
    · exact .inl (it_bl _)
    · exact .inl (it_bl _)
    · exact .inl it_str1
    · exact .inl (it_lst1 (c5 _ _ ua eu))
    · exact .inr ⟨d, rfl, c5 _ _ da ed⟩
    · exact .inl (it_tup0 (c5 _ _ ta et))
  have sn : ∀ x ∈ ns.map V.int, SI x := si_map fun z hz => by have := hb z hz; omega
  have ln : (ns.map V.int).length ≤ 12 := by rw [List.length_map]; omega
  have cg : Chg a H H5 := fun b x nb e => c5 _ _ nb (s3 _ _ (c3 _ _ nb (c2 _ _ nb (c1 _ _ nb e))))
  have cl : ∀ lo hi, (cutV (ns.map V.int) lo hi).length ≤ 12 := fun lo hi => Nat.le_trans (cutV_length _ lo hi) ln
  have sz : ∀ {m : Nat}, m ≤ 1000 → m ≤ sizeLine := fun h => Nat.le_of_lt (small1000 h)
  -- the eight
  dsimp only
  show tSeq (tAsg (tLst _) _) _ _ _ _
  show tAsg (tLst _) _ _ _ _
  show tLst _ _ _ _
  refine GA.lst (K := K) (n := 8) (ga_cons ?_ (ga_cons ?_ (ga_cons ?_ (ga_cons ?_ (ga_cons ?_ (ga_cons ?_ (ga_cons ?_ (ga_cons ?_ ga_nil)))))))) (by decide) (fun vs H6 r s6 l6 g6 nr => ?_)
  · exact fun K1 s1 Q q => ⟨_, rfl, q _ _ (Same.refl _) (good_si (s1 _ _ e5) sn (by omega))⟩
  · intro K1 s1 Q q
    exact ⟨_, rfl, p, _, rfl, .inl ⟨SqL.of (s1 _ _ e5), fun b nb => q _ _ (Same.put nb) (good_tup upd_same (fun x hx => (sn x hx).it) (by omega))⟩⟩
  · intro K1 s1 Q q
    refine ⟨_, rfl, sz (by first | decide | simp), fun b nb => ?_⟩
    have s2 := Same.put (o := .lst [.int 0]) nb
    refine ⟨p, b, _, _, rfl, rfl, s2 _ _ (s1 _ _ e5), upd_same, sz (by show _ + 1 ≤ 1000; omega), fun c nc => ?_⟩
    exact q _ _ (s2.trans (Same.put nc)) (good_si upd_same (si_app sn (si_one 0 (by decide))) (by rw [List.length_append]; show _ + 1 ≤ 40; omega))
  · intro K1 s1 Q q
    exact ⟨_, rfl, _, rfl, _, rfl, p, _, rfl, SqL.of (s1 _ _ e5), fun b nb => q _ _ (Same.put nb) (good_si upd_same (cut_si sn) (Nat.le_trans (cl _ _) (by decide)))⟩
  · intro K1 s1 Q q
    refine ⟨sz (by first | decide | simp), fun b nb => ?_⟩
    refine ⟨b, 12, _, rfl, rfl, upd_same, (by decide), (by decide), sz (by first | decide | simp), fun c nc => ?_⟩
    refine ⟨_, rfl, _, rfl, _, rfl, p, _, rfl, SqL.of (Same.put nc _ _ (Same.put nb _ _ (s1 _ _ e5))), fun d nd => ?_⟩
    refine ⟨c, d, _, _, rfl, rfl, Same.put nd _ _ upd_same, upd_same, sz (by have := cl (some (-1)) none; show 12 + _ ≤ 1000; omega), fun f nf => ?_⟩
    refine q _ _ (((Same.trans (Same.put nb) (Same.put nc)).trans (Same.put nd)).trans (Same.put nf)) (good_si upd_same (si_app (rep_si (si_one 0 (by decide))) (cut_si sn)) ?_)
    rw [List.length_append]
    have := cl (some (-1)) none
    show 12 + _ ≤ 40
    omega
  · intro K1 s1 Q q
    refine ⟨sz (by first | decide | simp), fun b nb => ?_⟩
    refine ⟨b, 13, _, rfl, rfl, upd_same, (by decide), (by decide), sz (by first | decide | simp), fun c nc => ?_⟩
    refine ⟨_, rfl, _, rfl, _, rfl, p, _, rfl, SqL.of (Same.put nc _ _ (Same.put nb _ _ (s1 _ _ e5))), fun d nd => ?_⟩
    refine ⟨c, d, _, _, rfl, rfl, Same.put nd _ _ upd_same, upd_same, sz (by have := cl (some (-1)) none; show 13 + _ ≤ 1000; omega), fun f nf => ?_⟩
    refine q _ _ (((Same.trans (Same.put nb) (Same.put nc)).trans (Same.put nd)).trans (Same.put nf)) (good_si upd_same (si_app (rep_si (si_one 0 (by decide))) (cut_si sn)) ?_)
    rw [List.length_append]
    have := cl (some (-1)) none
    show 13 + _ ≤ 40
    omega
  · intro K1 s1 Q q
    refine ⟨_, rfl, _, rfl, _, rfl, p, _, rfl, SqL.of (s1 _ _ e5), fun b nb => ?_⟩
    refine ⟨_, rfl, sz (by first | decide | simp), fun c nc => ?_⟩
    refine ⟨b, c, _, _, rfl, rfl, Same.put nc _ _ upd_same, upd_same, sz (by have := cl none (some at'); show _ + 1 ≤ 1000; omega), fun d nd => ?_⟩
    refine ⟨_, rfl, _, rfl, _, _, rfl, rfl, _, rfl, p, _, rfl, SqL.of (Same.put nd _ _ (Same.put nc _ _ (Same.put nb _ _ (s1 _ _ e5)))), fun f nf => ?_⟩
    refine ⟨d, f, _, _, rfl, rfl, Same.put nf _ _ upd_same, upd_same, sz (by
      have h1 := cl none (some at')
      have h2 := cl (some (at' + 1)) none
      rw [List.length_append]
      show _ + 1 + _ ≤ 1000
      omega), fun g ng => ?_⟩
    refine q _ _ ((((Same.trans (Same.put nb) (Same.put nc)).trans (Same.put nd)).trans (Same.put nf)).trans (Same.put ng)) (good_odd upd_same ((((((ov.same s1).same (Same.put nb)).same (Same.put nc)).same (Same.put nd)).same (Same.put nf)).same (Same.put ng)) (cut_si sn) (cut_si sn) ?_)
    have h1 := cl none (some at')
    have h2 := cl (some (at' + 1)) none
    omega
  · intro K1 s1 Q q
    refine ⟨_, rfl, _, rfl, _, rfl, p, _, rfl, SqL.of (s1 _ _ e5), fun b nb => ?_⟩
    refine ⟨ sz (by first | decide | simp), fun c nc => ?_⟩
    refine ⟨b, c, _, _, rfl, rfl, Same.put nc _ _ upd_same, upd_same, sz (by have := cl none (some at'); show _ + 1 ≤ 1000; omega), fun d nd => ?_⟩
    refine ⟨_, rfl, _, rfl, _, _, rfl, rfl, _, rfl, p, _, rfl, SqL.of (Same.put nd _ _ (Same.put nc _ _ (Same.put nb _ _ (s1 _ _ e5)))), fun f nf => ?_⟩
    refine ⟨d, f, _, _, rfl, rfl, Same.put nf _ _ upd_same, upd_same, sz (by
      have h1 := cl none (some at')
      have h2 := cl (some (at' + 1)) none
      rw [List.length_append]
      show _ + 1 + _ ≤ 1000
      omega), fun g ng => ?_⟩
    refine q _ _ ((((Same.trans (Same.put nb) (Same.put nc)).trans (Same.put nd)).trans (Same.put nf)).trans (Same.put ng)) (good_si upd_same (si_app (si_app (cut_si sn) (si_one 0 (by decide))) (cut_si sn)) ?_)
    have h1 := cl none (some at')
    have h2 := cl (some (at' + 1)) none
    rw [List.length_append, List.length_append]
    show _ + 1 + _ ≤ 40
    omega
  -- the others
  refine ⟨_, rfl, ?_⟩
  show tLst _ _ _ _
  have s7 : Same H5 (upd H6 r (.lst vs)) := s6.trans (Same.put nr)
  refine GA.lst (K := K) (n := 18) (ga_cons ?_ (ga_cons ?_ (ga_cons ?_ (ga_cons ?_ (ga_cons ?_ (ga_cons ?_ (ga_cons ?_ (ga_cons ?_ (ga_cons ?_ (ga_cons ?_ (ga_cons ?_ (ga_cons ?_ (ga_cons ?_ (ga_cons ?_ (ga_cons ?_ (ga_cons ?_ (ga_cons ?_ (ga_cons ?_ ga_nil)))))))))))))))))) (by decide) (fun ws H8 t8 s8 l8 g8 n8 => ?_)
  · exact fun K1 s1 Q q => ⟨sz (by first | decide | simp), fun b nb => q _ _ (Same.put nb) (good_lst upd_same (fun x h => nomatch h) (by decide))⟩
  · exact fun K1 s1 Q q => ⟨sz (by first | decide | simp), fun b nb => q _ _ (Same.put nb) (good_tup upd_same (fun x h => nomatch h) (by decide))⟩
  · exact fun K1 s1 Q q => ⟨sz (by first | decide | simp), fun b nb => q _ _ (Same.put nb) (good_si upd_same (si_one 0 (by decide)) (by decide))⟩
  · exact fun K1 s1 Q q => ⟨sz (by first | decide | simp), fun b nb => q _ _ (Same.put nb) (good_si upd_same (si_app (si_one 0 (by decide)) (si_one 0 (by decide))) (by decide))⟩
  · exact fun K1 s1 Q q => q _ _ (Same.refl _) (good_sc .non rfl .non)
  · exact fun K1 s1 Q q => q _ _ (Same.refl _) (good_sc (.int 0) rfl (.int 0 (by decide)))
  · exact fun K1 s1 Q q => q _ _ (Same.refl _) (good_sc (.int 5) rfl (.int 5 (by decide)))
  · exact fun K1 s1 Q q => q _ _ (Same.refl _) (good_sc (.bl true) rfl (.bl true))
  · exact fun K1 s1 Q q => q _ _ (Same.refl _) (good_sc (.str "") rfl (.str "" (by decide +kernel)))
  · exact fun K1 s1 Q q => q _ _ (Same.refl _) (good_sc (.str "7") rfl (.str "7" (by decide +kernel)))
  · exact fun K1 s1 Q q => fun b nb => q _ _ (Same.put nb) (good_sc (.dct upd_same) rfl (.d0 upd_same))
  · intro K1 s1 Q q b nb
    refine ⟨upd_same, [(.inl 0, .int 1)], rfl, by decide, ?_⟩
    rw [upd_upd]
    exact q _ _ (Same.put nb) (good_sc (.dct upd_same) rfl (.d1 0 1 upd_same ⟨by decide, by decide⟩ (by decide +kernel)))
  · exact fun K1 s1 Q q => ⟨sz (by first | decide | simp), fun b nb => ⟨sz (by first | decide | simp), fun c nc => q _ _ (Same.trans (Same.put nb) (Same.put nc)) (good_lst upd_same (fun x hx => by
      have e : x = .ref b := by simpa using hx
      rw [e]; exact it_lst0 (Same.put nc _ _ upd_same)) (by simp))⟩⟩
  · exact fun K1 s1 Q q => ⟨sz (by first | decide | simp), fun b nb => ⟨sz (by first | decide | simp), fun c nc => q _ _ (Same.trans (Same.put nb) (Same.put nc)) (good_lst upd_same (fun x hx => by
      have e : x = .ref b := by simpa using hx
      rw [e]; exact it_lst1 (Same.put nc _ _ upd_same)) (by simp))⟩⟩
  · intro K1 s1 Q q
    refine ⟨_, _, rfl, rfl, ⟨by decide, by decide, by decide⟩, sz (by first | decide | simp), fun b nb => q _ _ (Same.put nb) ⟨_, _, .lst upd_same (fun x hx => ?_) (by decide), .dat (d := .list [.int (10 ^ (25 : Int).toNat)]) (.lst (SqL.of upd_same) (.cons (.int _) .nil)) (by decide +kernel) (by decide +kernel) (by decide +kernel) (by decide +kernel)⟩⟩
    have e : x = .int (10 ^ (25 : Int).toNat) := by simpa using hx
    rw [e]; exact ⟨_, .int _⟩
  · intro K1 s1 Q q
    refine ⟨_, _, rfl, rfl, ⟨by decide, by decide, by decide⟩, sz (by first | decide | simp), fun b nb => q _ _ (Same.put nb) ⟨_, _, .tup upd_same (fun x hx => ?_) (by decide), .dat (d := .tuple [.int 0, .int (10 ^ (25 : Int).toNat)]) (.tup (SqT.of upd_same) (.cons (.int _) (.cons (.int _) .nil))) (by decide +kernel) (by decide +kernel) (by decide +kernel) (by decide +kernel)⟩⟩
    rcases List.mem_cons.mp hx with e | hx
    · rw [e]; exact ⟨_, .int _⟩
    · have e : x = .int (10 ^ (25 : Int).toNat) := by simpa using hx
      rw [e]; exact ⟨_, .int _⟩
  · intro K1 s1 Q q
    exact ⟨sz (by first | decide | simp), fun b nb => ⟨b, 13, _, rfl, rfl, upd_same, (by decide), (by decide), sz (by first | decide | simp), fun c nc => q _ _ (Same.trans (Same.put nb) (Same.put nc)) (good_si upd_same (rep_si (si_one 1 (by decide))) (by decide))⟩⟩
  · intro K1 s1 Q q
    exact ⟨sz (by first | decide | simp), fun b nb => ⟨b, 14, _, rfl, rfl, upd_same, (by decide), (by decide), sz (by first | decide | simp), fun c nc => q _ _ (Same.trans (Same.put nb) (Same.put nc)) (good_si upd_same (rep_si (si_one 1 (by decide))) (by decide))⟩⟩
  have s9 : Same H8 (upd H8 t8 (.lst ws)) := Same.put n8
  have er : upd H8 t8 (.lst ws) r = some (.lst vs) := s9 _ _ (s8 _ _ upd_same)
  refine ⟨r, t8, vs, ws, rfl, rfl, er, upd_same, sz (by omega), fun z nz => ⟨z, rfl, ⟨_, SqL.of upd_same⟩, ?_⟩⟩
  have sA : Same H5 (upd (upd H8 t8 (.lst ws)) z (.lst (vs ++ ws))) := ((s7.trans s8).trans s9).trans (Same.put nz)
  have gA : ∀ v ∈ vs ++ ws, Good K (upd (upd H8 t8 (.lst ws)) z (.lst (vs ++ ws))) v := by
    intro v hv
    rcases List.mem_append.mp hv with hv | hv
    · exact ((((g6 v hv).same (Same.put nr)).same s8).same s9).same (Same.put nz)
    · exact ((g8 v hv).same s9).same (Same.put nz)
  refine for_list (xs := vs ++ ws) (fun i σ H' => ∃ y5 y6 : Option V, σ = [some (.ref a), some (.ref p), some (.int at'), some v, some (.ref r), y5, y6] ∧
    Same (upd (upd H8 t8 (.lst ws)) z (.lst (vs ++ ws))) H') ⟨none, none, rfl, Same.refl _⟩ (fun i σ H' _ ⟨_, _, _, s2⟩ => s2.seq (SqL.of upd_same)) ?_ ?_
  · rintro i x σ H' hx ⟨y5, y6, rfl, s2⟩
    obtain ⟨b, t, hval, hsh⟩ := (gA x (List.mem_of_getElem? hx)).same s2
    refine ⟨_, rfl, x, t, rfl, hsh, ?_⟩
    refine ⟨_, rfl, x, b, rfl, hval, fun Ha sa => ⟨_, rfl, x, b, rfl, hval.same sa, fun Hb sb => ⟨sz (by first | decide | simp), fun t1 m1 => ?_⟩⟩⟩
    refine ⟨_, _, rfl, sh_bools b b upd_same, ?_⟩
    have sc := (sa.trans sb).trans (Same.put (o := .lst [.bl b, .bl b]) m1)
    refine ⟨_, rfl, x, b, rfl, hval.same sc, fun Hc sd => ⟨sz (by first | decide | simp), fun t2 m2 => ?_⟩⟩
    refine ⟨t2, 2, _, rfl, rfl, upd_same, (by decide), (by decide), sz (by first | decide | simp), fun t3 m3 => ?_⟩
    refine ⟨_, _, rfl, sh_bools b b upd_same, rfl, _, rfl, ifF (by simp) ?_⟩
    have sE := ((sc.trans sd).trans (Same.put (o := .lst [.bl b]) m2)).trans (Same.put (o := .lst [.bl b, .bl b]) m3)
    refine ⟨_, rfl, x, t, rfl, hsh.same sE, _, rfl, rfl, _, rfl, ifF (by simp) ?_⟩
    exact ⟨_, _, rfl, s2.trans sE⟩
  · rintro σ H' ⟨y5, y6, rfl, s2⟩
    exact q H' (fun b x nb e => s2 _ _ (sA _ _ (cg _ _ nb e))) (Same.pot s2 (Same.pot sA p5))
theorem ok__law_right {P : Program} {w : World} {K : PySem.W.Frag}
    {mg : Str → Option Value} {base : Heap} (T : Top K mg)
    (C__law_greatest_right : Cl P w K mg base CX0 4 "_law_greatest_right" s__law_greatest_right ["_law_pot_here"] (spHolds))
    (C__law_lines_right : Cl P w K mg base CX0 4 "_law_lines_right" s__law_lines_right ["_law_pot_here"] (spHolds))
    (C__law_primes_right : Cl P w K mg base CX0 3 "_law_primes_right" s__law_primes_right ["_law_pot_here"] (spHolds))
    (C_greatest : Cl P w K mg base CX0 3 "greatest" s_greatest ["number", "other"] (spGreatest)) :
    Cl P w K mg base CX0 5 "_law_right" s__law_right ["_law_pot_here"] (spHolds) := by
  refine T.d__law_right.cl fun f fd F => body_0 F S__law_right (fun vs H Q E h => by obtain ⟨_, rfl, _⟩ := h; rfl) ?_
  intro cdv A out s H vs Q E hG hr h
  obtain ⟨a, rfl, hp, q⟩ := h
  refine ⟨_, (pss_one (ps_ret (pe_and (pe_u C__law_lines_right hG hr (by decide) (by rfl) pass0 (pa_cons (pv 0) pa_nil)) (pe_and (pe_u C__law_primes_right hG hr (by decide) (by rfl) pass0 (pa_cons (pv 0) pa_nil)) (pe_and (pe_u C__law_greatest_right hG hr (by decide) (by rfl) pass0 (pa_cons (pv 0) pa_nil)) (pe_and (pe_cmpR op_eq (pe_u C_greatest hG hr (by decide) (by rfl) pass0 (pa_cons pe_int (pa_cons (pe_un un_neg pe_int) pa_nil))) pe_int (nomark _)) (pe_one (pe_cmpR op_eq (pe_u C_greatest hG hr (by decide) (by rfl) pass0 (pa_cons pe_int (pa_cons pe_int pa_nil))) pe_int (nomark _))))))))), ?_⟩
  refine ⟨_, rfl, a, rfl, hp, fun H1 c1 p1 => ⟨_, rfl, ifT rfl ?_⟩⟩
  refine ⟨_, rfl, a, rfl, p1, fun H2 c2 p2 => ⟨_, rfl, ifT rfl ?_⟩⟩
  refine ⟨_, rfl, a, rfl, p2, fun H3 c3 p3 => ⟨_, rfl, ifT rfl ?_⟩⟩
  refine ⟨_, rfl, _, _, rfl, rfl, _, rfl, ifT (by decide) ?_⟩
  refine ⟨_, _, rfl, rfl, ?_⟩
  have e : (!decide ((Nat.gcd (0 : Int).natAbs (0 : Int).natAbs : Nat) = (0 : Nat))) = false := by decide
  exact q H3 (fun b o n z => c3 _ _ n (c2 _ _ n (c1 _ _ n z))) p3
theorem fn_law {P : Program} {w : World} {K : PySem.W.Frag}
    {mg : Str → Option Value} {base : Heap} (T : Top K mg)
    (C__law_pot : Cl P w K mg base CX0 1 "_law_pot" s__law_pot ["_law_script", "_law_k"] (spPot K))
    (C__law_right : Cl P w K mg base CX0 5 "_law_right" s__law_right ["_law_pot_here"] (spHolds))
    {f : Addr} {fd : FuncData} (F : Fun K "law" "law" s_law f fd) :
    FnG P w K mg base CX0 6 f fd ["_law_script"] (spLaw K) := by
  refine body_0 F S_law (fun vs H Q E h => by obtain ⟨_, _, rfl, _⟩ := h; rfl) ?_
  intro cdv A out s H vs Q E hG hr h
  obtain ⟨a, ns, rfl, hS, hl, q⟩ := h
  refine ⟨_, (pss_one (ps_ret (pe_u C__law_right hG hr (by decide) (by rfl) pass0 (pa_cons (pe_u C__law_pot hG hr (by decide) (by rfl) pass0 (pa_cons (pv 0) (pa_cons pe_int pa_nil))) pa_nil)))), ?_⟩
  exact ⟨_, rfl, a, ns, 0, rfl, hS, by decide, by decide, fun H1 p s np pp => ⟨p, rfl, pp, fun H2 _ _ => q H2⟩⟩
/-- what the head leaves, told -/
theorem top_mk {K : PySem.W.Frag} {h : Heap} {mg : Str → Option Value} (X : K.In h) (G : h.Ns mainGlobals mg)
    {f__law_pot : Addr} {od__law_pot an__law_pot : Option Addr} {sl__law_pot : Array (Option Value)} {oc__law_pot kV__law_pot dc__law_pot pm__law_pot cd__law_pot ct__law_pot : Value}
    {f__law_draw : Addr} {od__law_draw an__law_draw : Option Addr} {sl__law_draw : Array (Option Value)} {oc__law_draw kV__law_draw dc__law_draw pm__law_draw cd__law_draw ct__law_draw : Value}
    {f__law_pick : Addr} {od__law_pick an__law_pick : Option Addr} {sl__law_pick : Array (Option Value)} {oc__law_pick kV__law_pick dc__law_pick pm__law_pick cd__law_pick ct__law_pick : Value}
    {f__law_line : Addr} {od__law_line an__law_line : Option Addr} {sl__law_line : Array (Option Value)} {oc__law_line kV__law_line dc__law_line pm__law_line cd__law_line ct__law_line : Value}
    {f_is_integer : Addr} {od_is_integer an_is_integer : Option Addr} {sl_is_integer : Array (Option Value)} {oc_is_integer kV_is_integer dc_is_integer pm_is_integer cd_is_integer ct_is_integer : Value}
    {f__law_is_integer : Addr} {od__law_is_integer an__law_is_integer : Option Addr} {sl__law_is_integer : Array (Option Value)} {oc__law_is_integer kV__law_is_integer dc__law_is_integer pm__law_is_integer cd__law_is_integer ct__law_is_integer : Value}
    {f_is_list : Addr} {od_is_list an_is_list : Option Addr} {sl_is_list : Array (Option Value)} {oc_is_list kV_is_list dc_is_list pm_is_list cd_is_list ct_is_list : Value}
    {f_check_number : Addr} {od_check_number an_check_number : Option Addr} {sl_check_number : Array (Option Value)} {oc_check_number kV_check_number dc_check_number pm_check_number cd_check_number ct_check_number : Value}
    {f_greatest : Addr} {od_greatest an_greatest : Option Addr} {sl_greatest : Array (Option Value)} {oc_greatest kV_greatest dc_greatest pm_greatest cd_greatest ct_greatest : Value}
    {f_is_prime : Addr} {od_is_prime an_is_prime : Option Addr} {sl_is_prime : Array (Option Value)} {oc_is_prime kV_is_prime dc_is_prime pm_is_prime cd_is_prime ct_is_prime : Value}
    {f__law_is_prime : Addr} {od__law_is_prime an__law_is_prime : Option Addr} {sl__law_is_prime : Array (Option Value)} {oc__law_is_prime kV__law_is_prime dc__law_is_prime pm__law_is_prime cd__law_is_prime ct__law_is_prime : Value}
    {f_is_line : Addr} {od_is_line an_is_line : Option Addr} {sl_is_line : Array (Option Value)} {oc_is_line kV_is_line dc_is_line pm_is_line cd_is_line ct_is_line : Value}
    {f__law_is_line : Addr} {od__law_is_line an__law_is_line : Option Addr} {sl__law_is_line : Array (Option Value)} {oc__law_is_line kV__law_is_line dc__law_is_line pm__law_is_line cd__law_is_line ct__law_is_line : Value}
    {f__law_mixed : Addr} {od__law_mixed an__law_mixed : Option Addr} {sl__law_mixed : Array (Option Value)} {oc__law_mixed kV__law_mixed dc__law_mixed pm__law_mixed cd__law_mixed ct__law_mixed : Value}
    {f__law_greatest_right : Addr} {od__law_greatest_right an__law_greatest_right : Option Addr} {sl__law_greatest_right : Array (Option Value)} {oc__law_greatest_right kV__law_greatest_right dc__law_greatest_right pm__law_greatest_right cd__law_greatest_right ct__law_greatest_right : Value}
    {f__law_primes_right : Addr} {od__law_primes_right an__law_primes_right : Option Addr} {sl__law_primes_right : Array (Option Value)} {oc__law_primes_right kV__law_primes_right dc__law_primes_right pm__law_primes_right cd__law_primes_right ct__law_primes_right : Value}
    {f__law_lines_right : Addr} {od__law_lines_right an__law_lines_right : Option Addr} {sl__law_lines_right : Array (Option Value)} {oc__law_lines_right kV__law_lines_right dc__law_lines_right pm__law_lines_right cd__law_lines_right ct__law_lines_right : Value}
    {f__law_right : Addr} {od__law_right an__law_right : Option Addr} {sl__law_right : Array (Option Value)} {oc__law_right kV__law_right dc__law_right pm__law_right cd__law_right ct__law_right : Value}
    {f_law : Addr} {od_law an_law : Option Addr} {sl_law : Array (Option Value)} {oc_law kV_law dc_law pm_law cd_law ct_law : Value}
    {t_LINE_DEGREE : Tok}
    {t_PRIMES_END : Tok}
    (a__law_pot : PySem.W.nsIn K mainGlobals "_law_pot" = some (some (.ref f__law_pot)))
    (l__law_pot : K.lookup f__law_pot = some ⟨oc__law_pot, od__law_pot, .func (PySem.W.fnOf "_law_pot" "_law_pot" (defArgs s__law_pot) (defBody s__law_pot) (defScope s__law_pot) .none kV__law_pot dc__law_pot pm__law_pot an__law_pot cd__law_pot ct__law_pot), sl__law_pot⟩)
    (c__law_pot : PySem.W.codeIn K cd__law_pot "_law_pot" = true)
    (k__law_pot : PySem.W.keepIn K (.ref f__law_pot) = true)
    (a__law_draw : PySem.W.nsIn K mainGlobals "_law_draw" = some (some (.ref f__law_draw)))
    (l__law_draw : K.lookup f__law_draw = some ⟨oc__law_draw, od__law_draw, .func (PySem.W.fnOf "_law_draw" "_law_draw" (defArgs s__law_draw) (defBody s__law_draw) (defScope s__law_draw) .none kV__law_draw dc__law_draw pm__law_draw an__law_draw cd__law_draw ct__law_draw), sl__law_draw⟩)
    (c__law_draw : PySem.W.codeIn K cd__law_draw "_law_draw" = true)
    (k__law_draw : PySem.W.keepIn K (.ref f__law_draw) = true)
    (a__law_pick : PySem.W.nsIn K mainGlobals "_law_pick" = some (some (.ref f__law_pick)))
    (l__law_pick : K.lookup f__law_pick = some ⟨oc__law_pick, od__law_pick, .func (PySem.W.fnOf "_law_pick" "_law_pick" (defArgs s__law_pick) (defBody s__law_pick) (defScope s__law_pick) .none kV__law_pick dc__law_pick pm__law_pick an__law_pick cd__law_pick ct__law_pick), sl__law_pick⟩)
    (c__law_pick : PySem.W.codeIn K cd__law_pick "_law_pick" = true)
    (k__law_pick : PySem.W.keepIn K (.ref f__law_pick) = true)
    (a__law_line : PySem.W.nsIn K mainGlobals "_law_line" = some (some (.ref f__law_line)))
    (l__law_line : K.lookup f__law_line = some ⟨oc__law_line, od__law_line, .func (PySem.W.fnOf "_law_line" "_law_line" (defArgs s__law_line) (defBody s__law_line) (defScope s__law_line) .none kV__law_line dc__law_line pm__law_line an__law_line cd__law_line ct__law_line), sl__law_line⟩)
    (c__law_line : PySem.W.codeIn K cd__law_line "_law_line" = true)
    (k__law_line : PySem.W.keepIn K (.ref f__law_line) = true)
    (a_is_integer : PySem.W.nsIn K mainGlobals "is_integer" = some (some (.ref f_is_integer)))
    (l_is_integer : K.lookup f_is_integer = some ⟨oc_is_integer, od_is_integer, .func (PySem.W.fnOf "is_integer" "is_integer" (defArgs s_is_integer) (defBody s_is_integer) (defScope s_is_integer) .none kV_is_integer dc_is_integer pm_is_integer an_is_integer cd_is_integer ct_is_integer), sl_is_integer⟩)
    (c_is_integer : PySem.W.codeIn K cd_is_integer "is_integer" = true)
    (k_is_integer : PySem.W.keepIn K (.ref f_is_integer) = true)
    (a__law_is_integer : PySem.W.nsIn K mainGlobals "_law_is_integer" = some (some (.ref f__law_is_integer)))
    (l__law_is_integer : K.lookup f__law_is_integer = some ⟨oc__law_is_integer, od__law_is_integer, .func (PySem.W.fnOf "_law_is_integer" "_law_is_integer" (defArgs s__law_is_integer) (defBody s__law_is_integer) (defScope s__law_is_integer) .none kV__law_is_integer dc__law_is_integer pm__law_is_integer an__law_is_integer cd__law_is_integer ct__law_is_integer), sl__law_is_integer⟩)
    (c__law_is_integer : PySem.W.codeIn K cd__law_is_integer "_law_is_integer" = true)
    (k__law_is_integer : PySem.W.keepIn K (.ref f__law_is_integer) = true)
    (a_is_list : PySem.W.nsIn K mainGlobals "is_list" = some (some (.ref f_is_list)))
    (l_is_list : K.lookup f_is_list = some ⟨oc_is_list, od_is_list, .func (PySem.W.fnOf "is_list" "is_list" (defArgs s_is_list) (defBody s_is_list) (defScope s_is_list) .none kV_is_list dc_is_list pm_is_list an_is_list cd_is_list ct_is_list), sl_is_list⟩)
    (c_is_list : PySem.W.codeIn K cd_is_list "is_list" = true)
    (k_is_list : PySem.W.keepIn K (.ref f_is_list) = true)
    (a_check_number : PySem.W.nsIn K mainGlobals "check_number" = some (some (.ref f_check_number)))
    (l_check_number : K.lookup f_check_number = some ⟨oc_check_number, od_check_number, .func (PySem.W.fnOf "check_number" "check_number" (defArgs s_check_number) (defBody s_check_number) (defScope s_check_number) .none kV_check_number dc_check_number pm_check_number an_check_number cd_check_number ct_check_number), sl_check_number⟩)
    (c_check_number : PySem.W.codeIn K cd_check_number "check_number" = true)
    (k_check_number : PySem.W.keepIn K (.ref f_check_number) = true)
    (a_greatest : PySem.W.nsIn K mainGlobals "greatest" = some (some (.ref f_greatest)))
    (l_greatest : K.lookup f_greatest = some ⟨oc_greatest, od_greatest, .func (PySem.W.fnOf "greatest" "greatest" (defArgs s_greatest) (defBody s_greatest) (defScope s_greatest) .none kV_greatest dc_greatest pm_greatest an_greatest cd_greatest ct_greatest), sl_greatest⟩)
    (c_greatest : PySem.W.codeIn K cd_greatest "greatest" = true)
    (k_greatest : PySem.W.keepIn K (.ref f_greatest) = true)
    (a_is_prime : PySem.W.nsIn K mainGlobals "is_prime" = some (some (.ref f_is_prime)))
    (l_is_prime : K.lookup f_is_prime = some ⟨oc_is_prime, od_is_prime, .func (PySem.W.fnOf "is_prime" "is_prime" (defArgs s_is_prime) (defBody s_is_prime) (defScope s_is_prime) .none kV_is_prime dc_is_prime pm_is_prime an_is_prime cd_is_prime ct_is_prime), sl_is_prime⟩)
    (c_is_prime : PySem.W.codeIn K cd_is_prime "is_prime" = true)
    (k_is_prime : PySem.W.keepIn K (.ref f_is_prime) = true)
    (a__law_is_prime : PySem.W.nsIn K mainGlobals "_law_is_prime" = some (some (.ref f__law_is_prime)))
    (l__law_is_prime : K.lookup f__law_is_prime = some ⟨oc__law_is_prime, od__law_is_prime, .func (PySem.W.fnOf "_law_is_prime" "_law_is_prime" (defArgs s__law_is_prime) (defBody s__law_is_prime) (defScope s__law_is_prime) .none kV__law_is_prime dc__law_is_prime pm__law_is_prime an__law_is_prime cd__law_is_prime ct__law_is_prime), sl__law_is_prime⟩)
    (c__law_is_prime : PySem.W.codeIn K cd__law_is_prime "_law_is_prime" = true)
    (k__law_is_prime : PySem.W.keepIn K (.ref f__law_is_prime) = true)
    (a_is_line : PySem.W.nsIn K mainGlobals "is_line" = some (some (.ref f_is_line)))
    (l_is_line : K.lookup f_is_line = some ⟨oc_is_line, od_is_line, .func (PySem.W.fnOf "is_line" "is_line" (defArgs s_is_line) (defBody s_is_line) (defScope s_is_line) .none kV_is_line dc_is_line pm_is_line an_is_line cd_is_line ct_is_line), sl_is_line⟩)
    (c_is_line : PySem.W.codeIn K cd_is_line "is_line" = true)
    (k_is_line : PySem.W.keepIn K (.ref f_is_line) = true)
    (a__law_is_line : PySem.W.nsIn K mainGlobals "_law_is_line" = some (some (.ref f__law_is_line)))
    (l__law_is_line : K.lookup f__law_is_line = some ⟨oc__law_is_line, od__law_is_line, .func (PySem.W.fnOf "_law_is_line" "_law_is_line" (defArgs s__law_is_line) (defBody s__law_is_line) (defScope s__law_is_line) .none kV__law_is_line dc__law_is_line pm__law_is_line an__law_is_line cd__law_is_line ct__law_is_line), sl__law_is_line⟩)
    (c__law_is_line : PySem.W.codeIn K cd__law_is_line "_law_is_line" = true)
    (k__law_is_line : PySem.W.keepIn K (.ref f__law_is_line) = true)
    (a__law_mixed : PySem.W.nsIn K mainGlobals "_law_mixed" = some (some (.ref f__law_mixed)))
    (l__law_mixed : K.lookup f__law_mixed = some ⟨oc__law_mixed, od__law_mixed, .func (PySem.W.fnOf "_law_mixed" "_law_mixed" (defArgs s__law_mixed) (defBody s__law_mixed) (defScope s__law_mixed) .none kV__law_mixed dc__law_mixed pm__law_mixed an__law_mixed cd__law_mixed ct__law_mixed), sl__law_mixed⟩)
    (c__law_mixed : PySem.W.codeIn K cd__law_mixed "_law_mixed" = true)
    (k__law_mixed : PySem.W.keepIn K (.ref f__law_mixed) = true)
    (a__law_greatest_right : PySem.W.nsIn K mainGlobals "_law_greatest_right" = some (some (.ref f__law_greatest_right)))
    (l__law_greatest_right : K.lookup f__law_greatest_right = some ⟨oc__law_greatest_right, od__law_greatest_right, .func (PySem.W.fnOf "_law_greatest_right" "_law_greatest_right" (defArgs s__law_greatest_right) (defBody s__law_greatest_right) (defScope s__law_greatest_right) .none kV__law_greatest_right dc__law_greatest_right pm__law_greatest_right an__law_greatest_right cd__law_greatest_right ct__law_greatest_right), sl__law_greatest_right⟩)
    (c__law_greatest_right : PySem.W.codeIn K cd__law_greatest_right "_law_greatest_right" = true)
    (k__law_greatest_right : PySem.W.keepIn K (.ref f__law_greatest_right) = true)
    (a__law_primes_right : PySem.W.nsIn K mainGlobals "_law_primes_right" = some (some (.ref f__law_primes_right)))
    (l__law_primes_right : K.lookup f__law_primes_right = some ⟨oc__law_primes_right, od__law_primes_right, .func (PySem.W.fnOf "_law_primes_right" "_law_primes_right" (defArgs s__law_primes_right) (defBody s__law_primes_right) (defScope s__law_primes_right) .none kV__law_primes_right dc__law_primes_right pm__law_primes_right an__law_primes_right cd__law_primes_right ct__law_primes_right), sl__law_primes_right⟩)
    (c__law_primes_right : PySem.W.codeIn K cd__law_primes_right "_law_primes_right" = true)
    (k__law_primes_right : PySem.W.keepIn K (.ref f__law_primes_right) = true)
    (a__law_lines_right : PySem.W.nsIn K mainGlobals "_law_lines_right" = some (some (.ref f__law_lines_right)))
    (l__law_lines_right : K.lookup f__law_lines_right = some ⟨oc__law_lines_right, od__law_lines_right, .func (PySem.W.fnOf "_law_lines_right" "_law_lines_right" (defArgs s__law_lines_right) (defBody s__law_lines_right) (defScope s__law_lines_right) .none kV__law_lines_right dc__law_lines_right pm__law_lines_right an__law_lines_right cd__law_lines_right ct__law_lines_right), sl__law_lines_right⟩)
    (c__law_lines_right : PySem.W.codeIn K cd__law_lines_right "_law_lines_right" = true)
    (k__law_lines_right : PySem.W.keepIn K (.ref f__law_lines_right) = true)
    (a__law_right : PySem.W.nsIn K mainGlobals "_law_right" = some (some (.ref f__law_right)))
    (l__law_right : K.lookup f__law_right = some ⟨oc__law_right, od__law_right, .func (PySem.W.fnOf "_law_right" "_law_right" (defArgs s__law_right) (defBody s__law_right) (defScope s__law_right) .none kV__law_right dc__law_right pm__law_right an__law_right cd__law_right ct__law_right), sl__law_right⟩)
    (c__law_right : PySem.W.codeIn K cd__law_right "_law_right" = true)
    (k__law_right : PySem.W.keepIn K (.ref f__law_right) = true)
    (a_law : PySem.W.nsIn K mainGlobals "law" = some (some (.ref f_law)))
    (l_law : K.lookup f_law = some ⟨oc_law, od_law, .func (PySem.W.fnOf "law" "law" (defArgs s_law) (defBody s_law) (defScope s_law) .none kV_law dc_law pm_law an_law cd_law ct_law), sl_law⟩)
    (c_law : PySem.W.codeIn K cd_law "law" = true)
    (k_law : PySem.W.keepIn K (.ref f_law) = true)
    (z_abs : PySem.W.nsIn K mainGlobals "abs" = some none)
    (z_all : PySem.W.nsIn K mainGlobals "all" = some none)
    (z_bool : PySem.W.nsIn K mainGlobals "bool" = some none)
    (z_LINE_DEGREE : PySem.W.nsIn K mainGlobals "LINE_DEGREE" = some (some (.int 12 t_LINE_DEGREE)))
    (z_PRIMES_END : PySem.W.nsIn K mainGlobals "PRIMES_END" = some (some (.int 10000 t_PRIMES_END)))
    (z_divmod : PySem.W.nsIn K mainGlobals "divmod" = some none)
    (z_int : PySem.W.nsIn K mainGlobals "int" = some none)
    (z_isinstance : PySem.W.nsIn K mainGlobals "isinstance" = some none)
    (z_len : PySem.W.nsIn K mainGlobals "len" = some none)
    (z_list : PySem.W.nsIn K mainGlobals "list" = some none)
    (z_gcd : PySem.W.nsIn K mainGlobals "gcd" = some (some (.builtin "math.gcd")))
    (z_max : PySem.W.nsIn K mainGlobals "max" = some none)
    (z_range : PySem.W.nsIn K mainGlobals "range" = some none)
    (z_repr : PySem.W.nsIn K mainGlobals "repr" = some none)
    (z_tuple : PySem.W.nsIn K mainGlobals "tuple" = some none)
    (z_zip : PySem.W.nsIn K mainGlobals "zip" = some none) :
    Top K mg where
  d__law_pot := ⟨_, _, fun_mk l__law_pot c__law_pot k__law_pot, PySem.W.mg_of X G a__law_pot, (fun_mk l__law_pot c__law_pot k__law_pot).binds (ps := ["_law_script", "_law_k"]) fun _ _ _ _ _ _ us hl => match us, hl with | [_, _], _ => rfl⟩
  d__law_draw := ⟨_, _, fun_mk l__law_draw c__law_draw k__law_draw, PySem.W.mg_of X G a__law_draw, (fun_mk l__law_draw c__law_draw k__law_draw).binds (ps := ["_law_pot_here", "_law_many"]) fun _ _ _ _ _ _ us hl => match us, hl with | [_, _], _ => rfl⟩
  d__law_pick := ⟨_, _, fun_mk l__law_pick c__law_pick k__law_pick, PySem.W.mg_of X G a__law_pick, (fun_mk l__law_pick c__law_pick k__law_pick).binds (ps := ["_law_pot_here", "_law_some"]) fun _ _ _ _ _ _ us hl => match us, hl with | [_, _], _ => rfl⟩
  d__law_line := ⟨_, _, fun_mk l__law_line c__law_line k__law_line, PySem.W.mg_of X G a__law_line, (fun_mk l__law_line c__law_line k__law_line).binds (ps := ["_law_pot_here", "_law_most", "_law_wide"]) fun _ _ _ _ _ _ us hl => match us, hl with | [_, _, _], _ => rfl⟩
  d_is_integer := ⟨_, _, fun_mk l_is_integer c_is_integer k_is_integer, PySem.W.mg_of X G a_is_integer, (fun_mk l_is_integer c_is_integer k_is_integer).binds (ps := ["value"]) fun _ _ _ _ _ _ us hl => match us, hl with | [_], _ => rfl⟩
  d__law_is_integer := ⟨_, _, fun_mk l__law_is_integer c__law_is_integer k__law_is_integer, PySem.W.mg_of X G a__law_is_integer, (fun_mk l__law_is_integer c__law_is_integer k__law_is_integer).binds (ps := ["_law_value"]) fun _ _ _ _ _ _ us hl => match us, hl with | [_], _ => rfl⟩
  d_is_list := ⟨_, _, fun_mk l_is_list c_is_list k_is_list, PySem.W.mg_of X G a_is_list, (fun_mk l_is_list c_is_list k_is_list).binds (ps := ["value"]) fun _ _ _ _ _ _ us hl => match us, hl with | [_], _ => rfl⟩
  d_check_number := ⟨_, _, fun_mk l_check_number c_check_number k_check_number, PySem.W.mg_of X G a_check_number, (fun_mk l_check_number c_check_number k_check_number).binds (ps := ["number"]) fun _ _ _ _ _ _ us hl => match us, hl with | [_], _ => rfl⟩
  d_greatest := ⟨_, _, fun_mk l_greatest c_greatest k_greatest, PySem.W.mg_of X G a_greatest, (fun_mk l_greatest c_greatest k_greatest).binds (ps := ["number", "other"]) fun _ _ _ _ _ _ us hl => match us, hl with | [_, _], _ => rfl⟩
  d_is_prime := ⟨_, _, fun_mk l_is_prime c_is_prime k_is_prime, PySem.W.mg_of X G a_is_prime, (fun_mk l_is_prime c_is_prime k_is_prime).binds (ps := ["value"]) fun _ _ _ _ _ _ us hl => match us, hl with | [_], _ => rfl⟩
  d__law_is_prime := ⟨_, _, fun_mk l__law_is_prime c__law_is_prime k__law_is_prime, PySem.W.mg_of X G a__law_is_prime, (fun_mk l__law_is_prime c__law_is_prime k__law_is_prime).binds (ps := ["_law_value"]) fun _ _ _ _ _ _ us hl => match us, hl with | [_], _ => rfl⟩
  d_is_line := ⟨_, _, fun_mk l_is_line c_is_line k_is_line, PySem.W.mg_of X G a_is_line, (fun_mk l_is_line c_is_line k_is_line).binds (ps := ["value"]) fun _ _ _ _ _ _ us hl => match us, hl with | [_], _ => rfl⟩
  d__law_is_line := ⟨_, _, fun_mk l__law_is_line c__law_is_line k__law_is_line, PySem.W.mg_of X G a__law_is_line, (fun_mk l__law_is_line c__law_is_line k__law_is_line).binds (ps := ["_law_value"]) fun _ _ _ _ _ _ us hl => match us, hl with | [_], _ => rfl⟩
  d__law_mixed := ⟨_, _, fun_mk l__law_mixed c__law_mixed k__law_mixed, PySem.W.mg_of X G a__law_mixed, (fun_mk l__law_mixed c__law_mixed k__law_mixed).binds (ps := ["_law_one", "_law_other"]) fun _ _ _ _ _ _ us hl => match us, hl with | [_, _], _ => rfl⟩
  d__law_greatest_right := ⟨_, _, fun_mk l__law_greatest_right c__law_greatest_right k__law_greatest_right, PySem.W.mg_of X G a__law_greatest_right, (fun_mk l__law_greatest_right c__law_greatest_right k__law_greatest_right).binds (ps := ["_law_pot_here"]) fun _ _ _ _ _ _ us hl => match us, hl with | [_], _ => rfl⟩
  d__law_primes_right := ⟨_, _, fun_mk l__law_primes_right c__law_primes_right k__law_primes_right, PySem.W.mg_of X G a__law_primes_right, (fun_mk l__law_primes_right c__law_primes_right k__law_primes_right).binds (ps := ["_law_pot_here"]) fun _ _ _ _ _ _ us hl => match us, hl with | [_], _ => rfl⟩
  d__law_lines_right := ⟨_, _, fun_mk l__law_lines_right c__law_lines_right k__law_lines_right, PySem.W.mg_of X G a__law_lines_right, (fun_mk l__law_lines_right c__law_lines_right k__law_lines_right).binds (ps := ["_law_pot_here"]) fun _ _ _ _ _ _ us hl => match us, hl with | [_], _ => rfl⟩
  d__law_right := ⟨_, _, fun_mk l__law_right c__law_right k__law_right, PySem.W.mg_of X G a__law_right, (fun_mk l__law_right c__law_right k__law_right).binds (ps := ["_law_pot_here"]) fun _ _ _ _ _ _ us hl => match us, hl with | [_], _ => rfl⟩
  d_law := ⟨_, _, fun_mk l_law c_law k_law, PySem.W.mg_of X G a_law, (fun_mk l_law c_law k_law).binds (ps := ["_law_script"]) fun _ _ _ _ _ _ us hl => match us, hl with | [_], _ => rfl⟩
  n_abs := PySem.W.mg_none_of X G z_abs
  n_all := PySem.W.mg_none_of X G z_all
  n_bool := PySem.W.mg_none_of X G z_bool
  c_LINE_DEGREE := ⟨_, PySem.W.mg_of X G z_LINE_DEGREE⟩
  c_PRIMES_END := ⟨_, PySem.W.mg_of X G z_PRIMES_END⟩
  n_divmod := PySem.W.mg_none_of X G z_divmod
  n_int := PySem.W.mg_none_of X G z_int
  n_isinstance := PySem.W.mg_none_of X G z_isinstance
  n_len := PySem.W.mg_none_of X G z_len
  n_list := PySem.W.mg_none_of X G z_list
  m_gcd := PySem.W.mg_of X G z_gcd
  n_max := PySem.W.mg_none_of X G z_max
  n_range := PySem.W.mg_none_of X G z_range
  n_repr := PySem.W.mg_none_of X G z_repr
  n_tuple := PySem.W.mg_none_of X G z_tuple
  n_zip := PySem.W.mg_none_of X G z_zip
theorem law_mk {P : Program} {w : World} {K : PySem.W.Frag} {mg : Str → Option Value} {fa : Addr} (T : Top K mg) (hfa : mg "law" = some (.ref fa)) :
    ∃ fd : FuncData, (∀ (s : Shared) (u : Value), BindsTo s fd ⟨[u], []⟩ [("_law_script", u)]) ∧
      ∀ base : Heap, K.In base → base.Ns mainGlobals mg → FnG P w K mg base CX0 6 fa fd ["_law_script"] (spLaw K) := by
  obtain ⟨f, fd, F, g, b⟩ := T.d_law.ex
  cases hfa.symm.trans g
  refine ⟨fd, fun s u => ?_, fun base _ _ => ?_⟩
  · obtain ⟨oc, od, kV, doc, pm, an, cdv, ct, osl, rfl, _, _⟩ := F.ex
    exact .of_eq rfl
  · skip
    have C__law_pot := ok__law_pot (P := P) (w := w) (base := base) T
    have C__law_draw := ok__law_draw (P := P) (w := w) (base := base) T
    have C__law_pick := ok__law_pick (P := P) (w := w) (base := base) T C__law_draw
    have C__law_line := ok__law_line (P := P) (w := w) (base := base) T C__law_draw C__law_pick
    have C_is_integer := ok_is_integer (P := P) (w := w) (base := base) T
    have C__law_is_integer := ok__law_is_integer (P := P) (w := w) (base := base) T
    have C_is_list := ok_is_list (P := P) (w := w) (base := base) T
    have C_check_number := ok_check_number (P := P) (w := w) (base := base) T C_is_integer
    have C_greatest := ok_greatest (P := P) (w := w) (base := base) T C_check_number
    have C_is_prime := ok_is_prime (P := P) (w := w) (base := base) T C_is_integer
    have C__law_is_prime := ok__law_is_prime (P := P) (w := w) (base := base) T C__law_is_integer
    have C_is_line := ok_is_line (P := P) (w := w) (base := base) T C_is_integer C_is_list
    have C__law_is_line := ok__law_is_line (P := P) (w := w) (base := base) T C__law_is_integer
    have C__law_mixed := ok__law_mixed (P := P) (w := w) (base := base) T
    have C__law_greatest_right := ok__law_greatest_right (P := P) (w := w) (base := base) T C__law_draw C__law_mixed C__law_pick C_greatest
    have C__law_primes_right := ok__law_primes_right (P := P) (w := w) (base := base) T C__law_draw C__law_is_prime C_is_prime
    have C__law_lines_right := ok__law_lines_right (P := P) (w := w) (base := base) T C__law_draw C__law_is_line C__law_line C__law_pick C_is_line
    have C__law_right := ok__law_right (P := P) (w := w) (base := base) T C__law_greatest_right C__law_lines_right C__law_primes_right C_greatest
    exact fn_law T C__law_pot C__law_right F
end Kr
open PySem PySem.W PyProof.Rows
set_option maxHeartbeats 0 in
theorem PySem.Challenge.cw_curvepieces_k16_any_value_as_line_or_pri_holds : PySem.Challenge.rw_curvepieces_k16_any_value_as_line_or_pri.Holds := by
  w_on; o_law; k_head; (case hw => w_witness2)
  k_fill
  refine Kr.walkG (l := PySem.Challenge.rw_curvepieces_k16_any_value_as_line_or_pri) (n := 63) (k := 6) (x := "_law_script") (sp := fun K => Kr.spLaw K) rfl (by decide) rfl ⟨rfl, by decide, by decide⟩ (fun w h Y => PySem.W.kIn_of Y) ?F (fun _ _ a ns hl hS => ⟨a, ns, rfl, hS, hl, fun _ => rfl⟩)
  case F =>
    intro w mg fa h KX G hmg
    refine' Kr.law_mk (Kr.top_mk KX G ?a__law_pot ?l__law_pot ?c__law_pot ?k__law_pot ?a__law_draw ?l__law_draw ?c__law_draw ?k__law_draw ?a__law_pick ?l__law_pick ?c__law_pick ?k__law_pick ?a__law_line ?l__law_line ?c__law_line ?k__law_line ?a_is_integer ?l_is_integer ?c_is_integer ?k_is_integer ?a__law_is_integer ?l__law_is_integer ?c__law_is_integer ?k__law_is_integer ?a_is_list ?l_is_list ?c_is_list ?k_is_list ?a_check_number ?l_check_number ?c_check_number ?k_check_number ?a_greatest ?l_greatest ?c_greatest ?k_greatest ?a_is_prime ?l_is_prime ?c_is_prime ?k_is_prime ?a__law_is_prime ?l__law_is_prime ?c__law_is_prime ?k__law_is_prime ?a_is_line ?l_is_line ?c_is_line ?k_is_line ?a__law_is_line ?l__law_is_line ?c__law_is_line ?k__law_is_line ?a__law_mixed ?l__law_mixed ?c__law_mixed ?k__law_mixed ?a__law_greatest_right ?l__law_greatest_right ?c__law_greatest_right ?k__law_greatest_right ?a__law_primes_right ?l__law_primes_right ?c__law_primes_right ?k__law_primes_right ?a__law_lines_right ?l__law_lines_right ?c__law_lines_right ?k__law_lines_right ?a__law_right ?l__law_right ?c__law_right ?k__law_right ?a_law ?l_law ?c_law ?k_law ?z_abs ?z_all ?z_bool ?z_LINE_DEGREE ?z_PRIMES_END ?z_divmod ?z_int ?z_isinstance ?z_len ?z_list ?z_gcd ?z_max ?z_range ?z_repr ?z_tuple ?z_zip) hmg
    (case a__law_pot => k_is)
    (case l__law_pot => k_is)
    (case c__law_pot => k_is)
    (case k__law_pot => k_is)
    (case a__law_draw => k_is)
    (case l__law_draw => k_is)
    (case c__law_draw => k_is)
    (case k__law_draw => k_is)
    (case a__law_pick => k_is)
    (case l__law_pick => k_is)
    (case c__law_pick => k_is)
    (case k__law_pick => k_is)
    (case a__law_line => k_is)
    (case l__law_line => k_is)
    (case c__law_line => k_is)
    (case k__law_line => k_is)
    (case a_is_integer => k_is)
    (case l_is_integer => k_is)
    (case c_is_integer => k_is)
    (case k_is_integer => k_is)
    (case a__law_is_integer => k_is)
    (case l__law_is_integer => k_is)
    (case c__law_is_integer => k_is)
    (case k__law_is_integer => k_is)
    (case a_is_list => k_is)
    (case l_is_list => k_is)
    (case c_is_list => k_is)
    (case k_is_list => k_is)
    (case a_check_number => k_is)
    (case l_check_number => k_is)
    (case c_check_number => k_is)
    (case k_check_number => k_is)
    (case a_greatest => k_is)
    (case l_greatest => k_is)
    (case c_greatest => k_is)
    (case k_greatest => k_is)
    (case a_is_prime => k_is)
    (case l_is_prime => k_is)
    (case c_is_prime => k_is)
    (case k_is_prime => k_is)
    (case a__law_is_prime => k_is)
    (case l__law_is_prime => k_is)
    (case c__law_is_prime => k_is)
    (case k__law_is_prime => k_is)
    (case a_is_line => k_is)
    (case l_is_line => k_is)
    (case c_is_line => k_is)
    (case k_is_line => k_is)
    (case a__law_is_line => k_is)
    (case l__law_is_line => k_is)
    (case c__law_is_line => k_is)
    (case k__law_is_line => k_is)
    (case a__law_mixed => k_is)
    (case l__law_mixed => k_is)
    (case c__law_mixed => k_is)
    (case k__law_mixed => k_is)
    (case a__law_greatest_right => k_is)
    (case l__law_greatest_right => k_is)
    (case c__law_greatest_right => k_is)
    (case k__law_greatest_right => k_is)
    (case a__law_primes_right => k_is)
    (case l__law_primes_right => k_is)
    (case c__law_primes_right => k_is)
    (case k__law_primes_right => k_is)
    (case a__law_lines_right => k_is)
    (case l__law_lines_right => k_is)
    (case c__law_lines_right => k_is)
    (case k__law_lines_right => k_is)
    (case a__law_right => k_is)
    (case l__law_right => k_is)
    (case c__law_right => k_is)
    (case k__law_right => k_is)
    (case a_law => k_is)
    (case l_law => k_is)
    (case c_law => k_is)
    (case k_law => k_is)
    (case z_abs => k_is)
    (case z_all => k_is)
    (case z_bool => k_is)
    (case z_LINE_DEGREE => k_is)
    (case z_PRIMES_END => k_is)
    (case z_divmod => k_is)
    (case z_int => k_is)
    (case z_isinstance => k_is)
    (case z_len => k_is)
    (case z_list => k_is)
    (case z_gcd => k_is)
    (case z_max => k_is)
    (case z_range => k_is)
    (case z_repr => k_is)
    (case z_tuple => k_is)
    (case z_zip => k_is)
