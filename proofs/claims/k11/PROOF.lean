import PyProof.Rows.All
import Wide.All
import OpenK.AllK
import Wide.FinOn
import PySem.Challenge.RW_curvepieces_k11_whole_sums_products_valu
import HandS.Comp
import HandS.Ends
import HandS.Dict
import HandS.Iter
import HandS.Words
import HandS.IsInst
import HandS.Gcd
import HandS.Zip
import HandS.WideBits
import PyProof.ReprRoads
import PyProof.ReprBulk
import PyProof.CallFns
import HandS.TupAny
import HandS.TryOnly
import HandS.Style
import KE.GoesEnum
import KE.GoesMore
set_option Elab.async false
set_option linter.all false
set_option maxRecDepth 100000
set_option maxHeartbeats 4400000
/-! Defs that may call repr: the layer's promise, said again with one more fact of what runs around (no repr is under way). -/
namespace Kr
open PySem PySem.Spec
open PyProof.Rows L2

/-- no repr runs around -/
abbrev Quiet (A : Around) : Prop := A.guards = some []

structure FnG (P : Program) (w : World) (K : PySem.W.Frag)
    (mg : Str → Option Value) (base : Heap) (CX : CXT) (k : Nat)
    (f : Addr) (fd : FuncData) (ps : List Str) (sp : Sp) : Prop where
  len : ∀ (vs : List V) (H : Hp) (Q : VK) (E : XK), sp vs H Q E →
    vs.length = ps.length
  run : ∀ (A : Around) (out : List Env) (s : Shared) (H : Hp) (args : Args)
    (us : List Value) (vs : List V) (Q : VK) (E : XK), Quiet A → Room k A →
    Env0 P w K mg base A out s H → BindsTo s fd args (ps.zip us) →
    Vals vs us → sp vs H Q E →
    codeAny (model P w) A (.call (.ref f) args) (CR CX out P w H s Q E) s

/-- a def of the text that may be called by its name -/
structure Cl (P : Program) (w : World) (K : PySem.W.Frag)
    (mg : Str → Option Value) (base : Heap) (CX : CXT) (k : Nat)
    (x : Str) (st : Stmt) (ps : List Str) (sp : Sp) : Prop where
  ex : ∃ (f : Addr) (fd : FuncData), Fun K x x st f fd ∧
    mg x = some (.ref f) ∧ Binds K fd ps [] ∧ FnG P w K mg base CX k f fd ps sp

section
variable {X : Cx} {CX : CXT} {k j : Nat} {x : Str} {st : Stmt} {ps ks : List Str} {sp : Sp}
  {E : XK} {p pos : Pos} {e : Expr} {es : List Expr} {t tk : TA} {kws : List Keyword}

theorem runs_end {pins : List (Addr × Obj)} {σ : L2.St} {H : Hp} {s s' : Shared} {Q : VK}
    {r : Result} (hx : Passes CX X E) (I : Inv X pins σ H s)
    (hq : CR CX X.stack X.prog X.w H s Q E r s') :
    match r with
    | .ok (.ret u) => EP X pins σ Q u s'
    | .ok _ => False
    | .error e => X.xe e s' := by
  match r, hq with
  | .error e, hq => exact hx pins σ H s e s' I hq
  | .ok (.ret u), hq => exact I.after hq
  | .ok .next, hq => exact hq
  | .ok .brk, hq => exact hq
  | .ok .cont, hq => exact hq

theorem calls_u {pins : List (Addr × Obj)} {σ : L2.St} {H : Hp} {s : Shared} {Q : VK}
    {us : List Value} {vs : List V} {f : Addr} {fd : FuncData}
    (F : FnG X.prog X.w X.K X.mg X.base CX k f fd ps sp) (hG : Quiet X.A)
    (hr : Room k X.A) (hb : Binds X.K fd ps []) (hx : Passes CX X E)
    (I : Inv X pins σ H s) (r : Vals vs us) (h : sp vs H Q E) :
    wpAny (model X.prog X.w) X.A (call (.ref f) us)
      (EP X pins σ Q) X.xe s := by
  have hl : us.length = ps.length := r.length ▸ F.len _ _ _ _ h
  have hbt : BindsTo s fd ⟨us, []⟩ (ps.zip us) := by
    have z := hb s us I.kIn (by rw [List.append_nil]; exact hl)
    rwa [List.append_nil] at z
  have z := F.run X.A X.stack s H ⟨us, []⟩ us vs Q E hG hr I.env0 hbt r h
  refine wpAny_call (codeAny_mono z fun rr s' hq => ?_)
  have y := runs_end hx I hq
  cases rr with
  | error e => exact y
  | ok fl => cases fl <;> exact y

/-- f(e, ..) -/
theorem pe_u (c : Cl X.prog X.w X.K X.mg X.base CX k x st ps sp) (hG : Quiet X.A)
    (hr : Room j X.A) (hk : k ≤ j) (hg : Gl X x) (hx : Passes CX X E) (ha : PA X (e :: es) t)
    (hdb : (x == ("__debug__" : Str)) = false := by decide)
    (he : starEach (e :: es) X.env = (false, eval e X.env) :: starEach es X.env := by rfl)
    (hpl : (backTo pos (starEach es X.env)).any (·.1) = false := by rfl) :
    PE X (.Call (.Name x p) (e :: es) [] pos) (tCall sp [] E t) := by
  obtain ⟨f, fd, F, hm, hb, G⟩ := c.ex
  refine ⟨fun pins s σ H Q I h => wpAny_Call_Name_kw (ld_glob I hg hm ?_ hdb)⟩
  have q0 := ha.run pos pins s σ H _ I h
  refine PySem.W.callWith_K (h₀ := X.base) I.ok.mod.kin F.kp (thn q0 ?_) he hpl
  intro us s1 ⟨vs, H1, I1, r, q⟩
  have q : sp (vs ++ []) H1 Q E := q
  rw [List.append_nil] at q
  exact ⟨I1.kIn, calls_u G hG (hr.mono hk) hb hx I1 r q⟩

/-- how the names of a call's keywords lie among the parameters -/
structure KwB (K : PySem.W.Frag) (fd : FuncData) (ps ks : List Str)
    (g : List Value → List Value) (gV : List V → List V) : Prop where
  to : ∀ (s : Shared) (ws : List Value), K.In s.heap → (g ws).length = ps.length →
    BindsTo s fd ⟨[], ks.zip ws⟩ (ps.zip (g ws))
  rel : ∀ {zs : List V} {ws : List Value}, Vals zs ws → Vals (gV zs) (g ws)
def tCallU (sp : Sp) (gV : List V → List V) (E : XK) (tk : TA) : TE :=
  fun σ H Q => tk σ H fun zs H1 => sp (gV zs) H1 Q E
/-- f(k = v, ..) -/
theorem pe_uk {g : List Value → List Value} {gV : List V → List V}
    (c : Cl X.prog X.w X.K X.mg X.base CX k x st ps sp)
    (hkb : ∀ {f : Addr} {fd : FuncData}, Fun X.K x x st f fd → KwB X.K fd ps ks g gV)
    (hG : Quiet X.A) (hr : Room j X.A) (hk : k ≤ j) (hg : Gl X x) (hx : Passes CX X E)
    (hkw : PK X kws tk)
    (hall : (backToKw pos (keywordEach kws X.env)).all (·.1.isSome) = true := by rfl)
    (hks : (backToKw pos (keywordEach kws X.env)).filterMap (·.1) = ks := by rfl)
    (hdb : (x == ("__debug__" : Str)) = false := by decide)
    (hpl : ((backTo pos (starEach [] X.env)).any (·.1) ||
      (backToKw pos (keywordEach kws X.env)).any (·.1.isNone)) = false := by rfl) :
    PE X (.Call (.Name x p) [] kws pos) (tCallU sp gV E tk) := by
  obtain ⟨f, fd, F, hm, hb, G⟩ := c.ex
  have B := hkb F
  refine ⟨fun pins s σ H Q I h => wpAny_Call_Name_kw (ld_glob I hg hm ?_ hdb)⟩
  have q0 := hkw.run pos pins s σ H _ I h
  refine PySem.W.callWith_KW0 (h₀ := X.base) I.ok.mod.kin F.kp hall (thn q0 ?_) hpl
  intro ws s1 ⟨zs, H1, I1, r, q⟩
  refine ⟨I1.kIn, ?_⟩
  rw [hks]
  have r2 := B.rel r
  have hl : (g ws).length = ps.length := r2.length ▸ G.len _ _ _ _ q
  have z := G.run X.A X.stack s1 H1 ⟨[], ks.zip ws⟩ (g ws) (gV zs) Q E hG
    (hr.mono hk) I1.env0 (B.to s1 ws I1.kIn hl) r2 q
  refine wpAny_call (codeAny_mono z fun rr s' hq => ?_)
  have y := runs_end hx I1 hq
  cases rr with
  | error e => exact y
  | ok fl => cases fl <;> exact y
end

/-! a def by its body -/
section
variable {P : Program} {w : World} {K : PySem.W.Frag}
  {mg : Str → Option Value} {base : Heap}
theorem body_g {CX : CXT} {x : Str} {st : Stmt} {f : Addr} {fd : FuncData} {N ps : List Str}
    {k : Nat} {sp : Sp} (F : Fun K x x st f fd) (S : FnScope N ps (defScope st))
    (len : ∀ (vs : List V) (H : Hp) (Q : VK) (E : XK), sp vs H Q E →
      vs.length = ps.length)
    (hb : ∀ (cdv : Value) (A : Around) (out : List Env) (s : Shared) (H : Hp) (vs : List V)
      (Q : VK) (E : XK), Quiet (A.deeper (envOfC x (defScope st) s.heap.objs.size f cdv)) →
      Room k (A.deeper (envOfC x (defScope st) s.heap.objs.size f cdv)) → sp vs H Q E →
      ∃ t, PSs (cxOf CX P w K mg base N x (defScope st) f cdv A out s H E) (defBody st) t ∧
        t { nx := fun _ H' => Q .non H', rt := Q } (start N vs) H) :
    FnG P w K mg base CX (k + 1) f fd ps sp := by
  obtain ⟨c0, d0, kw0, dc0, pm0, an0, cdv, ct0, sl0, rfl, lk, hcd⟩ := F.ex
  refine ⟨len, fun A out s H args us vs Q E hG hr e0 hbt r hsp => ?_⟩
  have hl := len _ _ _ _ hsp
  have kin : ∀ b o, base.get? b = some o → s.heap.get? b = some o := fun b o e => (e0.bs b o e).1
  have KX : K.In s.heap := e0.mod.kin.keeps kin
  have lim : s.heap.NoLimit := e0.mod.nolimit.keeps kin
  have par : ∀ y ∈ ps.zip us, (defScope st).names.lookup y.1 = some .local ∨
      ((defScope st).names.lookup y.1 = some .cell ∧
       ((cellsFrom (s.heap.objs.size + 1) (defScope st).names []).lookup y.1).isSome = true) := by
    rintro ⟨n, v⟩ hy
    cases S.par n (List.of_mem_zip hy).1 with
    | inl q => exact .inl q
    | inr q => exact .inr ⟨q, PySem.W.cellsFrom_some _ _ _ (.inl q)⟩
  refine codeAny_call_function hr.depth (KX _ _ lk) rfl S.co S.gen rfl
    (PySem.W.codeRec_of KX hcd) (hbt _ _ _ _ ?_)
  refine wpAny_newFunctionEnv_cells S.kind par fun env he s1 y => ?_
  subst he
  refine ⟨lim.keeps y.toInCall.keep, codeAny_func ?_⟩
  obtain ⟨t, ht, hq⟩ := hb cdv A out s H vs Q E hG (hr.deeper _) hsp
  have J0 : Inv (cxOf CX P w K mg base N x (defScope st) f cdv A out s H E) []
      (start N vs) H s1 := inv_start S hr.hd e0 hl r y
  refine wpAny_mono (ht.run [] s1 (start N vs) H _ J0 hq) ?_ (fun e s' hs => hs)
  intro fl s' hs
  match fl, hs with
  | .ret u, ⟨v, σ', H', J, rv, q⟩ =>
    exact (show CE out P w H s Q u s' from ⟨v, H', J.os, J.bare, J.base, J.hok, rv, q⟩)
  | .next, ⟨σ', H', J, q⟩ =>
    exact (show CE out P w H s Q .none s' from ⟨.non, H', J.os, J.bare, J.base, J.hok, rfl, q⟩)
  | .brk, ⟨_, _, _, q⟩ => exact False.elim q
  | .cont, ⟨_, _, _, q⟩ => exact False.elim q
/-- .. that lets no exception out -/
theorem body_0 {x : Str} {st : Stmt} {f : Addr} {fd : FuncData} {N ps : List Str}
    {k : Nat} {sp : Sp} (F : Fun K x x st f fd) (S : FnScope N ps (defScope st))
    (len : ∀ (vs : List V) (H : Hp) (Q : VK) (E : XK), sp vs H Q E →
      vs.length = ps.length)
    (hb : ∀ (cdv : Value) (A : Around) (out : List Env) (s : Shared) (H : Hp) (vs : List V)
      (Q : VK) (E : XK), Quiet (A.deeper (envOfC x (defScope st) s.heap.objs.size f cdv)) →
      Room k (A.deeper (envOfC x (defScope st) s.heap.objs.size f cdv)) → sp vs H Q E →
      ∃ t, PSs (cxOf CX0 P w K mg base N x (defScope st) f cdv A out s H E).nox
          (defBody st) t ∧ t { nx := fun _ H' => Q .non H', rt := Q } (start N vs) H) :
    FnG P w K mg base CX0 (k + 1) f fd ps sp :=
  body_g F S len fun cdv A out s H vs Q E hG hr h =>
    let ⟨t, ht, q⟩ := hb cdv A out s H vs Q E hG hr h
    ⟨t, ht.nox, q⟩
end

/-! repr of data -/
section
variable {X : Cx}
theorem call_repr (hG : Quiet X.A) (hu : X.A.units + 64 < cLine) :
    CallR X (.builtin "repr") (fun xs H Q => ∃ a d, xs = [.ref a] ∧ Dp X.K H (.ref a) d ∧
      d.showable = true ∧ d.hasDict = false ∧ d.depth ≤ 60 ∧ d.shown.length ≤ sizeLine ∧
      Q (.str d.shown) H) := by
  intro pins s σ H zs us Q I r h
  obtain ⟨a, d, rfl, hd, hs, hn, h60, hz, q⟩ := h
  obtain ⟨u', rfl, rx⟩ := vals1 r
  obtain rfl : u' = Value.ref a := rx
  obtain ⟨as, hr⟩ := Dp.reads I d (.ref a) (.ref a) hd rfl
  refine repr_of_reads' hr hs (fun z => ?_) hG ?_ (fun _ _ e => e) (fun h' u tk kk => ?_) hz
  · rw [hn] at z; cases z
  · exact Nat.lt_of_le_of_lt (Nat.add_le_add_left (show d.depth + 1 ≤ 64 by omega) _) hu
  · exact ⟨.str d.shown, H, I.kept (fun b o e => kk b o e), ⟨u, rfl⟩, q⟩
end
end Kr
namespace Kr
open PySem PySem.Spec
open PyProof.Rows L2

theorem hu64 {A : Around} {k : Nat} (hr : Room k A) : A.units + 64 < cLine := hr.units

/-- a def of the text under its name -/
structure Df (K : PySem.W.Frag) (mg : Str → Option Value) (x : Str) (st : Stmt)
    (ps : List Str) : Prop where
  ex : ∃ (f : Addr) (fd : FuncData), Fun K x x st f fd ∧ mg x = some (.ref f) ∧ Binds K fd ps []
theorem Df.cl {P : Program} {w : World} {K : PySem.W.Frag} {mg : Str → Option Value} {base : Heap}
    {CX : CXT} {k : Nat} {x : Str} {st : Stmt} {ps : List Str} {sp : Sp} (D : Df K mg x st ps)
    (h : ∀ (f : Addr) (fd : FuncData), Fun K x x st f fd → FnG P w K mg base CX k f fd ps sp) :
    Cl P w K mg base CX k x st ps sp := by
  obtain ⟨f, fd, F, g, b⟩ := D.ex
  exact ⟨f, fd, F, g, b, h f fd F⟩

/-! the head of a law's walk, for such defs -/
theorem callG {P : Program} {w : World} {K : PySem.W.Frag} {mg mb : Str → Option Value} {k : Nat}
    {fa a : Addr} {fd : FuncData} {x : Str} {sp : Sp} {s₁ : Shared} {vs : List Value} {ns : List Int}
    (KX : K.In s₁.heap) (hns : s₁.heap.Ns mainGlobals mg) (hb : s₁.heap.Ns builtinsNs mb)
    (hbb : ∀ x : Str, x ≠ "__name__" → mb x = bootBuiltins x) (hlim : s₁.heap.NoLimit)
    (hg : s₁.gens = #[]) (ha : s₁.heap.get? a = some { cls := .type "list", data := .seq vs.toArray })
    (hi : IntsAre vs ns) (hl : ns.length ≤ sizeLine) (hr : Room k callerA)
    (F : ∀ base : Heap, K.In base → base.Ns mainGlobals mg → FnG P w K mg base CX0 k fa fd [x] sp)
    (hbind : ∀ (s : Shared) (u : Value), BindsTo s fd ⟨[u], []⟩ [(x, u)])
    (hsp : ∀ H : Hp, SqL K H a (ns.map V.int) → sp [.ref a] H (fun v _ => v = .bl true) fun _ _ _ => False) :
    codeAny (model P w) callerA (.call (.ref fa) ⟨[.ref a], []⟩)
      (fun r s' => r = .ok (.ret (.bool true)) ∧ OldK s₁.heap s'.heap ∧ s'.os = s₁.os ∧ AllBare s'.gens) s₁ := by
  have rv := vals_ints hi
  have lenV := hi.length
  have main : ∀ H : Hp, (∀ b u, H b = some u → b = a ∧ ∃ o ys, u = .frz o (.lst ys)) →
      SqL K H a (ns.map V.int) → HOk P w H s₁.heap → (H a ≠ none → K.lookup a = none) →
      codeAny (model P w) callerA (.call (.ref fa) ⟨[.ref a], []⟩)
        (fun r s' => r = .ok (.ret (.bool true)) ∧ OldK s₁.heap s'.heap ∧ s'.os = s₁.os ∧ AllBare s'.gens) s₁ := by
    intro H hA hS hok hK
    have dict0 : ∀ {b : Addr} {o : Obj} {es : Array DictEntry} {ep : Nat},
        s₁.heap.get? b = some o → o.data = .dict es ep → H b = none := by
      intro b o es ep e d
      match q : H b with
      | none => rfl
      | some u =>
        obtain ⟨e1, _⟩ := hA b u q
        rw [e1, ha] at e
        cases e
        exact nomatch (show Data.seq vs.toArray _ = Data.dict es ep from d)
    have nsT : ∀ {b : Addr} {m : Str → Option Value}, s₁.heap.Ns b m → (hidT s₁.heap H).Ns b m :=
      fun {b m} ⟨o, es, ep, e, d, r⟩ => ⟨o, es, ep, hidT_get e (dict0 e d), d, r⟩
    have kB : K.In (hidT s₁.heap H) := by
      intro b o e
      refine hidT_get (KX b o e) ?_
      match q : H b with
      | none => rfl
      | some u =>
        obtain ⟨e1, _⟩ := hA b u q
        subst e1
        rw [hK (by rw [q]; exact fun z => nomatch z)] at e
        cases e
    have M : Mod K mg (hidT s₁.heap H) :=
      ⟨kB, nsT hns, ⟨mb, nsT hb, hbb⟩, hlim.elim fun mc z => ⟨mc, nsT z.1, z.2⟩⟩
    have e0 : Env0 P w K mg (hidT s₁.heap H) callerA [] s₁ H :=
      ⟨rfl, M, fun b o e => of_hidT e, Nat.le_of_eq (hidT_size _ _), trivial,
        fun b z => absurd (show b ∈ ([] : List Addr) from z) List.not_mem_nil, hok, .of_eq hg⟩
    have z := (F _ kB (nsT hns)).run callerA [] s₁ H ⟨[.ref a], []⟩ [.ref a] [.ref a] _ _ rfl hr e0
      (hbind s₁ (.ref a)) (.cons rfl .nil) (hsp H hS)
    refine codeAny_mono z fun r s' h => ?_
    match r, h with
    | .error e, h => exact False.elim h
    | .ok .next, h => exact False.elim h
    | .ok .brk, h => exact False.elim h
    | .ok .cont, h => exact False.elim h
    | .ok (.ret u), ⟨v, H', os, bare, un, hok', r', q⟩ =>
      obtain rfl : v = .bl true := q
      obtain rfl : u = Value.bool true := by exact r'
      refine ⟨rfl, OldK.of_keep (fun b o e => ?_), os, bare⟩
      match q : H b with
      | none => exact un.keep b o e q (fun z => absurd (show b ∈ ([] : List Addr) from z) List.not_mem_nil) List.not_mem_nil
      | some u =>
        obtain ⟨_, ob, ys, rfl⟩ := hA b u q
        have y2 := un.frzs b ob _ q
        have e1 := (hok b _ q).1
        have e2 := (hok' b _ y2).1
        rw [e] at e1
        cases e1
        exact e2
  match hk : K.lookup a with
  | some o =>
    have e := KX a o hk
    rw [ha] at e
    cases e
    refine main (fun _ => none) (fun b u z => nomatch z) (.inr ?_) (fun b u z => nomatch z) fun z => absurd rfl z
    exact ⟨_, vs.toArray, _, hk, rfl, rfl, rfl, by rw [List.size_toArray, lenV]; exact hl, rv⟩
  | none =>
    let fz : HO := .frz { cls := .type "list", data := .seq vs.toArray } (.lst (ns.map V.int))
    refine main (upd (fun _ => none) a fz) ?_ (.inl (.inr ⟨_, upd_same⟩)) ?_ fun _ => hk
    · intro b u z
      by_cases hb : b = a
      · subst hb
        rw [upd_same] at z
        cases z
        exact ⟨rfl, _, _, rfl⟩
      · rw [upd_ne hb] at z
        cases z
    · intro b u z
      by_cases hb : b = a
      · subst hb
        rw [upd_same] at z
        cases z
        exact ⟨ha, (by rw [List.length_map]; exact hl), vs, _, rv, ha⟩
      · rw [upd_ne hb] at z
        cases z

/-- where a law's walk begins: its last def keeps its promise -/
theorem walkG {l : PySem.W.OpenLaw} {n k : Nat} {q : Program} {loose : List Str}
    {XP : (Str → Option Value) → Heap → Prop} {YP : World → Heap → Prop} {d : DefRec}
    {K : Params → PySem.W.Frag} {sp : PySem.W.Frag → Sp} {x : Str}
    (hn : l.most = some n) (hn2 : n ≤ sizeLine)
    (hdf : d.params.defaults = []) (hr : Room k callerA)
    (hY : ∀ (v : World) (h : Heap), YP v h → (K v.params).In h)
    (F : ∀ (w : World) (mg : Str → Option Value) (fa : Addr) (h : Heap), (K w.params).In h →
      h.Ns mainGlobals mg → mg d.name = some (.ref fa) →
      ∃ fd : FuncData, (∀ (s' : Shared) (u : Value), BindsTo s' fd ⟨[u], []⟩ [(x, u)]) ∧
        ∀ base : Heap, (K w.params).In base → base.Ns mainGlobals mg →
          FnG l.prog w (K w.params) mg base CX0 k fa fd [x] (sp (K w.params)))
    (hsp : ∀ (K : PySem.W.Frag) (H : Hp) (a : Addr) (ns : List Int), ns.length ≤ n →
      SqL K H a (ns.map V.int) → sp K [.ref a] H (fun v _ => v = .bl true) fun _ _ _ => False) :
    PySem.W.WalkO q loose XP YP l.row.toRowW d []
      (fun f vs => PySem.call f vs) := by
  refine Att.attach_call hn hdf ?_
  intro w s₀ s₁ mg mb fa o pm cd doc a vs ns G Y ho hd hcd hmg hobj hints hlen hg
  have KX := hY w _ Y
  obtain ⟨fd, hb, hF⟩ := F w mg fa _ KX (G.T.g) hmg
  exact callG KX G.T.g G.T.b G.T.builtins G.T.nolimit hg hobj hints (Nat.le_trans hlen hn2) hr hF hb
    fun H hS => hsp _ H a ns hlen hS

/-! heaps that change at one place alone -/
def Chg (a : Addr) (H H' : Hp) : Prop := ∀ b o, b ≠ a → H b = some o → H' b = some o
theorem Chg.rfl' {a : Addr} {H : Hp} : Chg a H H := fun _ _ _ h => h
theorem Chg.trans {a : Addr} {H H1 H2 : Hp} (x : Chg a H H1) (y : Chg a H1 H2) : Chg a H H2 :=
  fun b o n h => y b o n (x b o n h)
theorem Chg.of {a : Addr} {H H' : Hp} (s : Same H H') : Chg a H H' := fun b o _ h => s b o h
theorem Chg.seq {K : PySem.W.Frag} {a b : Addr} {H H' : Hp} {xs : List V} (c : Chg a H H') (n : b ≠ a)
    (h : SqL K H b xs) : SqL K H' b xs := by
  rcases h with (h | ⟨oo, h⟩) | h
  · exact .inl (.inl (c _ _ n h))
  · exact .inl (.inr ⟨oo, c _ _ n h⟩)
  · exact .inr h
theorem Same.put {H : Hp} {p : Addr} {o : HO} (h : H p = none) : Same H (upd H p o) := by
  intro b x e
  rw [upd_ne (ne_of_none e h)]
  exact e
theorem Same.tseq {K : PySem.W.Frag} {a : Addr} {H H' : Hp} {xs : List V} (e : Same H H')
    (h : SqT K H a xs) : SqT K H' a xs := by
  rcases h with (h | ⟨oo, h⟩) | h
  · exact .inl (.inl (e _ _ h))
  · exact .inl (.inr ⟨oo, e _ _ h⟩)
  · exact .inr h

/-! what a law draws from -/
def PotAt (H : Hp) (a : Addr) : Prop :=
  ∃ P R : Int, H a = some (.lst [.int P, .int R]) ∧ 0 ≤ P ∧ 0 ≤ R ∧ R < 2147483648
theorem Same.pot {H H' : Hp} {a : Addr} (s : Same H H') (p : PotAt H a) : PotAt H' a := by
  obtain ⟨P, R, h, r⟩ := p
  exact ⟨P, R, s _ _ h, r⟩
theorem PotAt.ne {H : Hp} {a p : Addr} (x : PotAt H a) (h : H p = none) : p ≠ a := by
  obtain ⟨P, R, e, _⟩ := x
  exact (ne_of_none e h).symm
def spPot (K : PySem.W.Frag) : Sp := fun vs H Q _ => ∃ (a : Addr) (ns : List Int) (k : Int),
  vs = [.ref a, .int k] ∧ SqL K H a (ns.map V.int) ∧ 0 ≤ k ∧ k ≤ 63 ∧
  ∀ H' p, Same H H' → H p = none → PotAt H' p → Q (.ref p) H'
def spDraw : Sp := fun vs H Q _ => ∃ (a : Addr) (m : Int), vs = [.ref a, .int m] ∧ PotAt H a ∧
  0 < m ∧ m < 1073741824 ∧
  ∀ H' d, Chg a H H' → PotAt H' a → 0 ≤ d → d < m → Q (.int d) H'
def spPick (K : PySem.W.Frag) : Sp := fun vs H Q _ => ∃ (a b : Addr) (xs : List V),
  vs = [.ref a, .ref b] ∧ PotAt H a ∧ b ≠ a ∧ SqL K H b xs ∧ xs ≠ [] ∧ xs.length ≤ 1000 ∧
  ∀ H' x, Chg a H H' → PotAt H' a → x ∈ xs → Q x H'
/-- a drawn line -/
def spLine : Sp := fun vs H Q _ => ∃ (a : Addr) (n : Nat) (w : Int),
  vs = [.ref a, .int n, .int w] ∧ PotAt H a ∧ n ≤ 60 ∧ 2 ≤ w ∧ w ≤ 1000000 ∧
  ∀ H' p (ns : List Int), Chg a H H' → PotAt H' a → H p = none → p ≠ a →
    H' p = some (.lst (ns.map V.int)) → ns.length = n + 1 →
    (∀ z ∈ ns, -w - 3 ≤ z ∧ z ≤ w + 3) → (∀ z, ns.getLast? = some z → z ≠ 0) → Q (.ref p) H'
def spLaw (K : PySem.W.Frag) : Sp := fun vs H Q _ => ∃ (a : Addr) (ns : List Int),
  vs = [.ref a] ∧ SqL K H a (ns.map V.int) ∧ ns.length ≤ 63 ∧ ∀ H', Q (.bl true) H'
end Kr
/-! Any value: its kind, whether it is a line. -/
namespace Kr
open PySem PySem.Spec
open PyProof.Rows L2

theorem ifF {c : Bool} {A B : Prop} (e : c = false) (h : B) : if c = true then A else B := by
  subst e; exact iteF h
theorem ifT {c : Bool} {A B : Prop} (e : c = true) (h : A) : if c = true then A else B := by
  subst e; exact iteT h

theorem yesT {σ : L2.St} {H : Hp} {A B : Hp → Prop} (h : A H) :
    tYes σ H (fun b H3 => if b = true then A H3 else B H3) := by
  show if true = true then A H else B H
  rw [if_pos rfl]; exact h

inductive Kd (H : Hp) : V → String → Prop where
  | non : Kd H .non "NoneType"
  | bl (b : Bool) : Kd H (.bl b) "bool"
  | int (i : Int) : Kd H (.int i) "int"
  | str (x : Str) : Kd H (.str x) "str"
  | lst {a : Addr} {xs : List V} : H a = some (.lst xs) → Kd H (.ref a) "list"
  | tup {a : Addr} {xs : List V} : H a = some (.tup xs) → Kd H (.ref a) "tuple"
  | dct {a : Addr} {kvs : List (Key × V)} : H a = some (.dK kvs) → Kd H (.ref a) "dict"
theorem Kd.same {H H' : Hp} {v : V} {k : String} (s : Same H H') (x : Kd H v k) : Kd H' v k := by
  cases x with
  | non => exact .non
  | bl b => exact .bl b
  | int i => exact .int i
  | str y => exact .str y
  | lst e => exact .lst (s _ _ e)
  | tup e => exact .tup (s _ _ e)
  | dct e => exact .dct (s _ _ e)
theorem Kd.ty {K : PySem.W.Frag} {H : Hp} {v : V} {k : String} (x : Kd H v k) : TyX K H v (.type k) := by
  cases x with
  | non => exact .base .non
  | bl b => exact .base (.bl b)
  | int i => exact .base (.int i)
  | str y => exact .base (.str y)
  | lst e => exact .base (.lst e)
  | tup e => exact .base (.tup e)
  | dct e => exact .base (.dK e)
def isI : V → Bool
  | .int _ => true
  | _ => false
theorem isI_int {v : V} (h : isI v = true) : ∃ i, v = .int i := by
  cases v with
  | int i => exact ⟨i, rfl⟩
  | _ => cases h
/-- a list or a tuple -/
def isLT (k : String) : Bool := k == "list" || k == "tuple"
theorem kit_int {K : PySem.W.Frag} {H : Hp} {v : V} {k : String} (x : Kd H v k) :
    PySem.W.kitOne K (.type k) (.type "int") = some (k == "int" || k == "bool") := by
  cases x <;> exact kit_ty (by decide +kernel)
theorem kit_bool {K : PySem.W.Frag} {H : Hp} {v : V} {k : String} (x : Kd H v k) :
    PySem.W.kitOne K (.type k) (.type "bool") = some (k == "bool") := by
  cases x <;> exact kit_ty (by decide +kernel)
theorem Kd.isI {H : Hp} {v : V} {k : String} (x : Kd H v k) : Kr.isI v = ((k == "int" || k == "bool") && !(k == "bool")) := by
  cases x <;> rfl
theorem kit_lt {K : PySem.W.Frag} {H : Hp} {v : V} {k : String} (x : Kd H v k) :
    PySem.W.kitAny K (.type k) [.type "list", .type "tuple"] = some (isLT k) := by
  cases x with
  | lst e => exact kitAny_cons (b := true) (kit_ty (by decide +kernel)) (fun z => nomatch z) fun _ => rfl
  | tup e => exact kitAny_cons (b := false) (kit_ty (by decide +kernel)) (fun _ => kitAny_cons (b := true) (kit_ty (by decide +kernel)) (fun z => nomatch z) fun _ => rfl) fun z => nomatch z
  | _ => exact kitAny_cons (b := false) (kit_ty (by decide +kernel)) (fun _ => kitAny_cons (b := false) (kit_ty (by decide +kernel)) (fun _ => kitAny_nil) fun z => nomatch z) fun z => nomatch z

/-- 0 to 13 INTEGERS, the last one not 0 -/
def lineB (xs : List V) : Bool :=
  decide (xs.length ≤ 13) && xs.all isI && (xs.isEmpty || !decide (xs.getLast? = some (.int 0)))
inductive Val (H : Hp) : V → Bool → Prop where
  | lst {a : Addr} {xs : List V} : H a = some (.lst xs) → (∀ x ∈ xs, ∃ k, Kd H x k) →
      xs.length ≤ 1000 → Val H (.ref a) (lineB xs)
  | tup {a : Addr} {xs : List V} : H a = some (.tup xs) → (∀ x ∈ xs, ∃ k, Kd H x k) →
      xs.length ≤ 1000 → Val H (.ref a) (lineB xs)
  | oth {v : V} {k : String} : Kd H v k → isLT k = false → Val H v false
theorem Val.same {H H' : Hp} {v : V} {b : Bool} (s : Same H H') (x : Val H v b) : Val H' v b := by
  cases x with
  | lst e h l => exact .lst (s _ _ e) (fun x m => (h x m).elim fun k z => ⟨k, z.same s⟩) l
  | tup e h l => exact .tup (s _ _ e) (fun x m => (h x m).elim fun k z => ⟨k, z.same s⟩) l
  | oth k e => exact .oth (k.same s) e
theorem Val.kd {H : Hp} {v : V} {b : Bool} (x : Val H v b) : ∃ k, Kd H v k := by
  cases x with
  | lst e _ _ => exact ⟨_, .lst e⟩
  | tup e _ _ => exact ⟨_, .tup e⟩
  | oth k _ => exact ⟨_, k⟩
def spIsInt : Sp := fun vs H Q _ => ∃ (v : V) (k : String), vs = [v] ∧ Kd H v k ∧ Q (.bl (isI v)) H
def spIsList : Sp := fun vs H Q _ => ∃ (v : V) (k : String), vs = [v] ∧ Kd H v k ∧
  ∀ H', Same H H' → Q (.bl (isLT k)) H'
def spNumber : Sp := fun vs H Q _ => ∃ i : Int, vs = [.int i] ∧ Q .non H
def spIsLine : Sp := fun vs H Q _ => ∃ (v : V) (b : Bool), vs = [v] ∧ Val H v b ∧
  ∀ H', Same H H' → Q (.bl b) H'
theorem take_snoc {α : Type} {xs : List α} {i : Nat} {x : α} (h : xs[i]? = some x) : xs.take (i + 1) = xs.take i ++ [x] := by
  rw [List.take_add_one, h]; rfl
theorem lineB_long {xs : List V} (h : ¬ xs.length ≤ 13) : lineB xs = false := by
  unfold lineB; rw [decide_eq_false h]; rfl
theorem lineB_odd {xs : List V} (h : xs.all isI = false) : lineB xs = false := by
  unfold lineB; rw [h, Bool.and_false, Bool.false_and]
theorem lineB_end {xs : List V} (l : xs.length ≤ 13) (h : xs.all isI = true) :
    lineB xs = (xs.isEmpty || !decide (xs.getLast? = some (.int 0))) := by
  unfold lineB; rw [h, decide_eq_true l]; rfl
/-- what an own list of truth values holds while it grows -/
theorem all_id (xs : List V) : (xs.map isI).all id = xs.all isI := by
  rw [List.all_map]; rfl
theorem last_at1 {xs : List V} (h : xs ≠ []) : ∃ v, atI xs (-1) = some v ∧ xs.getLast? = some v ∧ v ∈ xs := by
  refine ⟨xs.getLast h, ?_, List.getLast?_eq_getLast h, List.getLast_mem h⟩
  have e : xs = xs.dropLast ++ [xs.getLast h] := (List.dropLast_concat_getLast h).symm
  have z := atI_last xs.dropLast (xs.getLast h)
  rwa [← e] at z
/-- the last look of a line's test -/
theorem last_look {xs : List V} (l : xs.length ≤ 13) (hI : xs.all isI = true) (hne : xs ≠ []) :
    ∃ v, atI xs (-1) = some v ∧ scal v (.int 0) = true ∧ (!decide (v = .int 0)) = lineB xs := by
  obtain ⟨v, h1, h2, h3⟩ := last_at1 hne
  obtain ⟨i, rfl⟩ := isI_int (List.all_eq_true.mp hI v h3)
  refine ⟨_, h1, rfl, ?_⟩
  rw [lineB_end l hI, h2]
  have e : xs.isEmpty = false := by cases xs with | nil => exact absurd rfl hne | cons _ _ => rfl
  rw [e]
  simp
end Kr
/-! repr of any value. -/
namespace Kr
open PySem PySem.Spec
open PyProof.Rows L2

/-- ints, and dicts of nothing, in a row -/
inductive OddAll (H : Hp) : List V → List PyData → Prop where
  | nil : OddAll H [] []
  | int {vs : List V} {ds : List PyData} (i : Int) : i.natAbs.log2 < 1920 → OddAll H vs ds → OddAll H (.int i :: vs) (.int i :: ds)
  | dct {b : Addr} {vs : List V} {ds : List PyData} : H b = some (.dK []) → OddAll H vs ds →
      OddAll H (.ref b :: vs) (.dict [] :: ds)
theorem OddAll.same {H H' : Hp} (s : Same H H') : ∀ {vs : List V} {ds : List PyData}, OddAll H vs ds → OddAll H' vs ds
  | _, _, .nil => .nil
  | _, _, .int i z r => .int i z (r.same s)
  | _, _, .dct e r => .dct (s _ _ e) (r.same s)
theorem OddAll.showable {H : Hp} : ∀ {vs : List V} {ds : List PyData}, OddAll H vs ds → PyData.showableAll ds = true
  | _, _, .nil => by simp only [PyData.showableAll]
  | _, _, .int i z r => by simp [PyData.showableAll, PyData.showable, r.showable, z]
  | _, _, .dct e r => by simp [PyData.showableAll, PyData.showable, PyData.showableKv, r.showable]
theorem OddAll.depth {H : Hp} : ∀ {vs : List V} {ds : List PyData}, OddAll H vs ds → PyData.depthAll ds ≤ 1
  | _, _, .nil => by simp [PyData.depthAll]
  | _, _, .int i _ r => by
    have z := r.depth
    simp [PyData.depthAll, PyData.depth]; omega
  | _, _, .dct e r => by
    have z := r.depth
    simp [PyData.depthAll, PyData.depth, PyData.depthKv]; omega
section
variable {X : Cx} {pins : List (Addr × Obj)} {σ : L2.St}
  {H : Hp} {s : Shared}
theorem dict0_reads (I : Inv X pins σ H s) {b : Addr} (e : H b = some (.dK [])) :
    Reads s.heap (.ref b) (.dict []) [b] ∧ b ≠ sysModules := by
  obtain ⟨_, hs, vs, kv, o, es, ep, h1, h2, h3, _, hp, _⟩ : ObjOk X.prog X.w H s.heap b (.dK []) := I.hok b _ e
  cases kv
  cases hl : es.toList with
  | nil =>
    refine ⟨?_, by simpa using hs⟩
    have z := Reads.dict (h := s.heap) (kvs := []) h1 h2.1 h3 (as := []) (bs := []) (by rw [hl]; exact .nil) (by rw [hl]; exact .nil)
    simpa using z
  | cons x r =>
    rw [hl] at hp
    cases hp
theorem dict1_reads (I : Inv X pins σ H s) {b : Addr} {i j : Int} (e : H b = some (.dK [(.inl i, .int j)])) :
    Reads s.heap (.ref b) (.dict [(.int i, .int j)]) [b] ∧ b ≠ sysModules := by
  obtain ⟨_, hs, vs, kv, o, es, ep, h1, h2, h3, _, hp, _⟩ : ObjOk X.prog X.w H s.heap b (.dK [(.inl i, .int j)]) := I.hok b _ e
  match vs, kv with
  | [(qk, qv)], .cons k1 .nil =>
    obtain ⟨k2, tj, rfl⟩ : Sum.inl i = qk ∧ ∃ t, qv = Value.int j t := k1
    subst k2
    cases hl : es.toList with
    | nil => rw [hl] at hp; cases hp
    | cons x r =>
      rw [hl] at hp
      cases hp with
      | cons a1 a2 a3 =>
        cases a3
        refine ⟨?_, by simpa using hs⟩
        obtain ⟨hh, key, val⟩ := x
        obtain ⟨ti, rfl⟩ := Value.isInt_shape (k := i) (v := key) a1
        obtain rfl : val = Value.int j tj := a2
        have z := Reads.dict (h := s.heap) (kvs := [(.int i, .int j)]) h1 h2.1 h3 (as := [] ++ []) (bs := [] ++ []) (by rw [hl]; exact .cons (.int i ti) .nil) (by rw [hl]; exact .cons (.int j tj) .nil)
        simpa using z
theorem OddAll.reads (I : Inv X pins σ H s) : ∀ {vs : List V} {ds : List PyData} {us : List Value}, OddAll H vs ds → Vals vs us →
    ∃ as, ReadsAll s.heap us ds as ∧ sysModules ∉ as
  | _, _, _, .nil, .nil => ⟨[], .nil, by simp⟩
  | _, _, _, .int i _ r, .cons rv rr => by
    obtain ⟨t, rfl⟩ := rv
    obtain ⟨as, z, n⟩ := r.reads I rr
    exact ⟨[] ++ as, .cons (.int i t) z, by simpa using n⟩
  | _, _, _, .dct (b := b) e r, .cons rv rr => by
    obtain rfl := rv
    obtain ⟨as, z, n⟩ := r.reads I rr
    obtain ⟨z1, n1⟩ := dict0_reads I e
    exact ⟨[b] ++ as, .cons z1 z, by simp [n, Ne.symm n1]⟩
end
/-- a list's repr, its items told -/
theorem repr_items {prog : Program} {w : World} {h₀ : Heap} {a : Addr} {o : Obj} {l : List Value} {n : Nat} {ds : List PyData} {as : List Addr}
    {A : Around} {E : Value → Shared → Prop} {s : Shared} {Q : Value → Shared → Prop}
    (h1 : h₀.get? a = some o) (h2 : o.cls = .type "list") (h3 : o.data = .seq l.toArray n) (h4 : ReadsAll h₀ l ds as) (hl : l ≠ [])
    (hs : PyData.showableAll ds = true) (hsm : sysModules ∉ as) (hg : A.guards = some [])
    (hd : PyData.depthAll ds ≤ 40) (hu : A.units + 64 < cLine) (hk : ∀ b o, h₀.get? b = some o → s.heap.get? b = some o)
    (hQ : ∀ h' u tk, (∀ b o, s.heap.get? b = some o → h'.get? b = some o) →
      Q (.str (PyData.shown (.list ds)) u) { s with heap := h', toks := tk })
    (hz : (PyData.shown (.list ds)).length ≤ sizeLine) :
    wpAny (model prog w) A (call (.builtin "repr") [.ref a]) Q E s := by
  have hz' : (listText (PyData.shownAll ds)).length ≤ sizeLine := by simpa only [PyData.shown] using hz
  obtain ⟨bs, hb, kk⟩ := ReprAllK.of_readsAll (prog := prog) (w := w) h4 hs (fun _ => hsm)
    (fun t ht => Nat.le_trans (listText_mem_le ht) hz')
  have R : Reads h₀ (.ref a) (.list ds) (a :: as) := .list h1 h2 h3 h4
  have nb : a ∉ bs := not_mem_of_deeper R (by simp only [PyData.depth]; omega) hb
  refine call_repr_slot (by omega) ⟨o, hk _ _ h1, h2⟩ F.slot_list_repr.toG ?_
  match l, hl with
  | x :: l, _ =>
    refine call_list_reprK h1 h2 h3 nb (by simpa using kk.length_eq) (fun i y e => kk.item i y (by simpa using e)) hg
      (fun b _ => Clear.nil b) (by show A.units + 1 + (PyData.depthAll ds + 1) < cLine; omega) hk (fun h' u tk z => ⟨_, _, rfl, ?_⟩) hz'
    have y := hQ h' u tk z
    simp only [PyData.shown] at y
    exact y

/-- the text that repr tells of a value -/
inductive Sh (K : PySem.W.Frag) (H : Hp) : V → Str → Prop where
  | non : Sh K H .non "None"
  | bl (b : Bool) : Sh K H (.bl b) (if b = true then "True" else "False")
  | int (i : Int) : i.natAbs.log2 < 1920 → Sh K H (.int i) (toString i)
  | str (x : Str) : (reprText x).length ≤ sizeLine → Sh K H (.str x) (reprText x)
  | dat {a : Addr} {d : PyData} : Dp K H (.ref a) d → d.showable = true → d.hasDict = false → d.depth ≤ 60 →
      d.shown.length ≤ sizeLine → Sh K H (.ref a) d.shown
  | d0 {a : Addr} : H a = some (.dK []) → Sh K H (.ref a) (PyData.shown (.dict []))
  | d1 {a : Addr} (i j : Int) : H a = some (.dK [(.inl i, .int j)]) →
      i.natAbs.log2 < 1920 ∧ j.natAbs.log2 < 1920 → (PyData.shown (.dict [(.int i, .int j)])).length ≤ sizeLine →
      Sh K H (.ref a) (PyData.shown (.dict [(.int i, .int j)]))
  | odd {a : Addr} {xs : List V} {ds : List PyData} : H a = some (.lst xs) → xs ≠ [] → OddAll H xs ds →
      (PyData.shown (.list ds)).length ≤ sizeLine → Sh K H (.ref a) (PyData.shown (.list ds))
mutual
theorem dp_same {K : PySem.W.Frag} {H H' : Hp} (s : Same H H') : ∀ {d : PyData} {v : V}, Dp K H v d → Dp K H' v d
  | _, _, .non => .non
  | _, _, .bl b => .bl b
  | _, _, .int i => .int i
  | _, _, .str x => .str x
  | _, _, .lst h r => .lst (s.seq h) (dps_same s r)
  | _, _, .tup h r => .tup (Same.tseq s h) (dps_same s r)
theorem dps_same {K : PySem.W.Frag} {H H' : Hp} (s : Same H H') : ∀ {ds : List PyData} {vs : List V}, DpAll K H vs ds → DpAll K H' vs ds
  | _, _, .nil => .nil
  | _, _, .cons h r => .cons (dp_same s h) (dps_same s r)
end
theorem Sh.same {K : PySem.W.Frag} {H H' : Hp} {v : V} {t : Str} (s : Same H H') (x : Sh K H v t) : Sh K H' v t := by
  cases x with
  | non => exact .non
  | bl b => exact .bl b
  | int i h => exact .int i h
  | str y h => exact .str y h
  | dat h a b c e => exact .dat (dp_same s h) a b c e
  | d0 h => exact .d0 (s _ _ h)
  | d1 i j h y z => exact .d1 i j (s _ _ h) y z
  | odd h n r z => exact .odd (s _ _ h) n (r.same s) z
section
variable {X : Cx}
theorem call_shown (hG : Quiet X.A) (hu : X.A.units + 64 < cLine) :
    CallR X (.builtin "repr") (fun xs H Q => ∃ v t, xs = [v] ∧ Sh X.K H v t ∧ Q (.str t) H) := by
  intro pins s σ H zs us Q I r h
  obtain ⟨v, t, rfl, hv, q⟩ := h
  obtain ⟨u', rfl, rx⟩ := vals1 r
  have fin : ∀ h' u tk, (∀ b o, s.heap.get? b = some o → h'.get? b = some o) →
      EP X pins σ Q (.str t u) { s with heap := h', toks := tk } :=
    fun h' u tk kk => ⟨.str t, H, I.kept (fun b o e => kk b o e), ⟨u, rfl⟩, q⟩
  cases hv with
  | non => obtain rfl := rx; exact PySem.P.repr_of_none ⟨.str _, H, I.tok _, ⟨_, rfl⟩, q⟩
  | bl b => obtain rfl := rx; exact PySem.P.repr_of_bool ⟨.str _, H, I.tok _, ⟨_, rfl⟩, q⟩
  | int i h => obtain ⟨t, rfl⟩ := rx; exact PySem.P.repr_of_int h ⟨.str _, H, I.tok _, ⟨_, rfl⟩, q⟩
  | str x h => obtain ⟨t, rfl⟩ := rx; exact PySem.P.repr_of_str ⟨.str _, H, I.tok _, ⟨_, rfl⟩, q⟩ h
  | @dat a d hd hs hn h60 hz =>
    exact call_repr hG hu pins s σ H _ _ Q I (.cons rx .nil) ⟨a, d, rfl, hd, hs, hn, h60, hz, q⟩
  | @d0 a h =>
    obtain rfl := rx
    obtain ⟨R, n⟩ := dict0_reads I h
    refine repr_of_reads' R (by decide) (fun _ => by simpa using Ne.symm n) hG ?_ (fun _ _ e => e) fin (by decide +kernel)
    exact Nat.lt_of_le_of_lt (Nat.add_le_add_left (by decide) _) hu
  | @d1 a i j h y z =>
    obtain rfl := rx
    obtain ⟨R, n⟩ := dict1_reads I h
    refine repr_of_reads' R (by simp [PyData.showable, PyData.showableKv, y]) (fun _ => by simpa using Ne.symm n) hG ?_ (fun _ _ e => e) fin z
    refine Nat.lt_of_le_of_lt (Nat.add_le_add_left ?_ _) hu
    simp [PyData.depth, PyData.depthKv]
  | @odd a xs ds h nx ho z =>
    obtain rfl := rx
    obtain ⟨_, its, n, rv, e⟩ : ObjOk X.prog X.w H s.heap a (.lst xs) := I.hok a _ h
    obtain ⟨as, R, n⟩ := ho.reads I rv
    refine repr_items e rfl rfl R (fun z => ?_) ho.showable n hG (Nat.le_trans ho.depth (by decide)) hu (fun _ _ e => e) fin z
    subst z
    cases rv
    exact nx rfl
end
end Kr
/-! Values that are made in a row: each is looked at as a line, and shown. -/
namespace Kr
open PySem PySem.Spec
open PyProof.Rows L2

def Good (K : PySem.W.Frag) (H : Hp) (v : V) : Prop := ∃ b t, Val H v b ∧ Sh K H v t
theorem Good.same {K : PySem.W.Frag} {H H' : Hp} {v : V} (s : Same H H') : Good K H v → Good K H' v
  | ⟨b, t, x, y⟩ => ⟨b, t, x.same s, y.same s⟩
/-- such a value comes, whatever else has come -/
def GE (K : PySem.W.Frag) (te : TE) (σ : L2.St) (H : Hp) : Prop :=
  ∀ H1, Same H H1 → ∀ Q : VK, (∀ v H2, Same H1 H2 → Good K H2 v → Q v H2) → te σ H1 Q
def GA (K : PySem.W.Frag) (ta : TA) (n : Nat) (σ : L2.St) (H : Hp) : Prop :=
  ∀ H1, Same H H1 → ∀ Q : List V → Hp → Prop,
    (∀ vs H2, Same H1 H2 → vs.length = n → (∀ v ∈ vs, Good K H2 v) → Q vs H2) → ta σ H1 Q
theorem ga_nil {K : PySem.W.Frag} {σ : L2.St} {H : Hp} : GA K tNil 0 σ H :=
  fun H1 s Q q => q [] H1 (Same.refl _) rfl fun v h => nomatch h
theorem ga_cons {K : PySem.W.Frag} {σ : L2.St} {H : Hp} {te : TE} {ta : TA} {n : Nat} (h : GE K te σ H) (r : GA K ta n σ H) :
    GA K (tCons te ta) (n + 1) σ H := fun H1 s Q q =>
  h H1 s _ fun v H2 s2 gv => r H2 (s.trans s2) _ fun vs H3 s3 l gs => q (v :: vs) H3 (s2.trans s3) (by rw [List.length_cons, l]) fun y hy => by
    rcases List.mem_cons.mp hy with e | hy
    · rw [e]; exact gv.same s3
    · exact gs y hy
theorem GA.use {K : PySem.W.Frag} {σ : L2.St} {H : Hp} {ta : TA} {n : Nat} {Q : List V → Hp → Prop} (g : GA K ta n σ H)
    (q : ∀ vs H2, Same H H2 → vs.length = n → (∀ v ∈ vs, Good K H2 v) → Q vs H2) : ta σ H Q := g H (Same.refl _) Q q

theorem GA.lst {K : PySem.W.Frag} {σ : L2.St} {H : Hp} {ta : TA} {n : Nat} {Q : VK} (g : GA K ta n σ H) (hn : n ≤ 1000)
    (q : ∀ vs H2 r, Same H H2 → vs.length = n → (∀ v ∈ vs, Good K H2 v) → H2 r = none → Q (.ref r) (upd H2 r (.lst vs))) : tLst ta σ H Q :=
  g.use fun vs H2 s l gs => ⟨Nat.le_of_lt (small1000 (by omega)), fun r nr => q vs H2 r s l gs nr⟩

/-- an item that is small -/
def It (K : PySem.W.Frag) (H : Hp) (x : V) : Prop := ∃ d k, Dp K H x d ∧ Kd H x k ∧ d.showable = true ∧ d.hasDict = false ∧
  d.depth ≤ 5 ∧ d.leavesShort 13 = true ∧ d.bulk ≤ 100
theorem It.same {K : PySem.W.Frag} {H H' : Hp} {x : V} (s : Same H H') : It K H x → It K H' x
  | ⟨d, k, a, b, r⟩ => ⟨d, k, dp_same s a, b.same s, r⟩
theorem log2_small {n : Nat} (h : n ≤ 1000000000) : n.log2 < 1920 := by
  by_cases z : n = 0
  · subst z; decide
  · exact (Nat.log2_lt z).mpr (Nat.lt_of_le_of_lt h (Nat.lt_of_lt_of_le (show 1000000000 < 2 ^ 40 by decide) (Nat.pow_le_pow_right (by decide) (by decide))))
theorem it_int {K : PySem.W.Frag} {H : Hp} {z : Int} (h : z.natAbs ≤ 1000000000) : It K H (.int z) :=
  ⟨.int z, "int", .int z, .int z, by simpa [PyData.showable] using log2_small h, by simp [PyData.hasDict], by simp [PyData.depth],
    by simpa only [PyData.leavesShort, decide_eq_true_eq] using PyData.shown_int_le2 (by omega) (by omega), by simp [PyData.bulk]⟩
theorem it_bl {K : PySem.W.Frag} {H : Hp} (b : Bool) : It K H (.bl b) := ⟨.bool b, "bool", .bl b, .bl b, by cases b <;> decide, by cases b <;> decide, by cases b <;> decide, by cases b <;> decide, by cases b <;> decide⟩
theorem it_non {K : PySem.W.Frag} {H : Hp} : It K H .non := ⟨.none, "NoneType", .non, .non, by decide, by decide, by decide, by decide, by decide⟩
theorem it_str1 {K : PySem.W.Frag} {H : Hp} : It K H (.str "1") := ⟨.str "1", "str", .str _, .str _, by decide, by decide, by decide, by decide +kernel, by decide +kernel⟩
theorem it_lst0 {K : PySem.W.Frag} {H : Hp} {a : Addr} (e : H a = some (.lst [])) : It K H (.ref a) :=
  ⟨.list [], "list", .lst (SqL.of e) .nil, .lst e, by decide, by decide, by decide, by decide, by decide⟩
theorem it_lst1 {K : PySem.W.Frag} {H : Hp} {a : Addr} (e : H a = some (.lst [.int 1])) : It K H (.ref a) :=
  ⟨.list [.int 1], "list", .lst (SqL.of e) (.cons (.int 1) .nil), .lst e, by decide, by decide, by decide, by decide +kernel, by decide⟩
theorem it_tup0 {K : PySem.W.Frag} {H : Hp} {a : Addr} (e : H a = some (.tup [])) : It K H (.ref a) :=
  ⟨.tuple [], "tuple", .tup (SqT.of e) .nil, .tup e, by decide, by decide, by decide, by decide, by decide⟩
/-- .. all of them together -/
theorem its_all {K : PySem.W.Frag} {H : Hp} : ∀ {xs : List V}, (∀ x ∈ xs, It K H x) → ∃ ds, DpAll K H xs ds ∧ PyData.showableAll ds = true ∧
    PyData.hasDictAll ds = false ∧ PyData.depthAll ds ≤ 5 ∧ PyData.leavesShortAll 13 ds = true ∧ PyData.bulkAll ds ≤ 101 * xs.length
  | [], _ => ⟨[], .nil, by simp [PyData.showableAll], by simp [PyData.hasDictAll], by simp [PyData.depthAll], by simp [PyData.leavesShortAll], by simp [PyData.bulkAll]⟩
  | x :: xs, h => by
    obtain ⟨ds, h1, h2, h3, h4, h5, h6⟩ := its_all (xs := xs) fun y hy => h y (List.mem_cons_of_mem _ hy)
    obtain ⟨d, k, a1, _, a2, a3, a4, a5, a6⟩ := h x List.mem_cons_self
    refine ⟨d :: ds, .cons a1 h1, by simp [PyData.showableAll, a2, h2], by simp [PyData.hasDictAll, a3, h3], ?_, by simp [PyData.leavesShortAll, a5, h5], ?_⟩
    · simp only [PyData.depthAll]; omega
    · simp only [PyData.bulkAll, List.length_cons]; omega
theorem pow20 : (2 : Nat) ^ 20 = 1048576 := by decide
theorem good_lst {K : PySem.W.Frag} {H : Hp} {a : Addr} {xs : List V} (e : H a = some (.lst xs)) (h : ∀ x ∈ xs, It K H x)
    (l : xs.length ≤ 40) : Good K H (.ref a) := by
  obtain ⟨ds, h1, h2, h3, h4, h5, h6⟩ := its_all h
  refine ⟨_, _, .lst e (fun x hx => ?_) (by omega), .dat (d := .list ds) (.lst (SqL.of e) h1) (by simpa [PyData.showable] using h2) (by simpa [PyData.hasDict] using h3) (by simp only [PyData.depth]; omega) ?_⟩
  · obtain ⟨d, k, _, hk, _⟩ := h x hx
    exact ⟨k, hk⟩
  · exact PyData.shown_fits_bulk (B := 13) (by decide) (by decide) (by simpa [PyData.leavesShort] using h5) (by simp only [PyData.bulk]; rw [pow20]; omega)
theorem good_tup {K : PySem.W.Frag} {H : Hp} {a : Addr} {xs : List V} (e : H a = some (.tup xs)) (h : ∀ x ∈ xs, It K H x)
    (l : xs.length ≤ 40) : Good K H (.ref a) := by
  obtain ⟨ds, h1, h2, h3, h4, h5, h6⟩ := its_all h
  refine ⟨_, _, .tup e (fun x hx => ?_) (by omega), .dat (d := .tuple ds) (.tup (SqT.of e) h1) (by simpa [PyData.showable] using h2) (by simpa [PyData.hasDict] using h3) (by simp only [PyData.depth]; omega) ?_⟩
  · obtain ⟨d, k, _, hk, _⟩ := h x hx
    exact ⟨k, hk⟩
  · exact PyData.shown_fits_bulk (B := 13) (by decide) (by decide) (by simpa [PyData.leavesShort] using h5) (by simp only [PyData.bulk]; rw [pow20]; omega)
/-- a value of another kind, or small -/
def OddV (K : PySem.W.Frag) (H : Hp) (v : V) : Prop := It K H v ∨ ∃ b, v = .ref b ∧ H b = some (.dK [])
theorem OddV.same {K : PySem.W.Frag} {H H' : Hp} {x : V} (s : Same H H') : OddV K H x → OddV K H' x
  | .inl h => .inl (h.same s)
  | .inr ⟨b, e, h⟩ => .inr ⟨b, e, s _ _ h⟩
/-- small ints -/
def SI (x : V) : Prop := ∃ z : Int, x = .int z ∧ z.natAbs ≤ 1000000000
theorem SI.it {K : PySem.W.Frag} {H : Hp} {x : V} : SI x → It K H x
  | ⟨z, e, h⟩ => by rw [e]; exact it_int h
theorem shortInts : ∀ {H : Hp} {xs : List V} {b : Addr}, H b = some (.dK []) → ∀ ys : List V, (∀ x ∈ xs, SI x) → (∀ x ∈ ys, SI x) →
    ∃ ds, OddAll H (xs ++ [.ref b] ++ ys) ds ∧ PyData.leavesShortAll 13 ds = true ∧ PyData.bulkAll ds ≤ 101 * (xs.length + ys.length + 1) := by
  intro H xs b e ys hx hy
  have rowI : ∀ zs : List V, (∀ x ∈ zs, SI x) → ∀ {us : List V} {ds : List PyData}, OddAll H us ds → PyData.leavesShortAll 13 ds = true →
      ∃ es, OddAll H (zs ++ us) es ∧ PyData.leavesShortAll 13 es = true ∧ PyData.bulkAll es ≤ 101 * zs.length + PyData.bulkAll ds := by
    intro zs
    induction zs with
    | nil => exact fun _ us ds h l => ⟨ds, h, l, by simp⟩
    | cons z zs ih =>
      intro h us ds ho l
      obtain ⟨es, h1, h2, h3⟩ := ih (fun x hx => h x (List.mem_cons_of_mem _ hx)) ho l
      obtain ⟨i, rfl, hi⟩ := h z List.mem_cons_self
      refine ⟨.int i :: es, .int i (log2_small hi) h1, ?_, ?_⟩
      · have y : PyData.leavesShort 13 (.int i) = true := by simpa only [PyData.leavesShort, decide_eq_true_eq] using PyData.shown_int_le2 (by omega) (by omega)
        simp [PyData.leavesShortAll, y, h2]
      · simp only [PyData.bulkAll, PyData.bulk, List.length_cons]; omega
  obtain ⟨ds, h1, h2, h3⟩ := rowI ys hy (us := []) (ds := []) .nil (by simp [PyData.leavesShortAll])
  rw [List.append_nil] at h1
  have z : OddAll H (.ref b :: ys) (.dict [] :: ds) := .dct e h1
  obtain ⟨es, g1, g2, g3⟩ := rowI xs hx z (by simp [PyData.leavesShortAll, PyData.leavesShort, PyData.leavesShortKv, h2])
  refine ⟨es, by simpa using g1, g2, ?_⟩
  simp only [PyData.bulkAll, PyData.bulk, PyData.bulkKv] at g3 h3
  omega
theorem good_odd {K : PySem.W.Frag} {H : Hp} {a : Addr} {xs ys : List V} {v : V} (e : H a = some (.lst (xs ++ [v] ++ ys)))
    (hv : OddV K H v) (hx : ∀ x ∈ xs, SI x) (hy : ∀ x ∈ ys, SI x) (l : xs.length + ys.length ≤ 30) : Good K H (.ref a) := by
  rcases hv with hv | ⟨b, rfl, hb⟩
  · refine good_lst e (fun x hm => ?_) (by simp; omega)
    simp only [List.mem_append, List.mem_cons, List.not_mem_nil, or_false] at hm
    rcases hm with (hm | hm) | hm
    · exact (hx x hm).it
    · rw [hm]; exact hv
    · exact (hy x hm).it
  · obtain ⟨ds, h1, h2, h3⟩ := shortInts hb ys hx hy
    refine ⟨_, _, .lst e (fun x hm => ?_) (by simp; omega), .odd e (by simp) h1 ?_⟩
    · simp only [List.mem_append, List.mem_cons, List.not_mem_nil, or_false] at hm
      rcases hm with (hm | hm) | hm
      · obtain ⟨z, rfl, _⟩ := hx x hm; exact ⟨_, .int z⟩
      · rw [hm]; exact ⟨_, .dct hb⟩
      · obtain ⟨z, rfl, _⟩ := hy x hm; exact ⟨_, .int z⟩
    · exact PyData.shown_fits_bulk (B := 13) (by decide) (by decide) (by simpa [PyData.leavesShort] using h2) (by simp only [PyData.bulk]; rw [pow20]; omega)
theorem cut_mem {xs : List V} {lo hi : Option Int} {x : V} (h : x ∈ cutV xs lo hi) : x ∈ xs :=
  List.mem_of_mem_drop (List.mem_of_mem_take h)
theorem cut_si {xs : List V} {lo hi : Option Int} (h : ∀ x ∈ xs, SI x) : ∀ x ∈ cutV xs lo hi, SI x := fun x hx => h x (cut_mem hx)
theorem rep_si {xs : List V} {n : Nat} (h : ∀ x ∈ xs, SI x) : ∀ x ∈ (List.replicate n xs).flatten, SI x := fun x hx => by
  obtain ⟨l, h1, h2⟩ := List.mem_flatten.mp hx
  rw [List.eq_of_mem_replicate h1] at h2
  exact h x h2
theorem si_one (z : Int) (h : z.natAbs ≤ 1000000000) : ∀ x ∈ [V.int z], SI x := fun x hx => by
  have e : x = .int z := by simpa using hx
  exact ⟨z, e, h⟩
theorem si_app {xs ys : List V} (h1 : ∀ x ∈ xs, SI x) (h2 : ∀ x ∈ ys, SI x) : ∀ x ∈ xs ++ ys, SI x := fun x hx =>
  (List.mem_append.mp hx).elim (h1 x) (h2 x)
theorem si_map {ns : List Int} (h : ∀ z ∈ ns, z.natAbs ≤ 1000000000) : ∀ x ∈ ns.map V.int, SI x := fun x hx => by
  obtain ⟨z, hz, rfl⟩ := List.mem_map.mp hx
  exact ⟨z, rfl, h z hz⟩
theorem good_si {K : PySem.W.Frag} {H : Hp} {a : Addr} {xs : List V} (e : H a = some (.lst xs)) (h : ∀ x ∈ xs, SI x)
    (l : xs.length ≤ 40) : Good K H (.ref a) := good_lst e (fun x hx => (h x hx).it) l
theorem good_sc {K : PySem.W.Frag} {H : Hp} {v : V} {k : String} {t : Str} (hk : Kd H v k) (e : isLT k = false) (h : Sh K H v t) : Good K H v :=
  ⟨false, t, .oth hk e, h⟩
end Kr
/-! Polynomials as lists of ints, their numbers as functions. -/
namespace Kr
abbrev Fn := Nat → Int
def co (p : List Int) : Fn := fun i => p.getD i 0
/-- no nought at the end -/
def Cn (p : List Int) : Prop := ∀ z, p.getLast? = some z → z ≠ 0
theorem co_nil : co [] = fun _ => 0 := by funext i; simp [co]
theorem co_big {p : List Int} {i : Nat} (h : p.length ≤ i) : co p i = 0 := by simp [co, List.getD, List.getElem?_eq_none h]
theorem co_at {p : List Int} {i : Nat} (h : i < p.length) : co p i = p[i] := by simp [co, List.getD, h]
theorem co_0 (a : Int) (p : List Int) : co (a :: p) 0 = a := by simp [co]
theorem co_s (a : Int) (p : List Int) (i : Nat) : co (a :: p) (i + 1) = co p i := by simp [co]
theorem cn_last {p : List Int} (c : Cn p) (h : p ≠ []) : co p (p.length - 1) ≠ 0 := by
  have l : 0 < p.length := List.length_pos_iff.mpr h
  rw [co_at (by omega)]
  refine c _ ?_
  rw [List.getLast?_eq_some_getLast h, List.getLast_eq_getElem]
theorem co_ext {p q : List Int} (cp : Cn p) (cq : Cn q) (h : ∀ i, co p i = co q i) : p = q := by
  have key : ∀ {p q : List Int}, Cn q → (∀ i, co p i = co q i) → ¬ p.length < q.length := by
    intro p q cq h l
    have hq : q ≠ [] := by intro e; rw [e] at l; exact absurd l (Nat.not_lt_zero _)
    have := cn_last cq hq
    rw [← h, co_big (by omega)] at this
    exact this rfl
  have l1 := key cq h
  have l2 := key cp fun i => (h i).symm
  refine List.ext_getElem (by omega) fun i h1 h2 => ?_
  have := h i
  rwa [co_at h1, co_at h2] at this
theorem cn_nil : Cn [] := fun z h => nomatch h
theorem cn_of {p : List Int} (h : p ≠ [] → co p (p.length - 1) ≠ 0) : Cn p := fun z hz => by
  have hp : p ≠ [] := by intro e; rw [e] at hz; cases hz
  have l : 0 < p.length := List.length_pos_iff.mpr hp
  have := h hp
  rw [co_at (by omega)] at this
  rw [List.getLast?_eq_some_getLast hp, List.getLast_eq_getElem] at hz
  exact Option.some.inj hz ▸ this

/-! sums -/
def trim : List Int → List Int
  | [] => []
  | a :: p => if trim p = [] ∧ a = 0 then [] else a :: trim p
theorem co_trim : ∀ (p : List Int) (i : Nat), co (trim p) i = co p i
  | [], i => rfl
  | a :: p, i => by
    have ih := co_trim p
    unfold trim
    split
    · rename_i h
      cases i with
      | zero => rw [co_0, h.2]; simp [co]
      | succ i => rw [co_s, ← ih, h.1]; simp [co]
    · cases i with
      | zero => rw [co_0, co_0]
      | succ i => rw [co_s, co_s, ih]
theorem cn_trim : ∀ p : List Int, Cn (trim p)
  | [] => cn_nil
  | a :: p => by
    have ih := cn_trim p
    unfold trim
    split
    · exact cn_nil
    · rename_i h
      intro z hz
      by_cases e : trim p = []
      · rw [e] at hz
        have : a = z := by simpa using hz
        intro z0
        exact h ⟨e, by omega⟩
      · rw [List.getLast?_cons, List.getLast?_eq_some_getLast e] at hz
        refine ih z ?_
        rw [List.getLast?_eq_some_getLast e]
        simpa using hz
theorem trim_length : ∀ p : List Int, (trim p).length ≤ p.length
  | [] => Nat.le_refl _
  | a :: p => by
    have ih := trim_length p
    unfold trim
    split
    · exact Nat.zero_le _
    · simp only [List.length_cons]; omega
theorem trim_cn {p : List Int} (c : Cn p) : trim p = p := co_ext (cn_trim p) c fun i => co_trim p i
theorem trim_ext {p q : List Int} (h : ∀ i, co p i = co q i) : trim p = trim q :=
  co_ext (cn_trim p) (cn_trim q) fun i => by rw [co_trim, co_trim, h]
theorem trim_mem : ∀ {p : List Int} {z : Int}, z ∈ trim p → z ∈ p
  | a :: p, z, h => by
    unfold trim at h
    split at h
    · cases h
    · rcases List.mem_cons.mp h with e | e
      · rw [e]; exact List.mem_cons_self
      · exact List.mem_cons_of_mem _ (trim_mem e)
def addF : List Int → List Int → List Int
  | [], q => q
  | a :: p, [] => a :: p
  | a :: p, b :: q => (a + b) :: addF p q
theorem co_add : ∀ (p q : List Int) (i : Nat), co (addF p q) i = co p i + co q i
  | [], q, i => by simp [addF, co]
  | a :: p, [], i => by simp [addF, co]
  | a :: p, b :: q, 0 => by simp [addF, co]
  | a :: p, b :: q, i + 1 => by simp only [addF, co_s]; exact co_add p q i
theorem addF_length : ∀ (p q : List Int), (addF p q).length = max p.length q.length
  | [], q => by simp [addF]
  | a :: p, [] => by simp [addF]
  | a :: p, b :: q => by simp only [addF, List.length_cons, addF_length p q]; omega
theorem addF_comm : ∀ (p q : List Int), addF p q = addF q p
  | [], [] => rfl
  | [], b :: q => rfl
  | a :: p, [] => rfl
  | a :: p, b :: q => by simp only [addF, addF_comm p q, Int.add_comm]
/-- as the program does it: the longer one ahead -/
theorem addF_zip : ∀ (p q : List Int), q.length ≤ p.length → addF p q = (List.zipWith (· + ·) p q) ++ p.drop q.length
  | [], [], _ => rfl
  | a :: p, [], _ => rfl
  | a :: p, b :: q, h => by
    simp only [addF, List.zipWith_cons_cons, List.length_cons, List.drop_succ_cons, List.cons_append]
    rw [addF_zip p q (by simpa using h)]
def sclF (c : Int) (p : List Int) : List Int := p.map (c * ·)
theorem co_scl (c : Int) : ∀ (p : List Int) (i : Nat), co (sclF c p) i = c * co p i
  | [], i => by simp [sclF, co]
  | a :: p, 0 => by simp [sclF, co]
  | a :: p, i + 1 => by
    show co (c * a :: sclF c p) (i + 1) = _
    rw [co_s, co_s, co_scl c p i]
theorem cn_scl {c : Int} {p : List Int} (hc : c ≠ 0) (h : Cn p) : Cn (sclF c p) := cn_of fun hp => by
  have e : (sclF c p).length = p.length := by simp [sclF]
  have hp2 : p ≠ [] := by intro z; rw [z] at hp; exact hp rfl
  rw [co_scl, e]
  exact Int.mul_ne_zero hc (cn_last h hp2)

/-! products -/
def cv : Fn → Fn → Fn
  | f, g, 0 => f 0 * g 0
  | f, g, i + 1 => f 0 * g (i + 1) + cv (fun n => f (n + 1)) g i
theorem cv_add_l : ∀ (i : Nat) (f f' g : Fn), cv (fun n => f n + f' n) g i = cv f g i + cv f' g i
  | 0, f, f', g => by simp only [cv]; grind
  | i + 1, f, f', g => by
    simp only [cv]
    have := cv_add_l i (fun n => f (n + 1)) (fun n => f' (n + 1)) g
    rw [this]; grind
theorem cv_scl_l (c : Int) : ∀ (i : Nat) (f g : Fn), cv (fun n => c * f n) g i = c * cv f g i
  | 0, f, g => by simp only [cv]; grind
  | i + 1, f, g => by
    simp only [cv]
    have := cv_scl_l c i (fun n => f (n + 1)) g
    rw [this]; grind
theorem cv_add_r : ∀ (i : Nat) (f g g' : Fn), cv f (fun n => g n + g' n) i = cv f g i + cv f g' i
  | 0, f, g, g' => by simp only [cv]; grind
  | i + 1, f, g, g' => by
    simp only [cv]
    rw [cv_add_r i (fun n => f (n + 1)) g g']; grind
theorem cv_right : ∀ (i : Nat) (f g : Fn), cv f g (i + 1) = f (i + 1) * g 0 + cv f (fun n => g (n + 1)) i
  | 0, f, g => by simp only [cv]; grind
  | i + 1, f, g => by
    have := cv_right i (fun n => f (n + 1)) g
    rw [cv, this]
    simp only [cv]; grind
theorem cv_comm : ∀ (i : Nat) (f g : Fn), cv f g i = cv g f i
  | 0, f, g => by simp only [cv]; grind
  | i + 1, f, g => by
    rw [cv_right i g f, cv, cv_comm i (fun n => f (n + 1)) g]; grind
theorem cv_assoc : ∀ (i : Nat) (f g h : Fn), cv (cv f g) h i = cv f (cv g h) i
  | 0, f, g, h => by simp only [cv]; grind
  | i + 1, f, g, h => by
    have e : (fun n => cv f g (n + 1)) = fun n => f 0 * g (n + 1) + cv (fun n => f (n + 1)) g n := by funext n; rfl
    have ih := cv_assoc i (fun n => f (n + 1)) g h
    rw [cv, e, cv_add_l i (fun n => f 0 * g (n + 1)) (cv (fun n => f (n + 1)) g) h, cv_scl_l (f 0) i (fun n => g (n + 1)) h, ih]
    simp only [cv]; grind
theorem cv_zero : ∀ (i : Nat) (g : Fn), cv (fun _ => 0) g i = 0
  | 0, g => by simp [cv]
  | i + 1, g => by simp [cv, cv_zero i g]
def dv (f : Fn) : Fn := fun i => ((i : Int) + 1) * f (i + 1)
theorem cv_slope : ∀ (i : Nat) (f g : Fn), dv (cv f g) i = cv (dv f) g i + cv f (dv g) i
  | 0, f, g => by simp only [dv, cv]; grind
  | i + 1, f, g => by
    have ih := cv_slope i (fun n => f (n + 1)) g
    have e : (fun n => dv f (n + 1)) = fun n => dv (fun n => f (n + 1)) n + f (n + 2) := by
      funext n
      show (((n + 1 : Nat) : Int) + 1) * f (n + 2) = ((n : Int) + 1) * f (n + 2) + f (n + 2)
      grind
    have a1 : cv (dv f) g (i + 1) = dv f 0 * g (i + 1) + cv (fun n => dv f (n + 1)) g i := rfl
    have a2 : cv f (dv g) (i + 1) = f 0 * dv g (i + 1) + cv (fun n => f (n + 1)) (dv g) i := rfl
    rw [a1, a2, e, cv_add_l i (dv fun n => f (n + 1)) (fun n => f (n + 2)) g]
    have a3 : cv (fun n => f (n + 1)) g (i + 1) = f 1 * g (i + 1) + cv (fun n => f (n + 2)) g i := rfl
    have a4 : dv (cv f g) (i + 1) = (((i + 1 : Nat) : Int) + 1) * (f 0 * g (i + 2) + cv (fun n => f (n + 1)) g (i + 1)) := rfl
    have a5 : dv (cv (fun n => f (n + 1)) g) i = ((i : Int) + 1) * cv (fun n => f (n + 1)) g (i + 1) := rfl
    have a6 : dv f 0 = f 1 := by simp [dv]
    have a7 : dv g (i + 1) = (((i + 1 : Nat) : Int) + 1) * g (i + 2) := rfl
    rw [a5] at ih
    rw [a4, a6, a7]
    grind
theorem cv_vanish : ∀ (a b : Nat) (f g : Fn), (∀ k, a < k → f k = 0) → (∀ k, b < k → g k = 0) →
    cv f g (a + b) = f a * g b ∧ ∀ k, a + b < k → cv f g k = 0
  | 0, b, f, g, hf, hg => by
    have z : (fun n => f (n + 1)) = fun _ => 0 := by funext n; exact hf _ (Nat.succ_pos n)
    have all : ∀ k, cv f g k = f 0 * g k := by
      intro k
      cases k with
      | zero => rfl
      | succ k => rw [cv, z, cv_zero, Int.add_zero]
    exact ⟨by rw [Nat.zero_add, all], fun k hk => by rw [all, hg k (by omega), Int.mul_zero]⟩
  | a + 1, b, f, g, hf, hg => by
    obtain ⟨h1, h2⟩ := cv_vanish a b (fun n => f (n + 1)) g (fun k hk => hf _ (by omega)) hg
    refine ⟨?_, fun k hk => ?_⟩
    · rw [show a + 1 + b = (a + b) + 1 by omega, cv, h1, hg _ (by omega), Int.mul_zero, Int.zero_add]
    · obtain ⟨k, rfl⟩ : ∃ j, k = j + 1 := ⟨k - 1, by omega⟩
      rw [cv, h2 k (by omega), hg _ (by omega)]; simp
/-- the product of two lists, as the program lays it -/
def mulF (p q : List Int) : List Int := if p = [] ∨ q = [] then [] else (List.range (p.length + q.length - 1)).map (cv (co p) (co q))
theorem co_van (p : List Int) : ∀ k, p.length - 1 < k → co p k = 0 := fun k h => co_big (by omega)
theorem co_tab (f : Fn) (n : Nat) (h : ∀ k, n ≤ k → f k = 0) : co ((List.range n).map f) = f := by
  funext i
  by_cases l : i < n
  · rw [co_at (by simpa using l)]; simp
  · rw [co_big (by simp; omega), h i (by omega)]
theorem co_mul (p q : List Int) : co (mulF p q) = cv (co p) (co q) := by
  unfold mulF
  split
  · rename_i h
    funext i
    rcases h with h | h
    · rw [h, co_nil, cv_zero]
    · rw [h, cv_comm, co_nil, cv_zero]
  · rename_i h
    have hp : 0 < p.length := List.length_pos_iff.mpr fun e => h (.inl e)
    have hq : 0 < q.length := List.length_pos_iff.mpr fun e => h (.inr e)
    exact co_tab _ _ fun k hk => (cv_vanish _ _ _ _ (co_van p) (co_van q)).2 k (by omega)
theorem mulF_length {p q : List Int} (hp : p ≠ []) (hq : q ≠ []) : (mulF p q).length = p.length + q.length - 1 := by
  unfold mulF
  rw [if_neg (fun h => h.elim hp hq)]; simp
theorem mulF_le (p q : List Int) : (mulF p q).length ≤ p.length + q.length - 1 := by
  unfold mulF
  split <;> simp
theorem cn_mul {p q : List Int} (cp : Cn p) (cq : Cn q) : Cn (mulF p q) := cn_of fun h => by
  have hp : p ≠ [] := by intro e; rw [e] at h; exact h rfl
  have hq : q ≠ [] := by intro e; rw [e] at h; unfold mulF at h; exact h (by simp)
  have lp : 0 < p.length := List.length_pos_iff.mpr hp
  have lq : 0 < q.length := List.length_pos_iff.mpr hq
  rw [mulF_length hp hq, co_mul, show p.length + q.length - 1 - 1 = (p.length - 1) + (q.length - 1) by omega,
    (cv_vanish _ _ _ _ (co_van p) (co_van q)).1]
  exact Int.mul_ne_zero (cn_last cp hp) (cn_last cq hq)
theorem mulF_comm {p q : List Int} (cp : Cn p) (cq : Cn q) : mulF p q = mulF q p :=
  co_ext (cn_mul cp cq) (cn_mul cq cp) fun i => by rw [co_mul, co_mul, cv_comm]
theorem mulF_assoc {p q r : List Int} (cp : Cn p) (cq : Cn q) (cr : Cn r) : mulF (mulF p q) r = mulF p (mulF q r) :=
  co_ext (cn_mul (cn_mul cp cq) cr) (cn_mul cp (cn_mul cq cr)) fun i => by rw [co_mul, co_mul, co_mul, co_mul, cv_assoc]
theorem mulF_distrib {p q r : List Int} (cp : Cn p) (cq : Cn q) (cr : Cn r) : mulF p (trim (addF q r)) = trim (addF (mulF p q) (mulF p r)) :=
  co_ext (cn_mul cp (cn_trim _)) (cn_trim _) fun i => by
    have e : co (trim (addF q r)) = fun n => co q n + co r n := by funext n; rw [co_trim, co_add]
    rw [co_mul, e, cv_add_r, co_trim, co_add, co_mul, co_mul]
theorem mul_one_num {p : List Int} (c : Int) : mulF p [c] = if p = [] then [] else sclF c p := by
  by_cases h : p = []
  · simp [mulF, h]
  rw [if_neg h]
  have lp : 0 < p.length := List.length_pos_iff.mpr h
  refine List.ext_getElem (by rw [mulF_length h (by simp)]; simp [sclF]) fun i h1 h2 => ?_
  rw [← co_at h1, ← co_at h2, co_mul, co_scl, cv_comm]
  cases i with
  | zero => simp [cv, co]
  | succ i =>
    have z : (fun n => co [c] (n + 1)) = fun _ => 0 := by funext n; simp [co]
    rw [cv, z, cv_zero]; simp [co]

/-! slopes -/
def slF (p : List Int) : List Int := (List.range (p.length - 1)).map (dv (co p))
theorem co_sl (p : List Int) : co (slF p) = dv (co p) := co_tab _ _ fun k h => by
  show ((k : Int) + 1) * co p (k + 1) = 0
  rw [co_big (by omega), Int.mul_zero]
theorem slF_length (p : List Int) : (slF p).length = p.length - 1 := by simp [slF]
theorem cn_sl {p : List Int} (h : Cn p) : Cn (slF p) := cn_of fun hs => by
  have l : 0 < (slF p).length := List.length_pos_iff.mpr hs
  rw [slF_length] at l
  have hp : p ≠ [] := by intro e; rw [e] at l; exact absurd l (by simp)
  rw [slF_length, co_sl]
  show (((p.length - 1 - 1 : Nat) : Int) + 1) * co p (p.length - 1 - 1 + 1) ≠ 0
  rw [show p.length - 1 - 1 + 1 = p.length - 1 by omega]
  exact Int.mul_ne_zero (by omega) (cn_last h hp)
theorem sl_mul {p q : List Int} (cp : Cn p) (cq : Cn q) : slF (mulF p q) = trim (addF (mulF (slF p) q) (mulF p (slF q))) :=
  co_ext (cn_sl (cn_mul cp cq)) (cn_trim _) fun i => by
    rw [co_sl, co_mul, cv_slope, co_trim, co_add, co_mul, co_mul, co_sl, co_sl]

/-! values -/
def ev (x : Int) : List Int → Int
  | [] => 0
  | a :: p => a + x * ev x p
theorem ev_add (x : Int) : ∀ p q : List Int, ev x (addF p q) = ev x p + ev x q
  | [], q => by simp [addF, ev]
  | a :: p, [] => by simp [addF, ev]
  | a :: p, b :: q => by simp only [addF, ev, ev_add x p q]; grind
theorem ev_scl (x c : Int) : ∀ p : List Int, ev x (sclF c p) = c * ev x p
  | [] => by simp [sclF, ev]
  | a :: p => by
    have ih := ev_scl x c p
    show ev x (c * a :: sclF c p) = _
    simp only [ev, ih]; grind
theorem ev_zero (x : Int) : ∀ p : List Int, (∀ i, co p i = 0) → ev x p = 0
  | [], _ => rfl
  | a :: p, h => by
    have h0 := h 0
    rw [co_0] at h0
    simp only [ev, h0, ev_zero x p fun i => by have := h (i + 1); rwa [co_s] at this]
    grind
theorem ev_ext (x : Int) : ∀ p q : List Int, (∀ i, co p i = co q i) → ev x p = ev x q
  | [], q, h => by rw [ev_zero x q fun i => by rw [← h]; simp [co]]; rfl
  | a :: p, [], h => by rw [ev_zero x (a :: p) fun i => by rw [h]; simp [co]]; rfl
  | a :: p, b :: q, h => by
    have h0 := h 0
    rw [co_0, co_0] at h0
    simp only [ev, h0, ev_ext x p q fun i => by have := h (i + 1); rwa [co_s, co_s] at this]
theorem ev_trim (x : Int) (p : List Int) : ev x (trim p) = ev x p := ev_ext x _ _ (co_trim p)
theorem ev_mul (x : Int) : ∀ p q : List Int, ev x (mulF p q) = ev x p * ev x q
  | [], q => by simp [mulF, ev]
  | a :: p, q => by
    have ih := ev_mul x p q
    have e : ev x (mulF (a :: p) q) = ev x (addF (sclF a q) (0 :: mulF p q)) := ev_ext x _ _ fun i => by
      rw [co_mul, co_add, co_scl]
      cases i with
      | zero => rw [co_0, cv, co_0, Int.add_zero]
      | succ i =>
        have z : (fun n => co (a :: p) (n + 1)) = co p := by funext n; exact co_s a p n
        rw [co_s, cv, z, co_0, co_mul]
    rw [e, ev_add, ev_scl]
    simp only [ev, ih]; grind
/-- from behind, as the program reckons it -/
theorem ev_back (x : Int) (p : List Int) : p.reverse.foldl (fun v n => v * x + n) 0 = ev x p := by
  rw [List.foldl_reverse]
  induction p with
  | nil => rfl
  | cons a p ih => simp only [List.foldr_cons, ev, ih]; grind

/-! plain ones -/
def cnt (p : List Int) : Nat := p.foldr (fun z g => Nat.gcd z.natAbs g) 0
theorem cnt_dvd : ∀ {p : List Int} {z : Int}, z ∈ p → (cnt p : Int) ∣ z
  | a :: p, z, h => by
    rcases List.mem_cons.mp h with e | e
    · rw [e]; exact Int.dvd_natAbs.mp (Int.natCast_dvd_natCast.mpr (Nat.gcd_dvd_left _ _))
    · exact Int.dvd_trans (Int.natCast_dvd_natCast.mpr (Nat.gcd_dvd_right _ _)) (cnt_dvd e)
theorem cnt_scl (c : Int) : ∀ p : List Int, cnt (sclF c p) = c.natAbs * cnt p
  | [] => by simp [sclF, cnt]
  | a :: p => by
    have ih := cnt_scl c p
    show Nat.gcd (c * a).natAbs (cnt (sclF c p)) = c.natAbs * Nat.gcd a.natAbs (cnt p)
    rw [ih, Int.natAbs_mul, Nat.gcd_mul_left]
theorem cnt_zero : ∀ {p : List Int}, cnt p = 0 → ∀ z ∈ p, z = 0
  | a :: p, h, z, hz => by
    have h' : Nat.gcd a.natAbs (cnt p) = 0 := h
    obtain ⟨h1, h2⟩ := Nat.gcd_eq_zero_iff.mp h'
    rcases List.mem_cons.mp hz with e | e
    · rw [e]; omega
    · exact cnt_zero h2 z e
theorem cnt_pos {p : List Int} (c : Cn p) (h : p ≠ []) : 0 < cnt p := by
  apply Nat.pos_of_ne_zero
  intro e
  have l : 0 < p.length := List.length_pos_iff.mpr h
  have := cn_last c h
  rw [co_at (by omega)] at this
  exact this (cnt_zero e _ (List.getElem_mem _))
theorem cnt_le : ∀ {p : List Int} {z : Int}, z ∈ p → z ≠ 0 → cnt p ≤ z.natAbs := fun h h0 =>
  Nat.le_of_dvd (by omega) (Int.natCast_dvd_natCast.mp (Int.dvd_natAbs.mpr (cnt_dvd h)))
/-- by what a plain one is divided -/
def sgc (p : List Int) : Int := if co p (p.length - 1) < 0 then -(cnt p : Int) else cnt p
def plF (p : List Int) : List Int := p.map fun z => z.fdiv (sgc p)
theorem sgc_abs (p : List Int) : (sgc p).natAbs = cnt p := by unfold sgc; split <;> omega
theorem sgc_dvd {p : List Int} {z : Int} (h : z ∈ p) : sgc p ∣ z := by
  have := cnt_dvd h
  unfold sgc
  split
  · exact Int.neg_dvd.mpr this
  · exact this
theorem sgc_ne {p : List Int} (c : Cn p) (h : p ≠ []) : sgc p ≠ 0 := by
  have := cnt_pos c h
  have := sgc_abs p
  omega
theorem pl_scl {p : List Int} (c : Cn p) : sclF (sgc p) (plF p) = p := by
  by_cases h : p = []
  · rw [h]; rfl
  unfold sclF plF
  rw [List.map_map]
  refine (List.map_congr_left fun z hz => ?_).trans (List.map_id p)
  show sgc p * z.fdiv (sgc p) = z
  have := sgc_dvd hz
  obtain ⟨k, hk⟩ := this
  rw [hk, Int.mul_fdiv_cancel_left k (sgc_ne c h)]
theorem plF_length (p : List Int) : (plF p).length = p.length := by simp [plF]
theorem scl_inj {c : Int} (hc : c ≠ 0) {p q : List Int} (h : sclF c p = sclF c q) : p = q := by
  have l : p.length = q.length := by have := congrArg List.length h; simpa [sclF] using this
  refine List.ext_getElem l fun i h1 h2 => ?_
  have e : co (sclF c p) i = co (sclF c q) i := by rw [h]
  rw [co_scl, co_scl, co_at h1, co_at h2] at e
  exact Int.eq_of_mul_eq_mul_left hc e
theorem cn_pl {p : List Int} (c : Cn p) : Cn (plF p) := cn_of fun h0 e => by
  have hp : p ≠ [] := by intro z; rw [z] at h0; exact h0 rfl
  have l : 0 < p.length := List.length_pos_iff.mpr hp
  refine cn_last c hp ?_
  have z : co (sclF (sgc p) (plF p)) (p.length - 1) = co p (p.length - 1) := by rw [pl_scl c]
  rw [← z, co_scl, ← plF_length p, e, Int.mul_zero]
theorem pl_cnt {p : List Int} (c : Cn p) (h : p ≠ []) : cnt (plF p) = 1 := by
  have e := cnt_scl (sgc p) (plF p)
  rw [pl_scl c, sgc_abs] at e
  have := cnt_pos c h
  exact Nat.eq_of_mul_eq_mul_left this (by rw [Nat.mul_one]; exact e.symm)
theorem pl_lead {p : List Int} (c : Cn p) (h : p ≠ []) : 0 < co (plF p) (p.length - 1) := by
  have l : 0 < p.length := List.length_pos_iff.mpr h
  have z : sgc p * co (plF p) (p.length - 1) = co p (p.length - 1) := by rw [← co_scl, pl_scl c]
  have n0 := cn_last c h
  have cp := cnt_pos c h
  by_cases s : co p (p.length - 1) < 0
  · have e : sgc p = -(cnt p : Int) := if_pos s
    rw [e] at z
    apply Int.lt_of_not_ge
    intro w
    have : 0 ≤ -(cnt p : Int) * co (plF p) (p.length - 1) := Int.mul_nonneg_of_nonpos_of_nonpos (by omega) w
    omega
  · have e : sgc p = (cnt p : Int) := if_neg s
    rw [e] at z
    apply Int.lt_of_not_ge
    intro w
    have : (cnt p : Int) * co (plF p) (p.length - 1) ≤ 0 := Int.mul_nonpos_of_nonneg_of_nonpos (by omega) w
    omega
/-- one that is plain -/
theorem pl_of {p : List Int} (h1 : p ≠ [] → cnt p = 1 ∧ 0 < co p (p.length - 1)) : plF p = p := by
  by_cases h : p = []
  · rw [h]; rfl
  obtain ⟨a, b⟩ := h1 h
  have e : sgc p = 1 := by
    unfold sgc
    rw [if_neg (by omega), a]; rfl
  unfold plF
  rw [e]
  refine (List.map_congr_left fun z hz => ?_).trans (List.map_id p)
  exact Int.fdiv_one z
theorem pl_pl {p : List Int} (c : Cn p) : plF (plF p) = plF p := pl_of fun h => by
  have hp : p ≠ [] := by intro z; rw [z] at h; exact h rfl
  exact ⟨pl_cnt c hp, by rw [plF_length]; exact pl_lead c hp⟩
/-- plain ones that are a number times each other are alike -/
theorem pl_uniq {p q : List Int} {c d : Int} (cp : Cn p) (cq : Cn q) (hc : c ≠ 0) (hd : d ≠ 0) (e : sclF c p = sclF d q) (h0 : p ≠ [])
    (p1 : cnt p = 1) (p2 : 0 < co p (p.length - 1)) (q1 : cnt q = 1) (q2 : 0 < co q (q.length - 1)) : p = q := by
  have l : p.length = q.length := by have := congrArg List.length e; simpa [sclF] using this
  have a := cnt_scl c p
  rw [e, cnt_scl, p1, q1] at a
  have z : c * co p (p.length - 1) = d * co q (p.length - 1) := by rw [← co_scl, ← co_scl, e]
  rw [l] at z p2
  have cd : c = d := by
    rcases Int.lt_trichotomy c 0 with s | s | s
    · have : c * co p (q.length - 1) < 0 := Int.mul_neg_of_neg_of_pos s p2
      rcases Int.lt_trichotomy d 0 with t | t | t
      · omega
      · exact absurd t hd
      · have := Int.mul_pos t q2; omega
    · exact absurd s hc
    · have := Int.mul_pos s p2
      rcases Int.lt_trichotomy d 0 with t | t | t
      · have : d * co q (q.length - 1) < 0 := Int.mul_neg_of_neg_of_pos t q2
        omega
      · exact absurd t hd
      · omega
  rw [cd] at e
  exact scl_inj hd e
theorem pl_times {p : List Int} {c : Int} (cp : Cn p) (hc : c ≠ 0) : plF (sclF c p) = plF p := by
  by_cases h : p = []
  · rw [h]; rfl
  have ce := cn_scl hc cp
  have hs : sclF c p ≠ [] := by intro z; exact h (List.map_eq_nil_iff.mp z)
  have hp : plF (sclF c p) ≠ [] := by intro z; exact hs (List.map_eq_nil_iff.mp z)
  have e : sclF (sgc (sclF c p)) (plF (sclF c p)) = sclF (c * sgc p) (plF p) := by
    rw [pl_scl ce]
    conv => lhs; rw [← pl_scl cp]
    unfold sclF
    rw [List.map_map]
    exact List.map_congr_left fun z _ => by show c * (sgc p * z) = c * sgc p * z; rw [Int.mul_assoc]
  exact pl_uniq (cn_pl ce) (cn_pl cp) (sgc_ne ce hs) (Int.mul_ne_zero hc (sgc_ne cp h)) e hp (pl_cnt ce hs) (by rw [plF_length]; exact pl_lead ce hs) (pl_cnt cp h) (by rw [plF_length]; exact pl_lead cp h)

/-! bounds -/
def Bd (k : Nat) (p : List Int) : Prop := ∀ z ∈ p, z.natAbs < 2 ^ k
theorem Bd.mono {k j : Nat} {p : List Int} (h : Bd k p) (l : k ≤ j) : Bd j p := fun z hz => Nat.lt_of_lt_of_le (h z hz) (Nat.pow_le_pow_right (by decide) l)
theorem Bd.co {k : Nat} {p : List Int} (h : Bd k p) (i : Nat) : (co p i).natAbs < 2 ^ k := by
  by_cases l : i < p.length
  · rw [co_at l]; exact h _ (List.getElem_mem l)
  · rw [co_big (by omega)]; exact Nat.two_pow_pos k
theorem bd_of {k : Nat} {p : List Int} (h : ∀ i, (Kr.co p i).natAbs < 2 ^ k) : Bd k p := fun z hz => by
  obtain ⟨i, l, rfl⟩ := List.mem_iff_getElem.mp hz
  rw [← co_at l]; exact h i
theorem bd_trim {k : Nat} {p : List Int} (h : Bd k p) : Bd k (trim p) := fun z hz => h z (trim_mem hz)
theorem bd_add {k : Nat} {p q : List Int} (h : Bd k p) (g : Bd k q) : Bd (k + 1) (addF p q) := bd_of fun i => by
  rw [co_add]
  have := h.co i
  have := g.co i
  have := Int.natAbs_add_le (co p i) (co q i)
  rw [Nat.pow_succ]; omega
theorem bd_scl {k j : Nat} {c : Int} {p : List Int} (hc : c.natAbs < 2 ^ j) (h : Bd k p) : Bd (j + k) (sclF c p) := bd_of fun i => by
  rw [co_scl, Int.natAbs_mul, Nat.pow_add]
  have h2 := h.co i
  have a : c.natAbs * (co p i).natAbs ≤ c.natAbs * 2 ^ k := Nat.mul_le_mul_left _ (Nat.le_of_lt h2)
  have b : c.natAbs * 2 ^ k < 2 ^ j * 2 ^ k := Nat.mul_lt_mul_of_pos_right hc (Nat.two_pow_pos k)
  omega
theorem cv_bd {k j : Nat} : ∀ (i : Nat) (f g : Fn), (∀ n, (f n).natAbs < 2 ^ k) → (∀ n, (g n).natAbs < 2 ^ j) → (cv f g i).natAbs ≤ (i + 1) * 2 ^ (k + j)
  | 0, f, g, hf, hg => by
    rw [cv, Int.natAbs_mul, Nat.pow_add, Nat.zero_add, Nat.one_mul]
    exact Nat.mul_le_mul (Nat.le_of_lt (hf 0)) (Nat.le_of_lt (hg 0))
  | i + 1, f, g, hf, hg => by
    have ih := cv_bd i (fun n => f (n + 1)) g (fun n => hf _) hg
    have := Int.natAbs_add_le (f 0 * g (i + 1)) (cv (fun n => f (n + 1)) g i)
    have h1 : (f 0 * g (i + 1)).natAbs ≤ 2 ^ (k + j) := by
      rw [Int.natAbs_mul, Nat.pow_add]
      exact Nat.mul_le_mul (Nat.le_of_lt (hf 0)) (Nat.le_of_lt (hg _))
    rw [cv, Nat.add_mul (i + 1) 1, Nat.one_mul]
    omega
theorem bd_mul {k j n : Nat} {p q : List Int} (h : Bd k p) (g : Bd j q) (l : p.length + q.length ≤ 2 ^ n) : Bd (n + k + j) (mulF p q) := by
  by_cases e : p = [] ∨ q = []
  · unfold mulF; rw [if_pos e]; exact fun z hz => nomatch hz
  have hp : 0 < p.length := List.length_pos_iff.mpr fun z => e (.inl z)
  have hq : 0 < q.length := List.length_pos_iff.mpr fun z => e (.inr z)
  refine bd_of fun i => ?_
  by_cases li : i < p.length + q.length - 1
  · rw [co_mul]
    have b := cv_bd i (co p) (co q) h.co g.co
    have c : (i + 1) * 2 ^ (k + j) < 2 ^ n * 2 ^ (k + j) := Nat.mul_lt_mul_of_pos_right (by omega) (Nat.two_pow_pos _)
    rw [Nat.add_assoc, Nat.pow_add]
    omega
  · rw [co_big (Nat.le_trans (mulF_le p q) (by omega))]
    exact Nat.two_pow_pos _
theorem ev_bd {k j : Nat} (x : Int) (hx : x.natAbs < 2 ^ j) : ∀ p : List Int, Bd k p → (ev x p).natAbs < 2 ^ (k + p.length * (j + 1))
  | [], _ => by simp [ev]; exact Nat.two_pow_pos _
  | a :: p, h => by
    have ih := ev_bd x hx p fun z hz => h z (List.mem_cons_of_mem _ hz)
    have ha := h a List.mem_cons_self
    have t := Int.natAbs_add_le a (x * ev x p)
    have b : (x * ev x p).natAbs < 2 ^ (k + p.length * (j + 1) + j) := by
      rw [Int.natAbs_mul, Nat.add_comm _ j, Nat.pow_add]
      have a1 : x.natAbs * (ev x p).natAbs ≤ x.natAbs * 2 ^ (k + p.length * (j + 1)) := Nat.mul_le_mul_left _ (Nat.le_of_lt ih)
      have a2 : x.natAbs * 2 ^ (k + p.length * (j + 1)) < 2 ^ j * 2 ^ (k + p.length * (j + 1)) := Nat.mul_lt_mul_of_pos_right hx (Nat.two_pow_pos _)
      omega
    have c : (2 : Nat) ^ k ≤ 2 ^ (k + p.length * (j + 1) + j) := Nat.pow_le_pow_right (by decide) (by omega)
    have e : k + (a :: p).length * (j + 1) = (k + p.length * (j + 1) + j) + 1 := by
      rw [List.length_cons, Nat.add_mul]; omega
    show (a + x * ev x p).natAbs < _
    rw [e, Nat.pow_succ]
    omega
theorem bd_sl {k n : Nat} {p : List Int} (h : Bd k p) (l : p.length ≤ 2 ^ n) : Bd (n + k) (slF p) := by
  refine bd_of fun i => ?_
  rw [co_sl]
  by_cases li : i + 1 < p.length
  · show (((i : Int) + 1) * co p (i + 1)).natAbs < _
    rw [Int.natAbs_mul, Nat.pow_add]
    have h2 := h.co (i + 1)
    have a : ((i : Int) + 1).natAbs * (co p (i + 1)).natAbs ≤ ((i : Int) + 1).natAbs * 2 ^ k := Nat.mul_le_mul_left _ (Nat.le_of_lt h2)
    have b : ((i : Int) + 1).natAbs * 2 ^ k < 2 ^ n * 2 ^ k := Nat.mul_lt_mul_of_pos_right (by omega) (Nat.two_pow_pos k)
    omega
  · show (((i : Int) + 1) * co p (i + 1)).natAbs < _
    rw [co_big (by omega), Int.mul_zero]
    exact Nat.two_pow_pos _
theorem bd_pl {k : Nat} {p : List Int} (c : Cn p) (h : Bd k p) : Bd k (plF p) := fun z hz => by
  obtain ⟨i, l, rfl⟩ := List.mem_iff_getElem.mp hz
  rw [plF_length] at l
  have hp : p ≠ [] := by intro e; rw [e] at l; exact absurd l (Nat.not_lt_zero _)
  have l2 : i < (plF p).length := by rw [plF_length]; exact l
  have e : sgc p * co (plF p) i = co p i := by rw [← co_scl, pl_scl c]
  rw [← co_at l2]
  have b := h.co i
  rw [← e, Int.natAbs_mul, sgc_abs] at b
  have := Nat.mul_le_mul_right (co (plF p) i).natAbs (cnt_pos c hp)
  omega
end Kr
/-! Lists and tuples alike: k tells which. -/
namespace Kr
open PySem PySem.Spec
open PyProof.Rows L2

def Sq (K : PySem.W.Frag) (k : Bool) (H : Hp) (a : Addr) (xs : List V) : Prop :=
  match k with | true => SqT K H a xs | false => SqL K H a xs
theorem Same.sq {K : PySem.W.Frag} {k : Bool} {a : Addr} {H H' : Hp} {xs : List V} (e : Same H H') (h : Sq K k H a xs) : Sq K k H' a xs := by
  cases k with
  | true => exact Same.tseq e h
  | false => exact e.seq h
theorem Sq.or {K : PySem.W.Frag} {k : Bool} {a : Addr} {H : Hp} {xs : List V} (h : Sq K k H a xs) : SqL K H a xs ∨ SqT K H a xs := by
  cases k with
  | true => exact .inr h
  | false => exact .inl h
def Iat (k : Bool) (h : Heap) (it a : Addr) (i : Nat) : Prop :=
  match k with | true => h.IsTupleIter it a i | false => h.IsListIter it a i
def Sat (k : Bool) (h : Heap) (a : Addr) (items : Array Value) : Prop :=
  match k with | true => h.IsTuple a items | false => h.IsList a items
theorem Iat.at {k : Bool} {h h' : Heap} {it a : Addr} {i : Nat} (x : Iat k h it a i) (e : ∀ o, h.get? it = some o → h'.get? it = some o) : Iat k h' it a i := by
  cases k with
  | true => exact Heap.IsTupleIter.at x e
  | false => exact Heap.IsListIter.at x e
theorem Iat.obj {k : Bool} {h : Heap} {it a : Addr} {i : Nat} (x : Iat k h it a i) : ∃ o, h.get? it = some o ∧ ∃ n vs, o.cls = .type n ∧ o.data = .fields vs ∧
    (["enumerate", "zip", "dict_itemiterator", "dict_reverseitemiterator", "odict_iterator", "itertools.zip_longest", "itertools.pairwise"].contains n) = false := by
  cases k with
  | true => obtain ⟨o, e, c, d⟩ := x; exact ⟨o, e, _, _, c, d, by decide⟩
  | false => obtain ⟨o, e, c, d⟩ := x; exact ⟨o, e, _, _, c, d, by decide⟩
theorem Iat.nocell {k : Bool} {h : Heap} {it a : Addr} {i : Nat} (x : Iat k h it a i) : ∃ o, h.get? it = some o ∧ ∀ v, o.data ≠ .cell v := by
  obtain ⟨o, e, n, vs, _, d, _⟩ := x.obj
  exact ⟨o, e, fun v z => by rw [d] at z; cases z⟩
section
variable {X : Cx} {pins : List (Addr × Obj)} {σ : L2.St} {H : Hp} {s : Shared}
theorem Sq.is {k : Bool} {a : Addr} {xs : List V} (I : Inv X pins σ H s) (h : Sq X.K k H a xs) : ∃ its : List Value, Vals xs its ∧ Sat k s.heap a its.toArray ∧ xs.length ≤ sizeLine := by
  cases k with
  | true => obtain ⟨its, r, p, z⟩ := I.tuple h; exact ⟨its, r, p, z⟩
  | false => obtain ⟨its, r, p, z⟩ := I.list h; exact ⟨its, r, p.isList, z⟩
theorem Sq.inj {k : Bool} {a : Addr} {xs ys : List V} (I : Inv X pins σ H s) (h : Sq X.K k H a xs) (g : Sq X.K k H a ys) : xs = ys := by
  cases k with
  | true => exact I.tuple_inj h g
  | false => exact I.list_inj h g
end
theorem Sat.lt {k : Bool} {h : Heap} {a : Addr} {items : Array Value} (x : Sat k h a items) : a < h.objs.size := by
  cases k with
  | true => obtain ⟨o, e, _⟩ := x; exact Heap.lt_size e
  | false => obtain ⟨o, e, _⟩ := x; exact Heap.lt_size e
theorem Iat.ne {k : Bool} {h : Heap} {it a : Addr} {i : Nat} {items : Array Value} (x : Iat k h it a i) (p : Sat k h a items) : a ≠ it := fun e => by
  obtain ⟨oo, qq, n, vs, c, d, _⟩ := x.obj
  cases k with
  | true => obtain ⟨o2, e2, c2, n2, d2⟩ := p; rw [e, qq] at e2; cases e2; rw [d] at d2; cases d2
  | false => obtain ⟨o2, e2, c2, n2, d2⟩ := p; rw [e, qq] at e2; cases e2; rw [d] at d2; cases d2
theorem drawsS {prog : Program} {w : World} {A : Around} (hh : A.handled = none) (k : Bool) (it a : Addr) (hne : a ≠ it) (items : Array Value) :
    Draws prog w A it [it, a] items.size (fun i v => items[i]? = some v) (fun i h => Iat k h it a i ∧ Sat k h a items) := by
  cases k with
  | true => exact Draws.tuple hh it a hne items
  | false => exact Draws.list hh it a hne items
def itO (k : Bool) (a : Addr) : Obj :=
  { cls := .type (match k with | true => "tuple_iterator" | false => "list_iterator"), data := .fields #[.ref a, .int 0 0] }
theorem beginsS (k : Bool) (a : Addr) (items : Array Value) : Begins (.ref a) (itO k a) fun h => Sat k h a items := by
  cases k with
  | true => exact begins_tuple a items
  | false => exact begins_list a items
theorem itO_at {k : Bool} {h : Heap} {it a : Addr} (e : h.get? it = some (itO k a)) : Iat k h it a 0 := by
  cases k with
  | true => exact ⟨_, e, rfl, rfl⟩
  | false => exact ⟨_, e, rfl, rfl⟩

/-! ### one by one -/
def ItS (K : PySem.W.Frag) (k : Bool) (a : Addr) : L2.It :=
  match k with | true => Itt K a | false => Itl K a
def iSq (K : PySem.W.Frag) (tl : TE) : TI := fun σ H R => tl σ H fun x H1 => ∃ k a, x = .ref a ∧ (∃ xs, Sq K k H1 a xs) ∧ R (ItS K k a) H1
theorem pi_sq {X : Cx} {tg l : Expr} {tl : TE} (hl : PE X l tl) : PI X tg l (iSq X.K tl) := by
  refine ⟨fun pins s σ H R I h => ?_⟩
  refine thn (hl.run pins s σ H _ I h) fun v s1 ⟨x, H1, I1, r1, k, a, e, ⟨xs, hq⟩, q⟩ => ?_
  subst e
  cases r1
  cases k with
  | true =>
    obtain ⟨its, rv, p, hz⟩ := I1.tuple hq
    refine wpAny_pyIter_tuple (show s1.heap.IsTuple a its.toArray from p) ⟨s1.heap.objs.size, [s1.heap.objs.size], _, _, H1, rfl, I1.kept (t' := s1.toks) fun b o e => Heap.get?_push_of_some _ e, turn_tuple a _, ⟨_, Heap.get?_push_size _ rfl, rfl, rfl⟩, fun b hb => ?_, q⟩
    rw [show b = s1.heap.objs.size by simpa using hb]
    exact I1.fpOk (Nat.le_refl _) (I1.hok.fresh (Nat.le_refl _))
  | false =>
    obtain ⟨its, rv, p, hz⟩ := I1.list hq
    refine wpAny_pyIter_list p.isList ⟨s1.heap.objs.size, [s1.heap.objs.size], _, _, H1, rfl, I1.kept (t' := s1.toks) fun b o e => Heap.get?_push_of_some _ e, turn_list a _, ⟨_, Heap.get?_push_size _ rfl, rfl, rfl⟩, fun b hb => ?_, q⟩
    rw [show b = s1.heap.objs.size by simpa using hb]
    exact I1.fpOk (Nat.le_refl _) (I1.hok.fresh (Nat.le_refl _))
theorem for_sq {K : PySem.W.Frag} {k : Bool} {a : Addr} {xs : List V} {g : TG} {tb : TS} {D : Ends} {σ : L2.St} {H : Hp} (Pv : Nat → L2.St → Hp → Prop) (h0 : Pv 0 σ H)
    (hl : ∀ i σ H, i ≤ xs.length → Pv i σ H → Sq K k H a xs)
    (hs : ∀ i x σ H, xs[i]? = some x → Pv i σ H → g x σ H fun σ2 H2 => tb { D with nx := Pv (i + 1), ct := Pv (i + 1), bk := D.nx } σ2 H2)
    (hd : ∀ σ H, Pv xs.length σ H → D.nx σ H) :
    ∃ W : Nat → Nat → L2.St → Hp → Prop, (∃ m, W 0 m σ H) ∧ ∀ i m σ H, W i m σ H →
      ((ItS K k a).stop i H ∧ D.nx σ H) ∨ ((ItS K k a).go i H ∧ ∃ N : L2.St → Hp → Prop, (∀ σ' H', N σ' H' → ∃ m', m' < m ∧ W (i + 1) m' σ' H') ∧
        ∀ x H', (ItS K k a).yld i H x H' → g x σ H' fun σ2 H2 => tb { D with nx := N, ct := N, bk := D.nx } σ2 H2) := by
  cases k with
  | true => exact for_tup Pv h0 hl hs hd
  | false => exact for_list Pv h0 hl hs hd

/-! ### with their places -/
def IteS (K : PySem.W.Frag) (k : Bool) (a : Addr) : L2.It :=
  ⟨fun i H => ∃ (xs : List V) (x : V), Sq K k H a xs ∧ xs[i]? = some x,
   fun i H v H' => ∃ T x, v = .ref T ∧ H T = none ∧ H' = upd H T (.tup [.int (i : Nat), x]) ∧ ∀ xs, Sq K k H a xs → xs[i]? = some x,
   fun i H => ∃ xs : List V, Sq K k H a xs ∧ xs.length = i⟩
theorem turn_enumS {P : Program} {w : World} {K : PySem.W.Frag} {elts : List Expr} {kk : Nat} {tpos : Pos} {k : Bool} (a e it : Addr)
    (hei : e ≠ it) (hea : e ≠ a) (hia : a ≠ it) :
    Turn P w K (.Tuple elts kk tpos) (IteS K k a) [e, it] e (fun i h => (∃ old, IsEnum h e it ((i : Nat) : Int) old) ∧ Iat k h it a i) where
  mem := List.mem_cons_self
  obj := fun i h ⟨⟨old, he⟩, hi⟩ b hb => by
    rcases List.mem_cons.mp hb with z | z
    · subst z; exact ⟨_, he, fun v q => nomatch q⟩
    · rw [show b = it by simpa using z]; exact hi.nocell
  keep := fun i h h' ⟨⟨old, he⟩, hi⟩ kp => ⟨⟨old, kp e (by simp) _ he⟩, hi.at fun o q => kp it (by simp) o q⟩
  item := by
    rintro X rfl rfl rfl hc i pins s σ H E I hf ⟨⟨old, he⟩, hit⟩ ⟨xs, x, hq, hx⟩
    obtain ⟨its, rv, p, hz⟩ := Sq.is I hq
    obtain ⟨u, hu, ru⟩ := rv.get hx
    have hel : e < s.heap.objs.size := Heap.lt_size he
    have hil : it < s.heap.objs.size := by obtain ⟨_, q, _⟩ := hit.nocell; exact Heap.lt_size q
    have hu' : its.toArray[i]? = some u := by simpa using hu
    have hlt : i < its.toArray.size := (Array.getElem?_eq_some_iff.mp hu').1
    refine wpAny_pyNext_enum_itemD (drawsS (show X.A.in1.handled = none from I.ok.hd hc) k it a hia its.toArray) he ⟨hit, p⟩ hlt hei (by simp [hei, hea]) fun y h' tk hy ho st' hT hsz hk => ?_
    have ey : y = u := by rw [hu'] at hy; exact (Option.some.inj hy).symm
    subst ey
    refine ⟨_, rfl, wpAny_letOwnedTupleGo_enum (s := { s with heap := h', toks := tk + 1 }) ho fun h'' he' sb => ?_⟩
    have hT2 := (sb.2 _ (Nat.ne_of_gt hel)).trans hT
    have new : ObjOk X.prog X.w (upd H s.heap.objs.size (.tup [.int (i : Nat), x])) h'' s.heap.objs.size (.tup [.int (i : Nat), x]) :=
      ⟨by show 2 ≤ sizeLine; decide, [.int i tk, y], .cons ⟨_, rfl⟩ (.cons ru .nil), ⟨_, hT2, rfl, _, rfl⟩⟩
    have I1 : Inv X pins σ (upd H s.heap.objs.size (.tup [.int (i : Nat), x])) { s with heap := h'', toks := tk + 1 } :=
      I.turnedNew (ch := [e, it]) (fun b ob hb q => (sb.2 b fun z => hb (by simp [z])).trans (hk b ob (fun z => hb (by simp [z])) (fun z => hb (by simp [z])) q)) hf (Nat.le_refl _) new
    refine ⟨.ref s.heap.objs.size, _, I1, rfl, ⟨_, x, rfl, I.hok.fresh (Nat.le_refl _), rfl, fun ys hys => by rw [Sq.inj I hys hq]; exact hx⟩, ⟨⟨y, ?_⟩, st'.1.at fun o q => (sb.2 it hei.symm).trans q⟩, fun b hb => ?_⟩
    · rw [show ((i + 1 : Nat) : Int) = (i : Int) + 1 by omega]; exact he'
    · have hb' : b < s.heap.objs.size := by
        rcases List.mem_cons.mp hb with z | z
        · rw [z]; exact hel
        · rw [show b = it by simpa using z]; exact hil
      rw [upd_ne (Nat.ne_of_lt hb')]
      exact (hf b hb).1
  done := by
    rintro X rfl rfl rfl hc i pins s σ H E I hf ⟨⟨old, he⟩, hit⟩ ⟨xs, hq, hx⟩
    obtain ⟨its, rv, p, hz⟩ := Sq.is I hq
    obtain ⟨f0, f1, f2, f3, f4, f5⟩ := hf it (by simp)
    have hn : its.toArray.size = i := by rw [List.size_toArray, ← rv.length, hx]
    exact wpAny_pyNext_enum_endD (drawsS (show X.A.in1.handled = none from I.ok.hd hc) k it a hia its.toArray) he (by rw [hn]; exact ⟨hit, p⟩) fun h' eb => ⟨rfl, I.turned (t' := s.toks) (fun b o hb q => eb b o hb q) f0 f1 f3 f4 f5⟩
  self := fun A i s Q E ⟨⟨_, he⟩, _⟩ h => wpAny_pyIter_enum he h
set_option maxHeartbeats 8000000 in
theorem enum_new1 {v : Value} {o : Obj} {B : Heap → Prop} (b : Begins v o B) : Meets (Builtin.«enumerate.__new__» ⟨[.type "enumerate", v], []⟩) (fun _ R s => B s.heap ∧
      R (.ok (.ret (.ref (s.heap.push o).objs.size))) { s with heap := (s.heap.push o).push { cls := .type "enumerate", data := .fields #[.none, .bool false, .ref s.heap.objs.size, rawInt 0, .none, .none] } }) :=
  .of_wp fun prog w A R s ⟨h1, h⟩ => by
    have hsub := sub_enumerate
    obtain ⟨hp, g, d, tk, os⟩ := s
    have q1 : ∀ {A' : Around} {E Q : Value → Shared → Prop}, Q (.ref hp.objs.size) ⟨hp.push o, g, d, tk, os⟩ → wpAny (model prog w) A' (pyIter v) Q E ⟨hp, g, d, tk, os⟩ := fun q => b.iter prog w _ _ ⟨hp, g, d, tk, os⟩ _ h1 q
    wp_walk using q1
    refine wpAny_stack_any fun st => wpAny_pure ?_
    split
    · rename_i c _ _ _ _ _
      cases (c == Value.type "enumerate") <;> (wp_walk using q1; exact ⟨_, rfl, h⟩)
    · wp_walk using q1; exact ⟨_, rfl, h⟩
theorem enum_begins1 {prog : Program} {w : World} {A : Around} {E : Value → Shared → Prop} {s : Shared} {v : Value} {o : Obj} {B : Heap → Prop} {Q : Value → Shared → Prop} (b : Begins v o B) (h1 : B s.heap)
    (h : ∀ h', IsEnum h' (s.heap.objs.size + 1) s.heap.objs.size 0 .none → h'.get? s.heap.objs.size = some o → (∀ b o, s.heap.get? b = some o → h'.get? b = some o) → Q (.ref (s.heap.objs.size + 1)) { s with heap := h' }) :
    wpAny (model prog w) A (call (.type "enumerate") [v]) Q E s := by
  refine callType_new F.called_enumerate (by decide) (F.typeCall_enumerate_1 _) (F.newCall_enumerate_1 _) (fun obj => F.args_object_init_2 obj _) F.entry_enumerate_new (enum_new1 b) ⟨h1, ?_⟩
  have hz : (s.heap.push o).objs.size = s.heap.objs.size + 1 := Heap.size_push ..
  show _ ∧ _
  rw [hz]
  have he : IsEnum ((s.heap.push o).push { cls := .type "enumerate", data := .fields #[.none, .bool false, .ref s.heap.objs.size, rawInt 0, .none, .none] }) (s.heap.objs.size + 1) s.heap.objs.size 0 .none := by
    rw [← hz]; exact Heap.get?_push_size _ rfl
  exact ⟨⟨_, he, rfl⟩, h _ he (Heap.get?_push_of_some _ (Heap.get?_push_size _ b.free)) fun c u x => Heap.get?_push_of_some _ (Heap.get?_push_of_some _ x)⟩
def iEnumS (K : PySem.W.Frag) (ta : TA) : TI := fun σ H R => ta σ H fun vs H1 => ∃ k a xs, vs = [.ref a] ∧ Sq K k H1 a xs ∧ R (IteS K k a) H1
theorem pi_enumS {X : Cx} {e : Expr} {ta : TA} {p pos tpos : Pos} {elts : List Expr} {kk : Nat} (hg : Gl X "enumerate") (hm : X.mg "enumerate" = none) (ha : PA X [e] ta)
    (hs : starEach [e] X.env = [(false, eval e X.env)] := by rfl) : PI X (.Tuple elts kk tpos) (.Call (.Name "enumerate" p) [e] [] pos) (iEnumS X.K ta) := by
  refine ⟨fun pins s σ H R I h => Call_ (ld_blt I hg hm boot_enumerate (PyProof.Rows.callWith_type1 (thn (ha.run pos pins s σ H _ I h) fun us s1 ⟨vs, H1, I1, r1, k, a, xs, ex, hq, q⟩ => ?_) hs rfl))⟩
  subst ex
  cases r1 with
  | cons r rr =>
    cases rr
    cases r
    obtain ⟨its, rv, p', hz⟩ := Sq.is I1 hq
    have la := p'.lt
    refine enum_begins1 (beginsS k a its.toArray) p' fun h' he hit hk => wpAny_pyIter_enum he ?_
    have I2 : Inv X pins σ H1 { s1 with heap := h' } := I1.kept (t' := s1.toks) hk
    refine ⟨s1.heap.objs.size + 1, [s1.heap.objs.size + 1, s1.heap.objs.size], _, _, H1, rfl, I2, turn_enumS (k := k) a (s1.heap.objs.size + 1) s1.heap.objs.size (Nat.succ_ne_self _) (Nat.ne_of_gt (Nat.lt_succ_of_lt la)) (Nat.ne_of_lt la), ⟨⟨.none, he⟩, itO_at hit⟩, fun b hb => ?_, q⟩
    have hle : s1.heap.objs.size ≤ b := by
      rcases List.mem_cons.mp hb with z | z
      · rw [z]; exact Nat.le_succ _
      · rw [show b = s1.heap.objs.size by simpa using z]; exact Nat.le_refl _
    exact I1.fpOk hle (I1.hok.fresh hle)
theorem for_enumS {K : PySem.W.Frag} {k : Bool} {a : Addr} {xs : List V} {g : TG} {tb : TS} {D : Ends} {σ : L2.St} {H : Hp} (Pv : Nat → L2.St → Hp → Prop) (h0 : Pv 0 σ H)
    (hl : ∀ i σ H, i ≤ xs.length → Pv i σ H → Sq K k H a xs)
    (hs : ∀ (i : Nat) (x : V) (T : Addr) σ H, xs[i]? = some x → Pv i σ H → H T = none → g (.ref T) σ (upd H T (.tup [.int (i : Nat), x])) fun σ2 H2 => tb { D with nx := Pv (i + 1), ct := Pv (i + 1), bk := D.nx } σ2 H2)
    (hd : ∀ σ H, Pv xs.length σ H → D.nx σ H) :
    ∃ W : Nat → Nat → L2.St → Hp → Prop, (∃ m, W 0 m σ H) ∧ ∀ i m σ H, W i m σ H →
      ((IteS K k a).stop i H ∧ D.nx σ H) ∨ ((IteS K k a).go i H ∧ ∃ N : L2.St → Hp → Prop, (∀ σ' H', N σ' H' → ∃ m', m' < m ∧ W (i + 1) m' σ' H') ∧
        ∀ x H', (IteS K k a).yld i H x H' → g x σ H' fun σ2 H2 => tb { D with nx := N, ct := N, bk := D.nx } σ2 H2) := by
  refine ⟨fun i m σ H => m = xs.length - i ∧ i ≤ xs.length ∧ Pv i σ H, ⟨xs.length, by simp, Nat.zero_le _, h0⟩, ?_⟩
  rintro i m σ H ⟨rfl, hi, p⟩
  have q := hl i σ H hi p
  by_cases hlt : i < xs.length
  · refine .inr ⟨⟨xs, xs[i], q, List.getElem?_eq_getElem hlt⟩, Pv (i + 1), fun σ' H' p' => ⟨xs.length - (i + 1), by omega, rfl, hlt, p'⟩, ?_⟩
    rintro _ _ ⟨T, x, rfl, nT, rfl, y⟩
    exact hs i x T σ _ (y xs q) p nT
  · obtain rfl : i = xs.length := by omega
    exact .inl ⟨⟨xs, q, rfl⟩, hd σ H p⟩

/-! ### two at a time -/
def ItzS (K : PySem.W.Frag) (k j : Bool) (a b : Addr) : L2.It :=
  ⟨fun i H => ∃ (xs ys : List V) (x y : V), Sq K k H a xs ∧ Sq K j H b ys ∧ xs[i]? = some x ∧ ys[i]? = some y,
   fun i H v H' => ∃ T x y, v = .ref T ∧ H T = none ∧ H' = upd H T (.tup [x, y]) ∧ (∀ xs, Sq K k H a xs → xs[i]? = some x) ∧ ∀ ys, Sq K j H b ys → ys[i]? = some y,
   fun i H => ∃ xs ys : List V, Sq K k H a xs ∧ Sq K j H b ys ∧ i ≤ xs.length ∧ i ≤ ys.length ∧ (xs.length = i ∨ ys.length = i)⟩
theorem turn_zipS {P : Program} {w : World} {K : PySem.W.Frag} {elts : List Expr} {kk : Nat} {tpos : Pos} {k j : Bool} {a b z TI TO i1 i2 : Addr} (D : ZipSep2 z TI TO i1 i2 [i1, a] [i2, b]) :
    Turn P w K (.Tuple elts kk tpos) (ItzS K k j a b) [z, TI, TO, i1, i2] z (fun i h => IsZip h z TI TO .none ∧ IsTupOf2 h TI (.ref i1) (.ref i2) ∧ (∃ x y, IsTupOf2 h TO x y) ∧ Iat k h i1 a i ∧ Iat j h i2 b i) where
  mem := List.mem_cons_self
  obj := fun i h ⟨hz, hTI, ⟨x, y, hTO⟩, h1, h2⟩ c hc => by
    have e' : c = z ∨ c = TI ∨ c = TO ∨ c = i1 ∨ c = i2 := by simpa using hc
    rcases e' with rfl | rfl | rfl | rfl | rfl
    · exact ⟨_, hz, fun v q => nomatch q⟩
    · exact ⟨_, hTI, fun v q => nomatch q⟩
    · exact ⟨_, hTO, fun v q => nomatch q⟩
    · exact h1.nocell
    · exact h2.nocell
  keep := fun i h h' ⟨hz, hTI, ⟨x, y, hTO⟩, h1, h2⟩ kp =>
    ⟨kp z (by simp) _ hz, kp TI (by simp) _ hTI, ⟨x, y, kp TO (by simp) _ hTO⟩, h1.at fun o q => kp i1 (by simp) o q, h2.at fun o q => kp i2 (by simp) o q⟩
  item := by
    rintro X rfl rfl rfl hc i pins s σ H E I hf ⟨hz, hTI, ⟨x0, y0, hTO⟩, h1, h2⟩ ⟨xs, ys, x, y, hqx, hqy, hx, hy⟩
    obtain ⟨its, rv, p, _⟩ := Sq.is I hqx
    obtain ⟨its2, rv2, p2, _⟩ := Sq.is I hqy
    obtain ⟨u, hu, ru⟩ := rv.get hx
    obtain ⟨u2, hu2, ru2⟩ := rv2.get hy
    have hu' : its.toArray[i]? = some u := by simpa using hu
    have hu2' : its2.toArray[i]? = some u2 := by simpa using hu2
    have hzl : z < s.heap.objs.size := Heap.lt_size hz
    have l1 : i1 < s.heap.objs.size := by obtain ⟨_, q, _⟩ := h1.nocell; exact Heap.lt_size q
    have l2 : i2 < s.heap.objs.size := by obtain ⟨_, q, _⟩ := h2.nocell; exact Heap.lt_size q
    have n1 : a ≠ i1 := h1.ne p
    have n2 : b ≠ i2 := h2.ne p2
    have hn : X.A.in1.handled = none := I.ok.hd hc
    refine wpAny_pyNext_zipD2_item D (drawsS hn k i1 a n1 its.toArray) (drawsS hn j i2 b n2 its2.toArray) hz hTI hTO ⟨h1, p⟩ ⟨h2, p2⟩ (Array.getElem?_eq_some_iff.mp hu').1 (Array.getElem?_eq_some_iff.mp hu2').1 fun v1 v2 h' tk e1 e2 z' TO' h1' h2' hT hsz hk => ?_
    have e1 : its.toArray[i]? = some v1 := e1
    have e2 : its2.toArray[i]? = some v2 := e2
    rw [hu'] at e1
    rw [hu2'] at e2
    cases e1
    cases e2
    refine ⟨_, rfl, wpAny_letOwnedTupleGo_zip (s := { s with heap := h', toks := tk }) z' fun h'' z'' sb => ?_⟩
    have hT2 := (sb.2 _ (Nat.ne_of_gt hzl)).trans hT
    have new : ObjOk X.prog X.w (upd H s.heap.objs.size (.tup [x, y])) h'' s.heap.objs.size (.tup [x, y]) :=
      ⟨by show 2 ≤ sizeLine; decide, [u, u2], .cons ru (.cons ru2 .nil), ⟨_, hT2, rfl, _, rfl⟩⟩
    have I1 : Inv X pins σ (upd H s.heap.objs.size (.tup [x, y])) { s with heap := h'', toks := tk } :=
      I.turnedNew (ch := [z, TI, TO, i1, i2]) (fun c o hb q => (sb.2 c fun q' => hb (by simp [q'])).trans (hk c o (fun q' => hb (by simp [q'])) (fun q' => hb (by simp [q'])) (fun q' => hb (by simp [q'])) (fun q' => hb (by simp [q'])) q)) hf (Nat.le_refl _) new
    refine ⟨.ref s.heap.objs.size, _, I1, rfl, ⟨_, x, y, rfl, I.hok.fresh (Nat.le_refl _), rfl, fun l hl => by rw [Sq.inj I hl hqx]; exact hx, fun l hl => by rw [Sq.inj I hl hqy]; exact hy⟩, ⟨z'', ?_, ⟨u, u2, ?_⟩, ?_, ?_⟩, fun c hcm => ?_⟩
    · exact (sb.2 _ D.TIz).trans (hk _ _ D.TIz D.TITO D.TIi1 D.TIi2 hTI)
    · exact (sb.2 _ D.TOz).trans TO'
    · exact h1'.1.at fun o q => (sb.2 _ D.zi1.symm).trans q
    · exact h2'.1.at fun o q => (sb.2 _ D.zi2.symm).trans q
    · have hlt : c < s.heap.objs.size := by
        have e' : c = z ∨ c = TI ∨ c = TO ∨ c = i1 ∨ c = i2 := by simpa using hcm
        rcases e' with q | q | q | q | q
        · rw [q]; exact hzl
        · rw [q]; exact Heap.lt_size hTI
        · rw [q]; exact Heap.lt_size hTO
        · rw [q]; exact l1
        · rw [q]; exact l2
      rw [upd_ne (Nat.ne_of_lt hlt)]
      exact (hf c hcm).1
  done := by
    rintro X rfl rfl rfl hc i pins s σ H E I hf ⟨hz, hTI, ⟨x0, y0, hTO⟩, h1, h2⟩ ⟨xs, ys, hqx, hqy, e1, e2, hend⟩
    obtain ⟨its, rv, p, _⟩ := Sq.is I hqx
    obtain ⟨its2, rv2, p2, _⟩ := Sq.is I hqy
    have l1 := rv.length
    have l2 := rv2.length
    have s1 : its.toArray.size = xs.length := by rw [List.size_toArray, l1]
    have s2 : its2.toArray.size = ys.length := by rw [List.size_toArray, l2]
    have n1 : a ≠ i1 := h1.ne p
    have n2 : b ≠ i2 := h2.ne p2
    have hn : X.A.in1.handled = none := I.ok.hd hc
    exact wpAny_pyNext_zipD2_end D (drawsS hn k i1 a n1 its.toArray) (drawsS hn j i2 b n2 its2.toArray) hz hTI hTO ⟨h1, p⟩ ⟨h2, p2⟩ (by omega) (by omega) (by omega) fun h' tk hk => ⟨rfl, I.turnedL (t' := tk) (ch := [z, TI, TO, i1, i2]) (fun c o hb q =>
      hk c o (fun q' => hb (by simp [q'])) (fun q' => hb (by simp [q'])) (fun q' => hb (by simp [q'])) (fun q' => hb (by simp [q'])) q) hf⟩
  self := fun A i s Q E st h => wpAny_pyIter_zip st.1 h
def iZipS (K : PySem.W.Frag) (ta : TA) : TI := fun σ H R => ta σ H fun vs H1 => ∃ k j a b xs ys, vs = [.ref a, .ref b] ∧ Sq K k H1 a xs ∧ Sq K j H1 b ys ∧ R (ItzS K k j a b) H1
theorem pi_zipS {X : Cx} {e e2 : Expr} {ta : TA} {p pos tpos : Pos} {elts : List Expr} {kk : Nat} (hg : Gl X "zip") (hm : X.mg "zip" = none) (ha : PA X [e, e2] ta)
    (hs : starEach [e, e2] X.env = (false, eval e X.env) :: starEach [e2] X.env := by rfl)
    (hpl : (backTo pos (starEach [e2] X.env)).any (·.1) = false := by rfl) : PI X (.Tuple elts kk tpos) (.Call (.Name "zip" p) [e, e2] [] pos) (iZipS X.K ta) := by
  refine ⟨fun pins s σ H R I h => Call_ (ld_blt I hg hm PyProof.Rows.boot_zip (PyProof.Rows.callWith_type1 (thn (ha.run pos pins s σ H _ I h) fun us s1 ⟨vs, H1, I1, r1, k, j, a, b, xs, ys, ex, hqx, hqy, q⟩ => ?_) hs hpl))⟩
  subst ex
  cases r1 with
  | cons r rr =>
    cases rr with
    | cons r' rr =>
      cases rr
      cases r
      cases r'
      obtain ⟨its, rv, p1, _⟩ := Sq.is I1 hqx
      obtain ⟨its2, rv2, p2, _⟩ := Sq.is I1 hqy
      have la := p1.lt
      have lb := p2.lt
      refine zip_begins2 (beginsS k a its.toArray) (beginsS j b its2.toArray) p1 p2 fun h' hz hTI hTO h1 h2 hsz hk => wpAny_pyIter_zip hz ?_
      have I2 : Inv X pins σ H1 { s1 with heap := h' } := I1.kept (t' := s1.toks) hk
      refine ⟨s1.heap.objs.size + 4, [s1.heap.objs.size + 4, s1.heap.objs.size + 2, s1.heap.objs.size + 3, s1.heap.objs.size, s1.heap.objs.size + 1], _, _, H1, rfl, I2,
        turn_zipS (k := k) (j := j) (zip_sep2 (fp1 := [a]) (fp2 := [b]) (fun c hc => by rw [show c = a by simpa using hc]; exact la) (fun c hc => by rw [show c = b by simpa using hc]; exact lb)),
        ⟨hz, hTI, ⟨_, _, hTO⟩, itO_at h1, itO_at h2⟩, fun c hcm => ?_, q⟩
      have e' : c = s1.heap.objs.size + 4 ∨ c = s1.heap.objs.size + 2 ∨ c = s1.heap.objs.size + 3 ∨ c = s1.heap.objs.size ∨ c = s1.heap.objs.size + 1 := by simpa using hcm
      have hle : s1.heap.objs.size ≤ c := by
        rcases e' with e | e | e | e | e <;> rw [e] <;> first | exact Nat.le_refl _ | exact Nat.le_add_right _ _
      exact I1.fpOk hle (I1.hok.fresh hle)
theorem for_zipS {K : PySem.W.Frag} {k j : Bool} {a b : Addr} {xs ys : List V} {g : TG} {tb : TS} {D : Ends} {σ : L2.St} {H : Hp} (n : Nat) (hn : n = min xs.length ys.length) (Pv : Nat → L2.St → Hp → Prop) (h0 : Pv 0 σ H)
    (hl : ∀ i σ H, i ≤ n → Pv i σ H → Sq K k H a xs ∧ Sq K j H b ys)
    (hs : ∀ (i : Nat) (x y : V) (T : Addr) σ H, xs[i]? = some x → ys[i]? = some y → Pv i σ H → H T = none → g (.ref T) σ (upd H T (.tup [x, y])) fun σ2 H2 => tb { D with nx := Pv (i + 1), ct := Pv (i + 1), bk := D.nx } σ2 H2)
    (hd : ∀ σ H, Pv n σ H → D.nx σ H) :
    ∃ W : Nat → Nat → L2.St → Hp → Prop, (∃ m, W 0 m σ H) ∧ ∀ i m σ H, W i m σ H →
      ((ItzS K k j a b).stop i H ∧ D.nx σ H) ∨ ((ItzS K k j a b).go i H ∧ ∃ N : L2.St → Hp → Prop, (∀ σ' H', N σ' H' → ∃ m', m' < m ∧ W (i + 1) m' σ' H') ∧
        ∀ x H', (ItzS K k j a b).yld i H x H' → g x σ H' fun σ2 H2 => tb { D with nx := N, ct := N, bk := D.nx } σ2 H2) := by
  refine ⟨fun i m σ H => m = n - i ∧ i ≤ n ∧ Pv i σ H, ⟨n, by simp, Nat.zero_le _, h0⟩, ?_⟩
  rintro i m σ H ⟨rfl, hi, p⟩
  obtain ⟨q1, q2⟩ := hl i σ H hi p
  by_cases hlt : i < n
  · have l1 : i < xs.length := by omega
    have l2 : i < ys.length := by omega
    refine .inr ⟨⟨xs, ys, xs[i], ys[i], q1, q2, List.getElem?_eq_getElem l1, List.getElem?_eq_getElem l2⟩, Pv (i + 1), fun σ' H' p' => ⟨n - (i + 1), by omega, rfl, hlt, p'⟩, ?_⟩
    rintro _ _ ⟨T, x, y, rfl, nT, rfl, y1, y2⟩
    exact hs i x y T σ _ (y1 xs q1) (y2 ys q2) p nT
  · obtain rfl : i = n := by omega
    exact .inl ⟨⟨xs, ys, q1, q2, by omega, by omega, by omega⟩, hd σ H p⟩

/-! ### parts -/
def rSlS (K : PySem.W.Frag) : V → Option Int → Option Int → Hp → VK → Prop := fun x lo hi H Q => ∃ k a xs, x = .ref a ∧ Sq K k H a xs ∧
  ∀ H' p, Same H H' → Sq K k H' p (cutV xs lo hi) → Q (.ref p) H'
theorem sl_sq {X : Cx} : SlR X (rSlS X.K) := by
  intro pins s σ H x v vl vu lo hi sl Q I rx hs pl pu ⟨k, a, xs, ex, hx, q⟩
  cases k with
  | false => exact sl_list pins s σ H x v vl vu lo hi sl Q I rx hs pl pu ⟨a, xs, ex, hx, fun p np => q _ p (Same.put np) (SqL.of upd_same)⟩
  | true =>
    refine sl_tupA pins s σ H x v vl vu lo hi sl Q I rx hs pl pu ⟨a, xs, ex, hx, fun hw => q H a (Same.refl _) ?_, fun _ p np => q _ p (Same.put np) (SqT.of upd_same)⟩
    have e : cutV xs lo hi = xs := by
      unfold cutV
      rw [hw.1, hw.2, List.drop_zero, Nat.sub_zero, List.take_length]
    show SqT X.K H a (cutV xs lo hi)
    rw [e]; exact hx
/-- from behind -/
def tRevS (K : PySem.W.Frag) (te : TE) : TE := fun σ H Q => te σ H fun x H1 => ∃ k a xs, x = .ref a ∧ Sq K k H1 a xs ∧ ∀ H' p, Same H1 H' → Sq K k H' p xs.reverse → Q (.ref p) H'
theorem cut_back {prog : Program} {w : World} {A : Around} {E : Value → Shared → Prop} {s : Shared} {t sl : Addr} {items : Array Value} {vs : Value} {Q : Value → Shared → Prop} (ht : IsTup s.heap t items)
    (hs : s.heap.IsSliceOf sl .none .none vs) (ps : IsPart vs (some (-1))) (hsz : items.size ≤ sizeLine)
    (h : Q (.ref s.heap.objs.size) { s with heap := s.heap.push { cls := .type "tuple", data := .seq items.toList.reverse.toArray } }) :
    wpAny (model prog w) A (getItem (.ref t) (.ref sl)) Q E s := by
  obtain ⟨os, hos, hcs, hds⟩ := id hs
  have hTs : s.TypeIs (.ref sl) "slice" := ⟨os, hos, hcs⟩
  unfold getItem
  try with_reducible refine wpAny_holding ?_
  first | refine wpAny_bind (wpAny_pure ?_) | skip
  refine wpAny_bind (wpAny_sequenceKey ht.typeIs (by decide) (wpAny_bind (wpAny_callSpecial?_slot (name := Str.ofString "__getitem__") ht.typeIs PyProof.Rows.slot_tuple_getitem
    (wpAny_call_entry PyProof.Rows.slot_tuple_getitem ht.typeIs PyProof.Rows.entry_tuple_getitem ?_ (PyProof.Rows.args_tuple_getitem _ _)))))
  show wpAny _ _ (Builtin.Tuple.tupleItemsOf (.ref t) >>= _) _ _ s
  refine wpAny_bind (tupleItemsOf_ ht (wpAny_bind (wpAny_typeOf hTs ?_)))
  rw [if_pos (by decide)]
  refine wpAny_bind ?_
  unfold Builtin.Slice.sliceApplied Builtin.Slice.sliceFields
  refine wpAny_bind (wpAny_bind (wpAny_field hos hds (x := .none) rfl (wpAny_bind (wpAny_field hos hds (x := .none) rfl (wpAny_bind (wpAny_field hos hds (x := vs) rfl (wpAny_pure ?_)))))))
  have places : Builtin.Slice.slicePlaces ((items.size : Int) - 1) (-1) (-1) = items.size := by
    unfold Builtin.Slice.slicePlaces
    rw [if_neg (by decide)]
    by_cases hh : (items.size : Int) - 1 > -1
    · rw [if_pos hh, show (-(-1 : Int)) = 1 by decide, Int.ediv_one]; omega
    · rw [if_neg hh]; omega
  have part : ∀ {Q' : Option Int → Shared → Prop}, Q' (some (-1)) s → ∀ (A' : Around) (E' : Value → Shared → Prop), wpAny (model prog w) A' (Builtin.Slice.slicePartIndex vs) Q' E' s := by
    intro Q' hq A' E'
    cases ps with
    | int i t => exact PyProof.Rows.slicePart_int hq
  refine wpAny_bind (part ?_ _ _)
  show wpAny _ _ (if ((-1 : Int) == 0) = true then _ else _) _ _ s
  rw [if_neg (by decide)]
  refine wpAny_bind (PyProof.Rows.slicePart_none (wpAny_bind (PyProof.Rows.slicePart_none (wpAny_bind (wpAny_pure ?_)))))
  show wpAny _ _ (pure ((items.size : Int) - 1, (-1 : Int), Builtin.Slice.slicePlaces ((items.size : Int) - 1) (-1) (-1))) _ _ s
  rw [places]
  refine wpAny_pure ?_
  have hno : ¬ ((((items.size : Int) - 1 == 0) && ((-1 : Int) == 1) && (items.size == items.size)) = true) := by
    rw [show ((-1 : Int) == 1) = false from rfl, Bool.and_false, Bool.false_and]; exact Bool.false_ne_true
  show wpAny _ _ (if (((items.size : Int) - 1 == 0) && ((-1 : Int) == 1) && (items.size == items.size)) = true then _ else _) _ _ s
  rw [if_neg hno]
  have pick : ((List.range items.size).filterMap fun (m : Nat) => items[((items.size : Int) - 1 + (m : Int) * (-1)).toNat]?).toArray = items.toList.reverse.toArray := by
    have e1 : (List.range items.size).filterMap (fun (m : Nat) => items[((items.size : Int) - 1 + (m : Int) * (-1)).toNat]?) = ((List.range items.size).map fun k => items.size - 1 - k).filterMap (items[·]?) := by
      rw [List.filterMap_map]
      have cg : ∀ (l : List Nat) (f g : Nat → Option Value), (∀ m ∈ l, f m = g m) → l.filterMap f = l.filterMap g := by
        intro l f g hfg
        induction l with
        | nil => rfl
        | cons m l ih =>
          rw [List.filterMap_cons, List.filterMap_cons, hfg m List.mem_cons_self, ih fun y hy => hfg y (List.mem_cons_of_mem _ hy)]
      refine cg _ _ _ fun m hm => ?_
      have hm2 := List.mem_range.mp hm
      have hm3 : ((items.size : Int) - 1 + (m : Int) * (-1)).toNat = items.size - 1 - m := by omega
      show items[((items.size : Int) - 1 + (m : Int) * (-1)).toNat]? = items[items.size - 1 - m]?
      rw [hm3]
    rw [e1, PySem.W.krv_range, List.filterMap_reverse, PySem.W.krv_all]
  have fits : sizeOk (.seq items.toList.reverse.toArray) := by
    show items.toList.reverse.toArray.size ≤ sizeLine
    rw [List.size_toArray, List.length_reverse, Array.length_toList]; exact hsz
  rw [pick]
  first
    | exact wpAny_bind (m := Builtin.Tuple.tupleExact _) (wpAny_newObj_type (wpAny_pure ⟨_, rfl, wpAny_pure h⟩) fits)
    | exact wpAny_bind (m := Builtin.Tuple.tupleExact _) (wpAny_newObj_type (wpAny_bind (wpAny_pure (wpAny_pure ⟨_, rfl, wpAny_pure h⟩))) fits)
    | exact wpAny_bind (wpAny_bind (m := Builtin.Tuple.tupleExact _) (wpAny_newObj_type (wpAny_pure (wpAny_pure ⟨_, rfl, wpAny_pure h⟩)) fits))
theorem pe_revS {X : Cx} {e : Expr} {te : TE} {k : Nat} {p1 p2 p3 pos : Pos} (he : PE X e te) : PE X (.Subscript e (.Slice none none (some (.UnaryOp .USub (.Constant (.int 1) k p1) p2)) p3) pos) (tRevS X.K te) := by
  refine ⟨fun pins s σ H Q I h => Subscript_ (thn (he.run pins s σ H _ I h) fun v s1 ⟨x, H1, I1, r1, kd, a, xs, ex, hx, q⟩ => ?_)⟩
  subst ex
  cases r1
  have hst : PO X (some (.UnaryOp .USub (.Constant (.int 1) k p1) p2)) (tPart (tUn (rU fun i => .int (-i)) (tC (.int 1)))) := po_some (pe_un un_neg pe_int)
  refine wpAny_Slice (thn (po_none.run pins s1 σ H1 (fun o H2 => o = none ∧ H2 = H1) I1 ⟨rfl, rfl⟩) fun vl s2 ⟨l, H2, I2, pl, el, e2⟩ => ?_)
  subst el e2
  refine thn (po_none.run pins s2 σ H2 (fun o H3 => o = none ∧ H3 = H2) I2 ⟨rfl, rfl⟩) fun vu s3 ⟨u, H3, I3, pu, eu, e3⟩ => ?_
  subst eu e3
  refine thn (hst.run pins s3 σ H3 (fun o H4 => o = some (-1) ∧ H4 = H3) I3 ⟨1, rfl, -1, rfl, rfl, rfl⟩) fun vs s4 ⟨o, H4, I4, ps, eo, e4⟩ => ?_
  subst eo e4
  have I5 : Inv X pins σ H4 { s4 with heap := s4.heap.push { cls := .type "slice", data := .fields #[vl, vu, vs] } } := I4.kept (t' := s4.toks) fun b ob q => Heap.get?_push_of_some _ q
  cases kd with
  | false =>
    obtain ⟨its, r, ht, hz⟩ := I5.list hx
    have hlen := r.length
    refine tail_any (ops := [.ref a, .ref s4.heap.objs.size]) ht.isList.typeIs (PySem.slot_list_getitem.lookup) ?_ (by with_unfolding_all rfl)
    refine wpAny_getItem_list_slice ht.isList (Heap.IsSliceOf.new _ vl vu vs) pl pu ps (by decide) ?_ (by rw [List.size_toArray]; omega)
    rw [PySem.W.krv_pick]
    exact ⟨.ref _, _, I5.laid (t' := s4.toks) (o := .lst xs.reverse) (fun b ob q => Heap.get?_push_of_some _ q) (Nat.le_refl _) ⟨by rw [List.length_reverse]; exact hz, _, 0, r.reverse, Heap.get?_push_size _ rfl⟩,
      rfl, q _ _ (Same.put (I5.hok.fresh (Nat.le_refl _))) (SqL.of upd_same)⟩
  | true =>
    obtain ⟨its, r, ht, hz⟩ := I5.tuple hx
    have hlen := r.length
    cases pl
    cases pu
    refine tail_any (ops := [.ref a, .ref s4.heap.objs.size]) ht.typeIs PyProof.Rows.slot_tuple_getitem.lookup ?_ (by with_unfolding_all rfl)
    refine cut_back ht (Heap.IsSliceOf.new _ .none .none vs) ps (by rw [List.size_toArray]; omega) ?_
    exact ⟨.ref _, _, I5.laid (t' := s4.toks) (o := .tup xs.reverse) (fun b ob q => Heap.get?_push_of_some _ q) (Nat.le_refl _) ⟨by rw [List.length_reverse]; exact hz, _, r.reverse, IsTup.new _ _⟩,
      rfl, q _ _ (Same.put (I5.hok.fresh (Nat.le_refl _))) (SqT.of upd_same)⟩
/-! built in a row -/
theorem lc_sq {K : PySem.W.Frag} {k : Bool} {a : Addr} {xs : List V} {g : TG} {tt : TT} {te : TE} {vs : List Nat} {σ : L2.St} {H1 : Hp} {D : Addr} {Qd : Hp → Prop} (Pv : Nat → Hp → Prop) (h0 : Pv 0 (upd H1 D (.lst [])))
    (hl : ∀ i H, i ≤ xs.length → Pv i H → Sq K k H a xs)
    (hs : ∀ i x H, xs[i]? = some x → Pv i H → g x (wipe σ vs) H fun σ2 H2 => wipe σ2 vs = wipe σ vs ∧ tt σ2 H2 fun b H3 =>
      if b = true then te σ2 H3 fun y H4 => ∃ acc, H4 D = some (.lst acc) ∧ acc.length < sizeLine ∧ Pv (i + 1) (upd H4 D (.lst (acc ++ [y]))) else Pv (i + 1) H3) (hd : ∀ H, Pv xs.length H → Qd H) :
    ∃ W : Nat → Nat → Hp → Prop, (∃ m, W 0 m (upd H1 D (.lst []))) ∧ ∀ i m H, W i m H →
      ((ItS K k a).stop i H ∧ Qd H) ∨ ((ItS K k a).go i H ∧ ∃ Nx : Hp → Prop, (∀ H', Nx H' → ∃ m', m' < m ∧ W (i + 1) m' H') ∧ ∀ x H', (ItS K k a).yld i H x H' → g x (wipe σ vs) H' fun σ2 H2 => wipe σ2 vs = wipe σ vs ∧ tt σ2 H2 fun b H3 =>
        if b = true then te σ2 H3 fun y H4 => ∃ acc, H4 D = some (.lst acc) ∧ acc.length < sizeLine ∧ Nx (upd H4 D (.lst (acc ++ [y]))) else Nx H3) := by
  cases k with
  | true => exact lc_tup Pv h0 hl hs hd
  | false => exact lc_list Pv h0 hl hs hd
theorem lc_enumS {K : PySem.W.Frag} {k : Bool} {a : Addr} {xs : List V} {g : TG} {tt : TT} {te : TE} {vs : List Nat} {σ : L2.St} {H1 : Hp} {D : Addr} {Qd : Hp → Prop} (Pv : Nat → Hp → Prop) (h0 : Pv 0 (upd H1 D (.lst [])))
    (hl : ∀ i H, i ≤ xs.length → Pv i H → Sq K k H a xs)
    (hs : ∀ (i : Nat) (x : V) (T : Addr) H, xs[i]? = some x → Pv i H → H T = none → g (.ref T) (wipe σ vs) (upd H T (.tup [.int (i : Nat), x])) fun σ2 H2 => wipe σ2 vs = wipe σ vs ∧ tt σ2 H2 fun b H3 =>
      if b = true then te σ2 H3 fun y H4 => ∃ acc, H4 D = some (.lst acc) ∧ acc.length < sizeLine ∧ Pv (i + 1) (upd H4 D (.lst (acc ++ [y]))) else Pv (i + 1) H3) (hd : ∀ H, Pv xs.length H → Qd H) :
    ∃ W : Nat → Nat → Hp → Prop, (∃ m, W 0 m (upd H1 D (.lst []))) ∧ ∀ i m H, W i m H →
      ((IteS K k a).stop i H ∧ Qd H) ∨ ((IteS K k a).go i H ∧ ∃ Nx : Hp → Prop, (∀ H', Nx H' → ∃ m', m' < m ∧ W (i + 1) m' H') ∧ ∀ x H', (IteS K k a).yld i H x H' → g x (wipe σ vs) H' fun σ2 H2 => wipe σ2 vs = wipe σ vs ∧ tt σ2 H2 fun b H3 =>
        if b = true then te σ2 H3 fun y H4 => ∃ acc, H4 D = some (.lst acc) ∧ acc.length < sizeLine ∧ Nx (upd H4 D (.lst (acc ++ [y]))) else Nx H3) := by
  refine ⟨fun i m H => m = xs.length - i ∧ i ≤ xs.length ∧ Pv i H, ⟨xs.length, by simp, Nat.zero_le _, h0⟩, ?_⟩
  rintro i m H ⟨rfl, hi, p⟩
  have q := hl i H hi p
  by_cases hlt : i < xs.length
  · refine .inr ⟨⟨xs, xs[i], q, List.getElem?_eq_getElem hlt⟩, Pv (i + 1), fun H' p' => ⟨xs.length - (i + 1), by omega, rfl, hlt, p'⟩, ?_⟩
    rintro _ _ ⟨T, x, rfl, nT, rfl, y⟩
    exact hs i x T _ (y xs q) p nT
  · obtain rfl : i = xs.length := by omega
    exact .inl ⟨⟨xs, q, rfl⟩, hd H p⟩
theorem lc_zipS {K : PySem.W.Frag} {k j : Bool} {a b : Addr} {xs ys : List V} {g : TG} {tt : TT} {te : TE} {vs : List Nat} {σ : L2.St} {H1 : Hp} {D : Addr} {Qd : Hp → Prop} (n : Nat) (hn : n = min xs.length ys.length) (Pv : Nat → Hp → Prop) (h0 : Pv 0 (upd H1 D (.lst [])))
    (hl : ∀ i H, i ≤ n → Pv i H → Sq K k H a xs ∧ Sq K j H b ys)
    (hs : ∀ (i : Nat) (x y : V) (T : Addr) H, xs[i]? = some x → ys[i]? = some y → Pv i H → H T = none → g (.ref T) (wipe σ vs) (upd H T (.tup [x, y])) fun σ2 H2 => wipe σ2 vs = wipe σ vs ∧ tt σ2 H2 fun b H3 =>
      if b = true then te σ2 H3 fun y H4 => ∃ acc, H4 D = some (.lst acc) ∧ acc.length < sizeLine ∧ Pv (i + 1) (upd H4 D (.lst (acc ++ [y]))) else Pv (i + 1) H3) (hd : ∀ H, Pv n H → Qd H) :
    ∃ W : Nat → Nat → Hp → Prop, (∃ m, W 0 m (upd H1 D (.lst []))) ∧ ∀ i m H, W i m H →
      ((ItzS K k j a b).stop i H ∧ Qd H) ∨ ((ItzS K k j a b).go i H ∧ ∃ Nx : Hp → Prop, (∀ H', Nx H' → ∃ m', m' < m ∧ W (i + 1) m' H') ∧ ∀ x H', (ItzS K k j a b).yld i H x H' → g x (wipe σ vs) H' fun σ2 H2 => wipe σ2 vs = wipe σ vs ∧ tt σ2 H2 fun b H3 =>
        if b = true then te σ2 H3 fun y H4 => ∃ acc, H4 D = some (.lst acc) ∧ acc.length < sizeLine ∧ Nx (upd H4 D (.lst (acc ++ [y]))) else Nx H3) := by
  refine ⟨fun i m H => m = n - i ∧ i ≤ n ∧ Pv i H, ⟨n, by simp, Nat.zero_le _, h0⟩, ?_⟩
  rintro i m H ⟨rfl, hi, p⟩
  obtain ⟨q1, q2⟩ := hl i H hi p
  by_cases hlt : i < n
  · have l1 : i < xs.length := by omega
    have l2 : i < ys.length := by omega
    refine .inr ⟨⟨xs, ys, xs[i], ys[i], q1, q2, List.getElem?_eq_getElem l1, List.getElem?_eq_getElem l2⟩, Pv (i + 1), fun H' p' => ⟨n - (i + 1), by omega, rfl, hlt, p'⟩, ?_⟩
    rintro _ _ ⟨T, x, y, rfl, nT, rfl, y1, y2⟩
    exact hs i x y T _ (y1 xs q1) (y2 ys q2) p nT
  · obtain rfl : i = n := by omega
    exact .inl ⟨⟨xs, ys, q1, q2, by omega, by omega, by omega⟩, hd H p⟩

/-! lists of ints at their places -/
def At (k : Bool) (H : Hp) (a : Addr) (p : List Int) : Prop :=
  match k with | true => H a = some (.tup (p.map V.int)) | false => H a = some (.lst (p.map V.int))
theorem At.same {k : Bool} {H H' : Hp} {a : Addr} {p : List Int} (s : Same H H') (h : At k H a p) : At k H' a p := by
  cases k with
  | true => exact s _ _ h
  | false => exact s _ _ h
theorem At.sq {K : PySem.W.Frag} {k : Bool} {H : Hp} {a : Addr} {p : List Int} (h : At k H a p) : Sq K k H a (p.map V.int) := by
  cases k with
  | true => exact SqT.of h
  | false => exact SqL.of h
theorem At.chg {k : Bool} {c : Addr} {H H' : Hp} {a : Addr} {p : List Int} (s : Chg c H H') (n : a ≠ c) (h : At k H a p) : At k H' a p := by
  cases k with
  | true => exact s _ _ n h
  | false => exact s _ _ n h
theorem At.ne {k : Bool} {H : Hp} {a b : Addr} {p : List Int} (h : At k H a p) (n : H b = none) : a ≠ b := by
  cases k with
  | true => exact ne_of_none h n
  | false => exact ne_of_none h n
theorem int_at {p : List Int} {i : Nat} {x : V} (h : (p.map V.int)[i]? = some x) : x = .int (co p i) ∧ i < p.length := by
  rw [List.getElem?_map] at h
  cases e : p[i]? with
  | none => rw [e] at h; cases h
  | some z =>
    rw [e] at h
    cases h
    have l := (List.getElem?_eq_some_iff.mp e).1
    refine ⟨?_, l⟩
    rw [co_at l, (List.getElem?_eq_some_iff.mp e).2]
theorem at_int {p : List Int} {i : Nat} (l : i < p.length) : (p.map V.int)[i]? = some (.int (co p i)) := by
  rw [List.getElem?_map, List.getElem?_eq_getElem l, co_at l]; rfl
theorem atI_int {p : List Int} {i : Nat} (l : i < p.length) : atI (p.map V.int) (i : Int) = some (.int (co p i)) := atI_nat (at_int l)
theorem atI_end {p : List Int} (h : p ≠ []) : atI (p.map V.int) (-1) = some (.int (co p (p.length - 1))) := by
  have l : 0 < p.length := List.length_pos_iff.mpr h
  have e : p = p.dropLast ++ [p.getLast h] := (List.dropLast_concat_getLast h).symm
  have z := atI_last (p.dropLast.map V.int) (.int (p.getLast h))
  have e2 : p.map V.int = p.dropLast.map V.int ++ [V.int (p.getLast h)] := by
    conv => lhs; rw [e]
    rw [List.map_append]; rfl
  rw [e2, z, co_at (by omega), List.getLast_eq_getElem]
theorem cut_to {xs : List V} {n : Nat} : cutV xs none (some (n : Int)) = xs.take n := by
  unfold cutV
  rw [HT.sIx_none, HT.sIx_nat, List.drop_zero, Nat.sub_zero]
  by_cases h : n ≤ xs.length
  · rw [Nat.min_eq_left h]
  · rw [Nat.min_eq_right (by omega), List.take_length, List.take_of_length_le (by omega)]
theorem cut_from {xs : List V} {n : Nat} : cutV xs (some (n : Int)) none = xs.drop n := by
  unfold cutV
  rw [HT.sIx_none, HT.sIx_nat]
  by_cases h : n ≤ xs.length
  · rw [Nat.min_eq_left h, List.take_of_length_le (by rw [List.length_drop]; omega)]
  · rw [Nat.min_eq_right (by omega), List.drop_length, List.drop_eq_nil_of_le (by omega), List.take_nil]
theorem set_int {p : List Int} {i : Nat} (l : i < p.length) (z : Int) : ixN (p.map V.int).length (i : Int) = some i ∧ (p.map V.int).set i (.int z) = (p.set i z).map V.int := by
  refine ⟨?_, by rw [List.map_set]⟩
  unfold ixN
  rw [if_pos (by omega), if_pos (by rw [List.length_map]; omega)]; rfl
theorem co_set {p : List Int} {i : Nat} (l : i < p.length) (z : Int) (t : Nat) : co (p.set i z) t = if t = i then z else co p t := by
  unfold co
  rw [List.getD_eq_getElem?_getD, List.getElem?_set]
  by_cases e : t = i
  · subst e; simp [l]
  · rw [if_neg (fun z => e z.symm), if_neg e]; rfl
/-- numbers of any use here -/
@[irreducible] def big : Nat := 60000000
theorem big_two : big + big ≤ 134217728 := by unfold big; decide
theorem big_le {n : Nat} (h : n ≤ 60000000) : n ≤ big := by unfold big; exact h
theorem mulx_big {i j : Int} (hi : i.natAbs < 2 ^ big) (hj : j.natAbs < 2 ^ big) : CMulX i j := mulx_ok hi hj big_two
theorem bd_big {k : Nat} {p : List Int} (h : Bd k p) (l : k ≤ 60000000) : Bd big p := h.mono (big_le l)
theorem pow_big {k : Nat} {z : Int} (h : z.natAbs < 2 ^ k) (l : k ≤ 60000000) : z.natAbs < 2 ^ big := Nat.lt_of_lt_of_le h (Nat.pow_le_pow_right (by decide) (big_le l))
theorem int_big {z : Int} (h : z.natAbs ≤ 1000000000000) : z.natAbs < 2 ^ big := pow_big (k := 40) (Nat.lt_of_le_of_lt h (by decide)) (by decide)
/-- a line -/
structure Ln (k : Bool) (H : Hp) (a : Addr) (p : List Int) : Prop where
  at_ : At k H a p
  cn : Cn p
  len : p.length ≤ 13
  bd : Bd 1000 p
theorem Ln.same {k : Bool} {H H' : Hp} {a : Addr} {p : List Int} (s : Same H H') (h : Ln k H a p) : Ln k H' a p := ⟨h.at_.same s, h.cn, h.len, h.bd⟩
theorem Ln.chg {k : Bool} {c : Addr} {H H' : Hp} {a : Addr} {p : List Int} (s : Chg c H H') (n : a ≠ c) (h : Ln k H a p) : Ln k H' a p := ⟨h.at_.chg s n, h.cn, h.len, h.bd⟩
theorem lineB_ints {p : List Int} (c : Cn p) (l : p.length ≤ 13) : lineB (p.map V.int) = true := by
  unfold lineB
  rw [List.length_map, decide_eq_true l, show (p.map V.int).all isI = true from List.all_eq_true.mpr fun x hx => by obtain ⟨z, _, rfl⟩ := List.mem_map.mp hx; rfl]
  by_cases h : p = []
  · subst h; rfl
  rw [List.getLast?_map, List.getLast?_eq_some_getLast h]
  have z := c _ (List.getLast?_eq_some_getLast h)
  have : decide (some (V.int (p.getLast h)) = some (V.int 0)) = false := decide_eq_false fun e => z (by injection e with e; injection e)
  simp only [Option.map_some, this]
  simp
theorem Ln.val {k : Bool} {H : Hp} {a : Addr} {p : List Int} (h : Ln k H a p) : Val H (.ref a) true := by
  have e := lineB_ints h.cn h.len
  have kd : ∀ x ∈ p.map V.int, ∃ k, Kd H x k := fun x hx => by obtain ⟨z, _, rfl⟩ := List.mem_map.mp hx; exact ⟨_, .int z⟩
  have l : (p.map V.int).length ≤ 1000 := by rw [List.length_map]; have := h.len; omega
  cases k with
  | true => have v := Val.tup h.at_ kd l; rwa [e] at v
  | false => have v := Val.lst h.at_ kd l; rwa [e] at v
/-- a new list of ints -/
abbrev NewL (H : Hp) (r : List Int) (Q : VK) : Prop := ∀ H' a, Same H H' → H a = none → H' a = some (.lst (r.map V.int)) → Q (.ref a) H'
theorem dp_ints {K : PySem.W.Frag} {H : Hp} : ∀ p : List Int, DpAll K H (p.map V.int) (p.map PyData.int)
  | [] => .nil
  | a :: p => .cons (.int a) (dp_ints p)
theorem At.dp {K : PySem.W.Frag} {H : Hp} {a : Addr} {p : List Int} (h : At false H a p) : Dp K H (.ref a) (.list (p.map PyData.int)) := .lst (SqL.of h) (dp_ints p)
theorem eqv_ints : ∀ p q : List Int, PyData.eqvAll (p.map PyData.int) (q.map PyData.int) = decide (p = q)
  | [], [] => by simp [PyData.eqvAll]
  | [], _ :: _ => by simp [PyData.eqvAll]
  | _ :: _, [] => by simp [PyData.eqvAll]
  | a :: p, b :: q => by
    have ih := eqv_ints p q
    simp only [List.map_cons, PyData.eqvAll, PyData.eqv, ih]
    by_cases e : a = b
    · subst e; simp
    · have : (a == b) = false := by simpa using e
      rw [this]; simp [e]
theorem shaped_ints (p : List Int) : SeqAt.shaped (.list (p.map PyData.int)) = true := by
  have h1 : ∀ p : List Int, PyData.canLayAll0 (p.map PyData.int) = true := by
    intro p
    induction p with
    | nil => simp [PyData.canLayAll0]
    | cons a p ih => simp [PyData.canLayAll0, PyData.canLay0, ih]
  have h2 : ∀ p : List Int, PyData.depthAll (p.map PyData.int) ≤ 1 := by
    intro p
    induction p with
    | nil => simp [PyData.depthAll]
    | cons a p ih => simp only [List.map_cons, PyData.depthAll, PyData.depth]; omega
  unfold SeqAt.shaped
  rw [show PyData.canLay0 (.list (p.map PyData.int)) = true by simpa [PyData.canLay0] using h1 p]
  have := h2 p
  have h3 : PyData.depth (.list (p.map PyData.int)) ≤ 64 := by simp only [PyData.depth]; omega
  rw [Bool.true_and]
  exact decide_eq_true h3
/-- two lists of ints held against each other -/
theorem neL {K : PySem.W.Frag} {H : Hp} {a b : Addr} {p q : List Int} {Q : VK} (h : At false H a p) (g : At false H b q) (e : Q (.bl (!decide (p = q))) H) : rNeD K (.ref a) (.ref b) H Q :=
  ⟨_, _, h.dp, g.dp, shaped_ints p, shaped_ints q, by rw [show PyData.eqv (.list (p.map PyData.int)) (.list (q.map PyData.int)) = decide (p = q) by simp only [PyData.eqv]; exact eqv_ints p q]; exact e⟩
theorem eqL {K : PySem.W.Frag} {H : Hp} {a b : Addr} {p q : List Int} {Q : VK} (h : At false H a p) (g : At false H b q) (e : Q (.bl (decide (p = q))) H) : rEqD K (.ref a) (.ref b) H Q :=
  ⟨_, _, h.dp, g.dp, shaped_ints p, shaped_ints q, by rw [show PyData.eqv (.list (p.map PyData.int)) (.list (q.map PyData.int)) = decide (p = q) by simp only [PyData.eqv]; exact eqv_ints p q]; exact e⟩
/-- xs[i] ahead of xs[i] += .. -/
def rGetL (K : PySem.W.Frag) : V → V → Hp → VK → Prop := fun x y H Q => ∃ (p : Addr) (xs : List V) (i : Nat) (v : V), x = .ref p ∧ y = .int (i : Nat) ∧ SqL K H p xs ∧ xs[i]? = some v ∧ Q v H
theorem get_L {X : Cx} : PGet X (rGetL X.K) := by
  intro pins s σ H o i ov iv Q I ro ri ⟨p, xs, i, v, e1, e2, hq, he, q⟩
  subst e1 e2
  cases ro
  obtain ⟨t, rfl⟩ := ri
  obtain ⟨its, r, pl, hz⟩ := I.list hq
  obtain ⟨w, ew, rw'⟩ := r.get he
  have l := (List.getElem?_eq_some_iff.mp he).1
  have hn := line63
  have hl := r.length
  exact wpAny_getItem_list pl.isList (by omega) (by omega) (by simpa using ew) ⟨v, H, I, rw', q⟩
theorem ix_listK {X : Cx} {K : PySem.W.Frag} (h : X.K = K) : IxR X (rIxL K) := by subst h; exact ix_list
end Kr
/-! What the program's sums of powers promise. -/
namespace Kr
open PySem PySem.Spec
open PyProof.Rows L2

def spTrim : Sp := fun vs H Q _ => ∃ (a : Addr) (p : List Int), vs = [.ref a] ∧ At false H a p ∧ p.length ≤ 1000 ∧ NewL H (trim p) Q
def spScaled : Sp := fun vs H Q _ => ∃ (k : Bool) (a : Addr) (p : List Int) (f : Int), vs = [.ref a, .int f] ∧ At k H a p ∧ p.length ≤ 1000 ∧
  Bd big p ∧ f.natAbs < 2 ^ big ∧ NewL H (trim (sclF f p)) Q
def spPSum : Sp := fun vs H Q _ => ∃ (k j : Bool) (a b : Addr) (p q : List Int), vs = [.ref a, .ref b] ∧ At k H a p ∧ At j H b q ∧
  p.length ≤ 500 ∧ q.length ≤ 500 ∧ NewL H (trim (addF p q)) Q
def spPLess : Sp := fun vs H Q _ => ∃ (k j : Bool) (a b : Addr) (p q : List Int), vs = [.ref a, .ref b] ∧ At k H a p ∧ At j H b q ∧
  p.length ≤ 500 ∧ q.length ≤ 500 ∧ Bd big q ∧ NewL H (trim (addF p (sclF (-1) q))) Q
def spPTimes : Sp := fun vs H Q _ => ∃ (k j : Bool) (a b : Addr) (p q : List Int), vs = [.ref a, .ref b] ∧ At k H a p ∧ At j H b q ∧
  p.length ≤ 500 ∧ q.length ≤ 500 ∧ Bd big p ∧ Bd big q ∧ NewL H (mulF p q) Q
def spPValue : Sp := fun vs H Q _ => ∃ (k : Bool) (a : Addr) (p : List Int) (x : Int), vs = [.ref a, .int x] ∧ At k H a p ∧ p.length ≤ 1000 ∧
  Bd 1000000 p ∧ x.natAbs < 2 ^ 1000 ∧ ∀ H', Same H H' → Q (.int (ev x p)) H'
def spPSlope : Sp := fun vs H Q _ => ∃ (k : Bool) (a : Addr) (p : List Int), vs = [.ref a] ∧ At k H a p ∧ p.length ≤ 1000 ∧ Bd big p ∧ NewL H (slF p) Q
def spContent : Sp := fun vs H Q _ => ∃ (k : Bool) (a : Addr) (p : List Int), vs = [.ref a] ∧ At k H a p ∧ p.length ≤ 1000 ∧
  ∀ H', Same H H' → Q (.int (cnt p : Nat)) H'
def spPPlain : Sp := fun vs H Q _ => ∃ (a : Addr) (p : List Int), vs = [.ref a] ∧ At false H a p ∧ p.length ≤ 1000 ∧ Cn p ∧ cnt p < 1073741824 ∧ NewL H (plF p) Q
def spCheck : Sp := fun vs H Q _ => ∃ v : V, vs = [v] ∧ Val H v true ∧ ∀ H', Same H H' → Q .non H'
def spChecks : Sp := fun vs H Q _ => ∃ v u : V, vs = [v, u] ∧ Val H v true ∧ Val H u true ∧ ∀ H', Same H H' → Q .non H'
def spDegree : Sp := fun vs H Q _ => ∃ (k : Bool) (a : Addr) (p : List Int), vs = [.ref a] ∧ Ln k H a p ∧ ∀ H', Same H H' → Q (.int ((p.length : Int) - 1)) H'
def spLnV : Sp := fun vs H Q _ => ∃ (k : Bool) (a : Addr) (p : List Int) (x : Int), vs = [.ref a, .int x] ∧ Ln k H a p ∧ x.natAbs < 2 ^ 1000 ∧
  ∀ H', Same H H' → Q (.int (ev x p)) H'
def spLnS : Sp := fun vs H Q _ => ∃ (k : Bool) (a : Addr) (p : List Int), vs = [.ref a] ∧ Ln k H a p ∧ NewL H (slF p) Q
def spLnP : Sp := fun vs H Q _ => ∃ (a : Addr) (p : List Int), vs = [.ref a] ∧ Ln false H a p ∧ cnt p < 1073741824 ∧ NewL H (plF p) Q
def spLn2 (f : List Int → List Int → List Int) (c : List Int → List Int → Prop) : Sp := fun vs H Q _ =>
  ∃ (k j : Bool) (a b : Addr) (p q : List Int), vs = [.ref a, .ref b] ∧ Ln k H a p ∧ Ln j H b q ∧ c p q ∧ NewL H (f p q) Q
/-- the law's own ones -/
def spLSum : Sp := fun vs H Q _ => ∃ (a b : Addr) (p q : List Int) (f : Int), vs = [.ref a, .ref b, .int f] ∧ At false H a p ∧ At false H b q ∧
  p.length ≤ 500 ∧ q.length ≤ 500 ∧ Bd big q ∧ f.natAbs < 2 ^ big ∧ NewL H (trim (addF p (sclF f q))) Q
def spLTimes : Sp := fun vs H Q _ => ∃ (a b : Addr) (p q : List Int), vs = [.ref a, .ref b] ∧ At false H a p ∧ At false H b q ∧
  p.length ≤ 500 ∧ q.length ≤ 500 ∧ Bd big p ∧ Bd big q ∧ NewL H (trim (mulF p q)) Q
def spLValue : Sp := fun vs H Q _ => ∃ (a : Addr) (p : List Int) (x : Int), vs = [.ref a, .int x] ∧ At false H a p ∧ p.length ≤ 1000 ∧
  Bd 1000000 p ∧ x.natAbs < 2 ^ 1000 ∧ ∀ H', Same H H' → Q (.int (ev x p)) H'
def spLSlope : Sp := fun vs H Q _ => ∃ (a : Addr) (p : List Int), vs = [.ref a] ∧ At false H a p ∧ p.length ≤ 1000 ∧ Bd big p ∧ NewL H (slF p) Q
def spLGreat : Sp := fun vs H Q _ => ∃ (a : Addr) (p : List Int), vs = [.ref a] ∧ At false H a p ∧ p.length ≤ 1000 ∧ (∀ z ∈ p, z.natAbs < 1073741824) ∧
  Q (.int (cnt p : Nat)) H
def spLPlain : Sp := fun vs H Q _ => ∃ (a : Addr) (p : List Int), vs = [.ref a] ∧ At false H a p ∧ p.length ≤ 1000 ∧ Cn p ∧ (∀ z ∈ p, z.natAbs < 1073741824) ∧
  NewL H (plF p) Q

def spDrawn : Sp := fun vs H Q _ => ∃ a : Addr, vs = [.ref a] ∧ PotAt H a ∧ ∀ (H' : Hp) (r : Addr) (p : List Int), Chg a H H' → PotAt H' a → H r = none → r ≠ a →
  At false H' r p → p.length ≤ 7 → (∀ z ∈ p, z.natAbs ≤ 12) → Cn p → Q (.ref r) H'
theorem Same.ov {H H' : Hp} {D : Addr} {o : HO} (n : H D = none) (s : Same H H') : Same H (upd H' D o) := by
  intro b x e
  rw [upd_ne (ne_of_none e n)]
  exact s _ _ e
theorem NewL.go {H H1 : Hp} {r : List Int} {Q : VK} (q : NewL H r Q) (s : Same H H1) : NewL H1 r Q := fun H' a s1 n e => q H' a (Same.trans s s1) (s.free n) e
theorem NewL.at_ {H H' : Hp} {r : List Int} {Q : VK} {a : Addr} (q : NewL H r Q) (s : Same H H') (n : H a = none) (e : H' a = some (.lst (r.map V.int))) : Q (.ref a) H' := q H' a s n e

/-! what the loops come to -/
theorem co_take {p : List Int} {n i : Nat} : co (p.take n) i = if i < n then co p i else 0 := by
  unfold co
  rw [List.getD_eq_getElem?_getD, List.getD_eq_getElem?_getD, List.getElem?_take]
  split <;> rfl
theorem trim_take {p : List Int} {n : Nat} (hn : n ≤ p.length) (h : ∀ i, n ≤ i → co p i = 0) (e : n = 0 ∨ co p (n - 1) ≠ 0) : trim p = p.take n := by
  refine co_ext (cn_trim _) (cn_of fun h0 => ?_) fun i => ?_
  · have l : (p.take n).length = n := by rw [List.length_take]; omega
    have n0 : n ≠ 0 := by intro z; subst z; exact h0 rfl
    rw [l, co_take, if_pos (by omega)]
    exact e.resolve_left n0
  · rw [co_trim, co_take]
    split
    · rfl
    · exact h i (by omega)
theorem cnt_snoc (p : List Int) (z : Int) : cnt (p ++ [z]) = Nat.gcd (cnt p) z.natAbs := by
  unfold cnt
  rw [List.foldr_append]
  simp only [List.foldr_cons, List.foldr_nil, Nat.gcd_zero_right]
  induction p with
  | nil => simp
  | cons a p ih => simp only [List.foldr_cons, ih, Nat.gcd_assoc]
theorem take_co {p : List Int} {i : Nat} (l : i < p.length) : p.take (i + 1) = p.take i ++ [co p i] := by
  rw [List.take_add_one, List.getElem?_eq_getElem l, co_at l]; rfl
theorem cv_delta (i : Nat) (c : Int) : ∀ (t : Nat) (g : Fn), cv (fun n => if n = i then c else 0) g t = if i ≤ t then c * g (t - i) else 0 := by
  induction i with
  | zero =>
    intro t g
    have z : (fun n => if n + 1 = 0 then c else 0) = fun _ : Nat => (0 : Int) := by funext n; rw [if_neg (by omega)]
    cases t with
    | zero => simp [cv]
    | succ t => rw [cv, z, cv_zero]; simp
  | succ i ih =>
    intro t g
    have z : (fun n => if n + 1 = i + 1 then c else 0) = fun n : Nat => if n = i then c else (0 : Int) := by
      funext n
      by_cases e : n = i
      · rw [if_pos e, if_pos (by omega)]
      · rw [if_neg e, if_neg (by omega)]
    cases t with
    | zero => simp [cv]
    | succ t =>
      rw [cv, z, ih t g]
      simp only [show (0 = i + 1) = False by simp, if_false, Int.zero_mul, Int.zero_add, Nat.add_le_add_iff_right, Nat.add_sub_add_right]
theorem cv_take {p : List Int} {i : Nat} (g : Fn) (t : Nat) (l : i < p.length) : cv (co (p.take (i + 1))) g t = cv (co (p.take i)) g t + if i ≤ t then co p i * g (t - i) else 0 := by
  have e : co (p.take (i + 1)) = fun n => co (p.take i) n + if n = i then co p i else 0 := by
    funext n
    rw [co_take, co_take]
    by_cases h1 : n < i
    · rw [if_pos (by omega), if_pos h1, if_neg (by omega), Int.add_zero]
    · by_cases h2 : n = i
      · rw [if_pos (by omega), if_neg h1, if_pos h2, h2, Int.zero_add]
      · rw [if_neg (by omega), if_neg h1, if_neg h2, Int.add_zero]
  rw [e, cv_add_l, cv_delta]
theorem list_co {p q : List Int} (l : p.length = q.length) (h : ∀ i, i < p.length → co p i = co q i) : p = q :=
  List.ext_getElem l fun i h1 h2 => by have := h i h1; rwa [co_at h1, co_at h2] at this
theorem mul_tab {p q r : List Int} (hp : p ≠ []) (hq : q ≠ []) (l : r.length = p.length + q.length - 1) (h : ∀ t, t < r.length → co r t = cv (co p) (co q) t) : r = mulF p q :=
  list_co (l.trans (mulF_length hp hq).symm) fun i hi => by rw [h i hi, co_mul]
theorem co_rep (n i : Nat) : co (List.replicate n 0) i = 0 := by
  unfold co
  rw [List.getD_eq_getElem?_getD, List.getElem?_replicate]
  split <;> rfl
theorem rep0 (n : Nat) : (List.replicate n [V.int 0]).flatten = (List.replicate n (0 : Int)).map V.int := by
  induction n with
  | zero => rfl
  | succ n ih => rw [List.replicate_succ, List.flatten_cons, ih, List.replicate_succ]; rfl
/-- within a row of the product -/
def row (p q : List Int) (i j t : Nat) : Int := cv (co (p.take i)) (co q) t + if i ≤ t ∧ t < i + j then co p i * co q (t - i) else 0
theorem row_0 (p q : List Int) (i t : Nat) : row p q i 0 t = cv (co (p.take i)) (co q) t := by
  unfold row; rw [if_neg (by omega), Int.add_zero]
theorem row_s {p q : List Int} {i j t : Nat} : row p q i (j + 1) t = if t = i + j then row p q i j t + co p i * co q j else row p q i j t := by
  unfold row
  by_cases e : t = i + j
  · rw [if_pos e, if_pos (by omega), if_neg (by omega), show t - i = j by omega]; omega
  · rw [if_neg e]
    by_cases h : i ≤ t ∧ t < i + j
    · rw [if_pos h, if_pos (by omega)]
    · rw [if_neg h, if_neg (by omega)]
theorem row_end {p q : List Int} {i t : Nat} (l : i < p.length) : row p q i q.length t = cv (co (p.take (i + 1))) (co q) t := by
  rw [cv_take _ _ l]
  unfold row
  by_cases h : i ≤ t
  · rw [if_pos h]
    by_cases h2 : t < i + q.length
    · rw [if_pos ⟨h, h2⟩]
    · rw [if_neg (by omega), co_big (p := q) (by omega), Int.mul_zero]
  · rw [if_neg h, if_neg (by omega)]
theorem ev_rev (x : Int) (p : List Int) (i : Nat) (z : Int) (h : p.reverse[i]? = some z) :
    ev x (p.reverse.take (i + 1)).reverse = ev x (p.reverse.take i).reverse * x + z := by
  rw [List.take_add_one, h, List.reverse_append]
  show z + x * ev x (p.reverse.take i).reverse = _
  rw [Int.mul_comm, Int.add_comm]
theorem bd_sub {k : Nat} {p q : List Int} (h : Bd k p) (s : ∀ z ∈ q, z ∈ p) : Bd k q := fun z hz => h z (s z hz)
theorem ev_part {p : List Int} {x : Int} (i : Nat) (hl : p.length ≤ 1000) (h : Bd 1000000 p) (hx : x.natAbs < 2 ^ 1000) : (ev x (p.reverse.take i).reverse).natAbs < 2 ^ big := by
  have b : Bd 1000000 (p.reverse.take i).reverse := bd_sub h fun z hz => List.mem_reverse.mp (List.mem_of_mem_take (List.mem_reverse.mp hz))
  have l : (p.reverse.take i).reverse.length ≤ 1000 := by rw [List.length_reverse, List.length_take, List.length_reverse]; omega
  refine pow_big (ev_bd x hx _ b) ?_
  have := Nat.mul_le_mul_right (1000 + 1) l
  omega
theorem sl_row {p : List Int} {i : Nat} : (List.range (i + 1 - 1)).map (dv (co p)) = (if 0 < i then ((List.range (i - 1)).map (dv (co p))) ++ [(i : Int) * co p i] else (List.range (i - 1)).map (dv (co p))) := by
  cases i with
  | zero => rfl
  | succ i =>
    rw [if_pos (Nat.succ_pos i), Nat.add_sub_cancel, Nat.add_sub_cancel, List.range_succ, List.map_append]
    rfl
theorem co_app {p q : List Int} {i : Nat} : co (p ++ q) i = if i < p.length then co p i else co q (i - p.length) := by
  unfold co
  rw [List.getD_eq_getElem?_getD, List.getD_eq_getElem?_getD, List.getD_eq_getElem?_getD, List.getElem?_append]
  split <;> rfl
theorem co_pad (p : List Int) (n i : Nat) : co (p ++ List.replicate n 0) i = co p i := by
  rw [co_app]
  split
  · rfl
  · rw [co_rep, co_big (by omega)]
theorem co_zip {p q : List Int} (g : Int → Int → Int) (g0 : g 0 0 = 0) (l : p.length = q.length) (i : Nat) : co (List.zipWith g p q) i = g (co p i) (co q i) := by
  by_cases h : i < p.length
  · rw [co_at (by rw [List.length_zipWith]; omega), List.getElem_zipWith, co_at h, co_at (by omega)]
  · rw [co_big (by rw [List.length_zipWith]; omega), co_big (by omega), co_big (by omega), g0]
theorem pad_sum {p q : List Int} (f : Int) {n m : Nat} (l : p.length + n = q.length + m) :
    trim (List.zipWith (fun x y => x + f * y) (p ++ List.replicate n 0) (q ++ List.replicate m 0)) = trim (addF p (sclF f q)) := trim_ext fun i => by
  rw [co_zip _ (by simp) (by simpa using l), co_pad, co_pad, co_add, co_scl]
theorem trim_tab {p q r : List Int} (l : p.length + q.length ≤ r.length) (h : ∀ t, t < r.length → co r t = cv (co p) (co q) t) : trim r = trim (mulF p q) := trim_ext fun i => by
  by_cases hi : i < r.length
  · rw [h i hi, co_mul]
  · rw [co_big (by omega), co_big (Nat.le_trans (mulF_le p q) (by omega))]
theorem drop_last {p : List Int} (h : p ≠ []) : (p.map V.int)[(p.map V.int).length - 1]? = some (.int (co p (p.length - 1))) ∧ (p.map V.int).dropLast = (p.take (p.length - 1)).map V.int := by
  have l : 0 < p.length := List.length_pos_iff.mpr h
  refine ⟨by rw [List.length_map]; exact at_int (by omega), ?_⟩
  rw [List.dropLast_eq_take, List.length_map, List.map_take]
/-- one step of the greatest common divisor -/
theorem euclid {x y : Nat} (h : y ≠ 0) : ((x : Int) - (x : Int).fdiv y * y) = ((x % y : Nat) : Int) ∧ (x : Int).fdiv y = ((x / y : Nat) : Int) ∧ Nat.gcd y (x % y) = Nat.gcd x y := by
  have e : (x : Int).fdiv y = ((x / y : Nat) : Int) := by
    rw [Int.fdiv_eq_ediv_of_nonneg _ (by omega)]; rfl
  refine ⟨?_, e, ?_⟩
  · rw [e]
    have h2 := Nat.div_add_mod x y
    have h3 : ((y * (x / y) + x % y : Nat) : Int) = x := by rw [h2]
    rw [Int.natCast_add, Int.natCast_mul] at h3
    rw [Int.mul_comm]; omega
  · rw [Nat.gcd_comm y, ← Nat.gcd_rec, Nat.gcd_comm]
theorem Chg.ov {a D : Addr} {H H' : Hp} {o : HO} (n : H D = none) (s : Chg a H H') : Chg a H (upd H' D o) := by
  intro b x nb e
  rw [upd_ne (ne_of_none e n)]
  exact s _ _ nb e
theorem Chg.free {a D : Addr} {H H' : Hp} (s : Chg a H H') (na : D ≠ a) (n : H' D = none) : H D = none := by
  cases e : H D with
  | none => rfl
  | some o => have := s _ _ na e; rw [n] at this; cases this
/-- a part of a law that holds -/
def spHolds : Sp := fun vs H Q _ => ∃ a : Addr, vs = [.ref a] ∧ PotAt H a ∧
  ∀ H', Chg a H H' → PotAt H' a → Q (.bl true) H'
/-- a drawn line -/
structure Sm (p : List Int) : Prop where
  cn : Cn p
  len : p.length ≤ 7
  sm : ∀ z ∈ p, z.natAbs ≤ 12
theorem Sm.bd {p : List Int} (s : Sm p) : Bd 4 p := fun z hz => Nat.lt_of_le_of_lt (s.sm z hz) (by decide)
theorem Sm.ln {k : Bool} {H : Hp} {a : Addr} {p : List Int} (s : Sm p) (h : At k H a p) : Ln k H a p := ⟨h, s.cn, by have := s.len; omega, s.bd.mono (by decide)⟩
theorem scl_1 (p : List Int) : sclF 1 p = p := by
  unfold sclF
  exact (List.map_congr_left fun z _ => Int.one_mul z).trans (List.map_id p)
def dOf (k : Bool) (p : List Int) : PyData :=
  match k with | true => .tuple (p.map PyData.int) | false => .list (p.map PyData.int)
theorem At.d {K : PySem.W.Frag} {k : Bool} {H : Hp} {a : Addr} {p : List Int} (h : At k H a p) : Dp K H (.ref a) (dOf k p) := by
  cases k with
  | true => exact .tup (SqT.of h) (dp_ints p)
  | false => exact .lst (SqL.of h) (dp_ints p)
theorem ints_all {p : List Int} (h : ∀ z ∈ p, z.natAbs ≤ 1000000000) : PyData.showableAll (p.map PyData.int) = true ∧ PyData.hasDictAll (p.map PyData.int) = false ∧
    PyData.depthAll (p.map PyData.int) ≤ 1 ∧ PyData.leavesShortAll 13 (p.map PyData.int) = true ∧ PyData.bulkAll (p.map PyData.int) ≤ 101 * p.length := by
  induction p with
  | nil => exact ⟨by simp [PyData.showableAll], by simp [PyData.hasDictAll], by simp [PyData.depthAll], by simp [PyData.leavesShortAll], by simp [PyData.bulkAll]⟩
  | cons a p ih =>
    obtain ⟨h1, h2, h3, h4, h5⟩ := ih fun z hz => h z (List.mem_cons_of_mem _ hz)
    have ha := h a List.mem_cons_self
    have hs : PyData.showable (.int a) = true := by simpa [PyData.showable] using log2_small ha
    have hL : PyData.leavesShort 13 (.int a) = true := by simpa only [PyData.leavesShort, decide_eq_true_eq] using PyData.shown_int_le2 (by omega) (by omega)
    refine ⟨by simp only [List.map_cons, PyData.showableAll, hs, h1]; rfl, by simp only [List.map_cons, PyData.hasDictAll, h2, PyData.hasDict]; rfl, ?_, by simp only [List.map_cons, PyData.leavesShortAll, hL, h4]; rfl, ?_⟩
    · simp only [List.map_cons, PyData.depthAll, PyData.depth]; omega
    · simp only [List.map_cons, PyData.bulkAll, PyData.bulk, List.length_cons]; omega
theorem dOf_ok {k : Bool} {p : List Int} (h : ∀ z ∈ p, z.natAbs ≤ 1000000000) : PyData.showable (dOf k p) = true ∧ PyData.hasDict (dOf k p) = false ∧
    PyData.depth (dOf k p) ≤ 2 ∧ PyData.leavesShort 13 (dOf k p) = true ∧ PyData.bulk (dOf k p) ≤ 101 * p.length + 100 := by
  obtain ⟨h1, h2, h3, h4, h5⟩ := ints_all h
  cases k with
  | true => exact ⟨by simpa [dOf, PyData.showable] using h1, by simpa [dOf, PyData.hasDict] using h2, by simp only [dOf, PyData.depth]; omega, by simpa [dOf, PyData.leavesShort] using h4, by simp only [dOf, PyData.bulk]; omega⟩
  | false => exact ⟨by simpa [dOf, PyData.showable] using h1, by simpa [dOf, PyData.hasDict] using h2, by simp only [dOf, PyData.depth]; omega, by simpa [dOf, PyData.leavesShort] using h4, by simp only [dOf, PyData.bulk]; omega⟩
/-- two lines in a list, shown -/
theorem sh_two {K : PySem.W.Frag} {k j : Bool} {H : Hp} {u a b : Addr} {p q : List Int} (e : H u = some (.lst [.ref a, .ref b])) (ha : At k H a p) (hb : At j H b q)
    (hp : ∀ z ∈ p, z.natAbs ≤ 1000000000) (hq : ∀ z ∈ q, z.natAbs ≤ 1000000000) (lp : p.length ≤ 1000) (lq : q.length ≤ 1000) : Sh K H (.ref u) (PyData.shown (.list [dOf k p, dOf j q])) := by
  obtain ⟨a1, a2, a3, a4, a5⟩ := dOf_ok (k := k) hp
  obtain ⟨b1, b2, b3, b4, b5⟩ := dOf_ok (k := j) hq
  refine .dat (d := .list [dOf k p, dOf j q]) (.lst (SqL.of e) (.cons ha.d (.cons hb.d .nil))) (by simp [PyData.showable, PyData.showableAll, a1, b1]) (by simp [PyData.hasDict, PyData.hasDictAll, a2, b2]) (by simp only [PyData.depth, PyData.depthAll]; omega) ?_
  exact PyData.shown_fits_bulk (B := 13) (by decide) (by decide) (by simp [PyData.leavesShort, PyData.leavesShortAll, a4, b4]) (by simp only [PyData.bulk, PyData.bulkAll]; rw [pow20]; omega)
/-- tuple(x) or list(x) -/
theorem ite_seq {K : PySem.W.Frag} {c : Bool} {P : V → Hp → Prop} {σ : L2.St} {H1 : Hp} {b : Addr} {p : List Int} {i : Nat} (hσ : σ[i]? = some (some (.ref b))) (hb : At false H1 b p)
    (h : ∀ (k : Bool) (x : Addr) (H2 : Hp), Same H1 H2 → H1 x = none → At k H2 x p → P (.ref x) H2) :
    if c = true then tCB (fun xs H Q => ∃ p ys, xs = [.ref p] ∧ ((SqL K H p ys ∧ ∀ l, H l = none → Q (.ref l) (upd H l (.tup ys))) ∨ (SqT K H p ys ∧ Q (.ref p) H))) (tCons (tVar i) tNil) σ H1 P
    else tCB (fun xs H Q => ∃ p ys, xs = [.ref p] ∧ (SqL K H p ys ∨ SqT K H p ys) ∧ ∀ l, H l = none → Q (.ref l) (upd H l (.lst ys))) (tCons (tVar i) tNil) σ H1 P := by
  cases c with
  | true => exact ifT rfl ⟨_, hσ, b, _, rfl, .inl ⟨SqL.of hb, fun l nl => h true l _ (Same.put nl) nl upd_same⟩⟩
  | false => exact ifF rfl ⟨_, hσ, b, _, rfl, .inl (SqL.of hb), fun l nl => h false l _ (Same.put nl) nl upd_same⟩
theorem At.ovn {k : Bool} {H : Hp} {a o : Addr} {p : List Int} {v : HO} (h : At k H a p) (n : a ≠ o) : At k (upd H o v) a p := by
  cases k with
  | true => exact (upd_ne n).trans h
  | false => exact (upd_ne n).trans h
theorem PotAt.ovn {H : Hp} {a o : Addr} {v : HO} (h : PotAt H a) (n : a ≠ o) : PotAt (upd H o v) a := by
  obtain ⟨P, R, e, r⟩ := h
  exact ⟨P, R, (upd_ne n).trans e, r⟩
theorem Sm.cnt {p : List Int} (s : Sm p) : Kr.cnt p ≤ 12 := by
  by_cases h : p = []
  · subst h; decide
  · exact Nat.le_trans (cnt_le (List.getLast_mem h) (s.cn _ (List.getLast?_eq_some_getLast h))) (s.sm _ (List.getLast_mem h))
theorem less_self (p : List Int) : trim (addF p (sclF (-1) p)) = [] := co_ext (cn_trim _) cn_nil fun i => by
  rw [co_trim, co_add, co_scl, co_nil]
  show co p i + -1 * co p i = 0
  omega
theorem sum_nil {p : List Int} (c : Cn p) : trim (addF p []) = p := co_ext (cn_trim _) c fun i => by
  rw [co_trim, co_add, co_nil]
  show co p i + 0 = co p i
  omega
theorem mul_num {p : List Int} (n : Int) : mulF p [n] = sclF n p := by
  rw [mul_one_num]
  split
  · rename_i h; rw [h]; rfl
  · rfl
theorem nil_mul (p : List Int) : mulF [] p = [] := by simp [mulF]
end Kr
namespace Kr
open PySem PySem.Spec
open PyProof.Rows L2
def spPair : Sp := fun vs H Q _ => ∃ (a b c : Addr) (p q : List Int), vs = [.ref a, .ref b, .ref c] ∧ PotAt H a ∧ At false H b p ∧ At false H c q ∧ b ≠ a ∧ c ≠ a ∧
  Sm p ∧ Sm q ∧ ∀ H', Chg a H H' → PotAt H' a → Q (.bl true) H'
def spOne : Sp := fun vs H Q _ => ∃ (a b : Addr) (p : List Int), vs = [.ref a, .ref b] ∧ PotAt H a ∧ At false H b p ∧ b ≠ a ∧
  Sm p ∧ ∀ H', Chg a H H' → PotAt H' a → Q (.bl true) H'
def topS (i : Nat) : Stmt :=
  PySem.Challenge.pw_curvepieces_k11_whole_sums_products_valu.main.body.getD i (.Pass ⟨0, 0, 0, 0⟩)
abbrev s__law_pot : Stmt := topS 34
theorem S__law_pot : FnScope ["_law_script", "_law_k", "_law_cell"]
    ["_law_script", "_law_k"] (defScope s__law_pot) :=
  ⟨rfl, rfl, rfl, by decide +kernel, rfl, by decide +kernel, by decide +kernel⟩
abbrev s__law_draw : Stmt := topS 35
theorem S__law_draw : FnScope ["_law_pot_here", "_law_many", "_law_digit"]
    ["_law_pot_here", "_law_many"] (defScope s__law_draw) :=
  ⟨rfl, rfl, rfl, by decide +kernel, rfl, by decide +kernel, by decide +kernel⟩
abbrev s__law_pick : Stmt := topS 36
theorem S__law_pick : FnScope ["_law_pot_here", "_law_some"]
    ["_law_pot_here", "_law_some"] (defScope s__law_pick) :=
  ⟨rfl, rfl, rfl, by decide +kernel, rfl, by decide +kernel, by decide +kernel⟩
abbrev s__law_line : Stmt := topS 44
theorem S__law_line : FnScope ["_law_pot_here", "_law_most", "_law_wide", "_law_found", "_law_power"]
    ["_law_pot_here", "_law_most", "_law_wide"] (defScope s__law_line) :=
  ⟨rfl, rfl, rfl, by decide +kernel, rfl, by decide +kernel, by decide +kernel⟩
abbrev s_is_integer : Stmt := topS 8
theorem S_is_integer : FnScope ["value"]
    ["value"] (defScope s_is_integer) :=
  ⟨rfl, rfl, rfl, by decide +kernel, rfl, by decide +kernel, by decide +kernel⟩
abbrev s_is_list : Stmt := topS 9
theorem S_is_list : FnScope ["value"]
    ["value"] (defScope s_is_list) :=
  ⟨rfl, rfl, rfl, by decide +kernel, rfl, by decide +kernel, by decide +kernel⟩
abbrev s_check_number : Stmt := topS 10
theorem S_check_number : FnScope ["number"]
    ["number"] (defScope s_check_number) :=
  ⟨rfl, rfl, rfl, by decide +kernel, rfl, by decide +kernel, by decide +kernel⟩
abbrev s_is_line : Stmt := topS 23
theorem S_is_line : FnScope ["value", "number"]
    ["value"] (defScope s_is_line) :=
  ⟨rfl, rfl, rfl, by decide +kernel, rfl, by decide +kernel, by decide +kernel⟩
abbrev s_trimmed : Stmt := topS 12
theorem S_trimmed : FnScope ["numbers", "size"]
    ["numbers"] (defScope s_trimmed) :=
  ⟨rfl, rfl, rfl, by decide +kernel, rfl, by decide +kernel, by decide +kernel⟩
abbrev s_scaled : Stmt := topS 13
theorem S_scaled : FnScope ["numbers", "factor", "number"]
    ["numbers", "factor"] (defScope s_scaled) :=
  ⟨rfl, rfl, rfl, by decide +kernel, rfl, by decide +kernel, by decide +kernel⟩
abbrev s_poly_sum : Stmt := topS 14
theorem S_poly_sum : FnScope ["one", "two", "long", "short", "both", "a", "b"]
    ["one", "two"] (defScope s_poly_sum) :=
  ⟨rfl, rfl, rfl, by decide +kernel, rfl, by decide +kernel, by decide +kernel⟩
abbrev s_poly_less : Stmt := topS 15
theorem S_poly_less : FnScope ["one", "two"]
    ["one", "two"] (defScope s_poly_less) :=
  ⟨rfl, rfl, rfl, by decide +kernel, rfl, by decide +kernel, by decide +kernel⟩
abbrev s_poly_times : Stmt := topS 16
theorem S_poly_times : FnScope ["one", "two", "result", "i", "a", "j", "b"]
    ["one", "two"] (defScope s_poly_times) :=
  ⟨rfl, rfl, rfl, by decide +kernel, rfl, by decide +kernel, by decide +kernel⟩
abbrev s_poly_value : Stmt := topS 17
theorem S_poly_value : FnScope ["numbers", "place", "value", "number"]
    ["numbers", "place"] (defScope s_poly_value) :=
  ⟨rfl, rfl, rfl, by decide +kernel, rfl, by decide +kernel, by decide +kernel⟩
abbrev s_poly_slope : Stmt := topS 18
theorem S_poly_slope : FnScope ["numbers", "power", "number"]
    ["numbers"] (defScope s_poly_slope) :=
  ⟨rfl, rfl, rfl, by decide +kernel, rfl, by decide +kernel, by decide +kernel⟩
abbrev s_content : Stmt := topS 19
theorem S_content : FnScope ["numbers", "common", "number"]
    ["numbers"] (defScope s_content) :=
  ⟨rfl, rfl, rfl, by decide +kernel, rfl, by decide +kernel, by decide +kernel⟩
abbrev s_poly_plain : Stmt := topS 20
theorem S_poly_plain : FnScope ["numbers", "common", "number"]
    ["numbers"] (defScope s_poly_plain) :=
  ⟨rfl, rfl, rfl, by decide +kernel, rfl, by decide +kernel, by decide +kernel⟩
abbrev s_check_line : Stmt := topS 24
theorem S_check_line : FnScope ["line"]
    ["line"] (defScope s_check_line) :=
  ⟨rfl, rfl, rfl, by decide +kernel, rfl, by decide +kernel, by decide +kernel⟩
abbrev s_check_lines : Stmt := topS 25
theorem S_check_lines : FnScope ["line", "other"]
    ["line", "other"] (defScope s_check_lines) :=
  ⟨rfl, rfl, rfl, by decide +kernel, rfl, by decide +kernel, by decide +kernel⟩
abbrev s_degree : Stmt := topS 26
theorem S_degree : FnScope ["line"]
    ["line"] (defScope s_degree) :=
  ⟨rfl, rfl, rfl, by decide +kernel, rfl, by decide +kernel, by decide +kernel⟩
abbrev s_line_value : Stmt := topS 27
theorem S_line_value : FnScope ["line", "number"]
    ["line", "number"] (defScope s_line_value) :=
  ⟨rfl, rfl, rfl, by decide +kernel, rfl, by decide +kernel, by decide +kernel⟩
abbrev s_line_slope : Stmt := topS 28
theorem S_line_slope : FnScope ["line"]
    ["line"] (defScope s_line_slope) :=
  ⟨rfl, rfl, rfl, by decide +kernel, rfl, by decide +kernel, by decide +kernel⟩
abbrev s_plain_line : Stmt := topS 29
theorem S_plain_line : FnScope ["line"]
    ["line"] (defScope s_plain_line) :=
  ⟨rfl, rfl, rfl, by decide +kernel, rfl, by decide +kernel, by decide +kernel⟩
abbrev s_line_sum : Stmt := topS 30
theorem S_line_sum : FnScope ["line", "other"]
    ["line", "other"] (defScope s_line_sum) :=
  ⟨rfl, rfl, rfl, by decide +kernel, rfl, by decide +kernel, by decide +kernel⟩
abbrev s_line_less : Stmt := topS 31
theorem S_line_less : FnScope ["line", "other"]
    ["line", "other"] (defScope s_line_less) :=
  ⟨rfl, rfl, rfl, by decide +kernel, rfl, by decide +kernel, by decide +kernel⟩
abbrev s_line_times : Stmt := topS 32
theorem S_line_times : FnScope ["line", "other", "product"]
    ["line", "other"] (defScope s_line_times) :=
  ⟨rfl, rfl, rfl, by decide +kernel, rfl, by decide +kernel, by decide +kernel⟩
abbrev s__law_trim : Stmt := topS 37
theorem S__law_trim : FnScope ["_law_numbers", "_law_found"]
    ["_law_numbers"] (defScope s__law_trim) :=
  ⟨rfl, rfl, rfl, by decide +kernel, rfl, by decide +kernel, by decide +kernel⟩
abbrev s__law_sum : Stmt := topS 38
theorem S__law_sum : FnScope ["_law_line_here", "_law_other", "_law_factor", "_law_wide", "_law_near", "_law_far", "_law_one", "_law_two"]
    ["_law_line_here", "_law_other", "_law_factor"] (defScope s__law_sum) :=
  ⟨rfl, rfl, rfl, by decide +kernel, rfl, by decide +kernel, by decide +kernel⟩
abbrev s__law_times : Stmt := topS 39
theorem S__law_times : FnScope ["_law_line_here", "_law_other", "_law_found", "_law_at", "_law_near", "_law_to", "_law_far"]
    ["_law_line_here", "_law_other"] (defScope s__law_times) :=
  ⟨rfl, rfl, rfl, by decide +kernel, rfl, by decide +kernel, by decide +kernel⟩
abbrev s__law_value : Stmt := topS 40
theorem S__law_value : FnScope ["_law_line_here", "_law_number", "_law_found", "_law_coefficient"]
    ["_law_line_here", "_law_number"] (defScope s__law_value) :=
  ⟨rfl, rfl, rfl, by decide +kernel, rfl, by decide +kernel, by decide +kernel⟩
abbrev s__law_slope : Stmt := topS 41
theorem S__law_slope : FnScope ["_law_line_here", "_law_at"]
    ["_law_line_here"] (defScope s__law_slope) :=
  ⟨rfl, rfl, rfl, by decide +kernel, rfl, by decide +kernel, by decide +kernel⟩
abbrev s__law_greatest : Stmt := topS 42
theorem S__law_greatest : FnScope ["_law_some", "_law_found", "_law_number", "_law_other"]
    ["_law_some"] (defScope s__law_greatest) :=
  ⟨rfl, rfl, rfl, by decide +kernel, rfl, by decide +kernel, by decide +kernel⟩
abbrev s__law_plain : Stmt := topS 43
theorem S__law_plain : FnScope ["_law_line_here", "_law_common", "_law_number"]
    ["_law_line_here"] (defScope s__law_plain) :=
  ⟨rfl, rfl, rfl, by decide +kernel, rfl, by decide +kernel, by decide +kernel⟩
abbrev s__law_drawn : Stmt := topS 45
theorem S__law_drawn : FnScope ["_law_pot_here"]
    ["_law_pot_here"] (defScope s__law_drawn) :=
  ⟨rfl, rfl, rfl, by decide +kernel, rfl, by decide +kernel, by decide +kernel⟩
abbrev s__law_pair_right : Stmt := topS 46
theorem S__law_pair_right : FnScope ["_law_pot_here", "_law_one", "_law_other", "_law_near", "_law_far", "_law_shown", "_law_both", "_law_at", "_law_told", "_law_first", "_law_second"]
    ["_law_pot_here", "_law_one", "_law_other"] (defScope s__law_pair_right) :=
  ⟨rfl, rfl, rfl, by decide +kernel, rfl, by decide +kernel, by decide +kernel⟩
abbrev s__law_one_right : Stmt := topS 47
theorem S__law_one_right : FnScope ["_law_pot_here", "_law_one", "_law_number", "_law_many", "_law_told", "_law_coefficient"]
    ["_law_pot_here", "_law_one"] (defScope s__law_one_right) :=
  ⟨rfl, rfl, rfl, by decide +kernel, rfl, by decide +kernel, by decide +kernel⟩
abbrev s__law_right : Stmt := topS 48
theorem S__law_right : FnScope ["_law_pot_here", "_law_lines", "_law_turn", "_law_one", "_law_first", "_law_second", "_law_third"]
    ["_law_pot_here"] (defScope s__law_right) :=
  ⟨rfl, rfl, rfl, by decide +kernel, rfl, by decide +kernel, by decide +kernel⟩
abbrev s_law : Stmt := topS 49
theorem S_law : FnScope ["_law_script"]
    ["_law_script"] (defScope s_law) :=
  ⟨rfl, rfl, rfl, by decide +kernel, rfl, by decide +kernel, by decide +kernel⟩
/-- what the top has written -/
structure Top (K : PySem.W.Frag) (mg : Str → Option Value) : Prop where
  d__law_pot : Df K mg "_law_pot" s__law_pot ["_law_script", "_law_k"]
  d__law_draw : Df K mg "_law_draw" s__law_draw ["_law_pot_here", "_law_many"]
  d__law_pick : Df K mg "_law_pick" s__law_pick ["_law_pot_here", "_law_some"]
  d__law_line : Df K mg "_law_line" s__law_line ["_law_pot_here", "_law_most", "_law_wide"]
  d_is_integer : Df K mg "is_integer" s_is_integer ["value"]
  d_is_list : Df K mg "is_list" s_is_list ["value"]
  d_check_number : Df K mg "check_number" s_check_number ["number"]
  d_is_line : Df K mg "is_line" s_is_line ["value"]
  d_trimmed : Df K mg "trimmed" s_trimmed ["numbers"]
  d_scaled : Df K mg "scaled" s_scaled ["numbers", "factor"]
  d_poly_sum : Df K mg "poly_sum" s_poly_sum ["one", "two"]
  d_poly_less : Df K mg "poly_less" s_poly_less ["one", "two"]
  d_poly_times : Df K mg "poly_times" s_poly_times ["one", "two"]
  d_poly_value : Df K mg "poly_value" s_poly_value ["numbers", "place"]
  d_poly_slope : Df K mg "poly_slope" s_poly_slope ["numbers"]
  d_content : Df K mg "content" s_content ["numbers"]
  d_poly_plain : Df K mg "poly_plain" s_poly_plain ["numbers"]
  d_check_line : Df K mg "check_line" s_check_line ["line"]
  d_check_lines : Df K mg "check_lines" s_check_lines ["line", "other"]
  d_degree : Df K mg "degree" s_degree ["line"]
  d_line_value : Df K mg "line_value" s_line_value ["line", "number"]
  d_line_slope : Df K mg "line_slope" s_line_slope ["line"]
  d_plain_line : Df K mg "plain_line" s_plain_line ["line"]
  d_line_sum : Df K mg "line_sum" s_line_sum ["line", "other"]
  d_line_less : Df K mg "line_less" s_line_less ["line", "other"]
  d_line_times : Df K mg "line_times" s_line_times ["line", "other"]
  d__law_trim : Df K mg "_law_trim" s__law_trim ["_law_numbers"]
  d__law_sum : Df K mg "_law_sum" s__law_sum ["_law_line_here", "_law_other", "_law_factor"]
  d__law_times : Df K mg "_law_times" s__law_times ["_law_line_here", "_law_other"]
  d__law_value : Df K mg "_law_value" s__law_value ["_law_line_here", "_law_number"]
  d__law_slope : Df K mg "_law_slope" s__law_slope ["_law_line_here"]
  d__law_greatest : Df K mg "_law_greatest" s__law_greatest ["_law_some"]
  d__law_plain : Df K mg "_law_plain" s__law_plain ["_law_line_here"]
  d__law_drawn : Df K mg "_law_drawn" s__law_drawn ["_law_pot_here"]
  d__law_pair_right : Df K mg "_law_pair_right" s__law_pair_right ["_law_pot_here", "_law_one", "_law_other"]
  d__law_one_right : Df K mg "_law_one_right" s__law_one_right ["_law_pot_here", "_law_one"]
  d__law_right : Df K mg "_law_right" s__law_right ["_law_pot_here"]
  d_law : Df K mg "law" s_law ["_law_script"]
  n_abs : mg "abs" = none
  n_all : mg "all" = none
  n_bool : mg "bool" = none
  c_LINE_DEGREE : ∃ t, mg "LINE_DEGREE" = some (.int 12 t)
  n_divmod : mg "divmod" = none
  n_enumerate : mg "enumerate" = none
  n_int : mg "int" = none
  n_isinstance : mg "isinstance" = none
  n_len : mg "len" = none
  n_list : mg "list" = none
  m_gcd : mg "gcd" = some (.builtin "math.gcd")
  n_max : mg "max" = none
  n_range : mg "range" = none
  n_repr : mg "repr" = none
  n_tuple : mg "tuple" = none
  n_zip : mg "zip" = none
def turn2 {α : Type} : List α → List α
  | [x, y] => [y, x]
  | _ => []
theorem turn2_rel : ∀ {zs : List V} {ws : List Value}, Vals zs ws → Vals (turn2 zs) (turn2 ws)
  | _, _, .nil => .nil
  | _, _, .cons _ .nil => .nil
  | _, _, .cons r1 (.cons r2 .nil) => .cons r2 (.cons r1 .nil)
  | _, _, .cons _ (.cons _ (.cons _ _)) => .nil
theorem kw_degree_line {K : PySem.W.Frag} {f : Addr} {fd : FuncData} (F : Fun K "degree" "degree" s_degree f fd) :
    KwB K fd ["line"] ["line"] (fun ws => ws) (fun zs => zs) := by
  obtain ⟨oc, od, kV, doc, pm, an, cdv, ct, osl, rfl, _, _⟩ := F.ex
  exact ⟨fun s ws _ hl => match ws, hl with | [a], _ => .of_eq rfl, fun r => r⟩
theorem kw_plain_line_line {K : PySem.W.Frag} {f : Addr} {fd : FuncData} (F : Fun K "plain_line" "plain_line" s_plain_line f fd) :
    KwB K fd ["line"] ["line"] (fun ws => ws) (fun zs => zs) := by
  obtain ⟨oc, od, kV, doc, pm, an, cdv, ct, osl, rfl, _, _⟩ := F.ex
  exact ⟨fun s ws _ hl => match ws, hl with | [a], _ => .of_eq rfl, fun r => r⟩
theorem kw_line_sum_other_line {K : PySem.W.Frag} {f : Addr} {fd : FuncData} (F : Fun K "line_sum" "line_sum" s_line_sum f fd) :
    KwB K fd ["line", "other"] ["other", "line"] turn2 turn2 := by
  obtain ⟨oc, od, kV, doc, pm, an, cdv, ct, osl, rfl, _, _⟩ := F.ex
  exact ⟨fun s ws _ hl => match ws, hl with | [a, b], _ => .of_eq rfl, turn2_rel⟩
theorem kw_line_times_other_line {K : PySem.W.Frag} {f : Addr} {fd : FuncData} (F : Fun K "line_times" "line_times" s_line_times f fd) :
    KwB K fd ["line", "other"] ["other", "line"] turn2 turn2 := by
  obtain ⟨oc, od, kV, doc, pm, an, cdv, ct, osl, rfl, _, _⟩ := F.ex
  exact ⟨fun s ws _ hl => match ws, hl with | [a, b], _ => .of_eq rfl, turn2_rel⟩
theorem kw_line_value_number_line {K : PySem.W.Frag} {f : Addr} {fd : FuncData} (F : Fun K "line_value" "line_value" s_line_value f fd) :
    KwB K fd ["line", "number"] ["number", "line"] turn2 turn2 := by
  obtain ⟨oc, od, kV, doc, pm, an, cdv, ct, osl, rfl, _, _⟩ := F.ex
  exact ⟨fun s ws _ hl => match ws, hl with | [a, b], _ => .of_eq rfl, turn2_rel⟩
theorem ok__law_pot {P : Program} {w : World} {K : PySem.W.Frag}
    {mg : Str → Option Value} {base : Heap} (T : Top K mg) :
    Cl P w K mg base CX0 1 "_law_pot" s__law_pot ["_law_script", "_law_k"] (spPot K) := by
  refine T.d__law_pot.cl fun f fd F => body_0 F S__law_pot (fun vs H Q E h => by obtain ⟨_, _, _, rfl, _⟩ := h; rfl) ?_
  intro cdv A out s H vs Q E hG hr h
  obtain ⟨a, ns, k, rfl, hS, k0, k1, q⟩ := h
  refine ⟨_, (pss_cons (ps_set (i := 2) S__law_pot.nd rfl (Or.inl rfl) (pe_ifExp (pt_cmpR op_lt (pv 1) (pe_callB call_len_seq (by rfl) T.n_len PySem.boot_len (pa_cons (pv 0) pa_nil)) (nomark _)) (pe_callB call_abs (by rfl) T.n_abs (by decide +kernel) (pa_cons (pe_ix ix_list (pv 0) (pv 1) (fun _ _ => rfl)) pa_nil)) (pe_op op_add (pe_op op_mulX pe_int (pv 1)) pe_int)))
    (pss_one (ps_ret (pe_lst (pa_cons (pe_callB (call_max2 rfl) (by rfl) T.n_max (by decide +kernel) (pa_cons pe_int (pa_cons (pe_op op_sub (pv 2) (pe_op op_pow pe_int pe_int)) pa_nil))) (pa_cons (pe_op op_add (pe_op op_mod (pe_callTy call_int1 (by rfl) T.n_int (by decide +kernel) (pa_cons (pe_op op_add (pe_op op_add (pe_op op_mulX (pe_op op_mod (pe_callTy call_int1 (by rfl) T.n_int (by decide +kernel) (pa_cons (pv 2) pa_nil)) pe_int) pe_int) (pe_op op_mulX pe_int (pv 1))) pe_int) pa_nil)) pe_int) pe_int) pa_nil)))))), ?_⟩
  have lenE : ((ns.map V.int).length : Int) = ns.length := by rw [List.length_map]
  have e18 : (10 : Int) ^ (18 : Int).toNat = 1000000000000000000 := by decide
  refine ⟨_, rfl, _, rfl, a, _, rfl, .inl hS, _, _, rfl, rfl, _, rfl, ite2 (fun c => ?_) (fun c => ?_)⟩
  · have c0 : k < ((ns.map V.int).length : Int) := of_decide_eq_true c
    have c1 : k.toNat < ns.length := by omega
    have g : atI (ns.map V.int) k = some (.int ns[k.toNat]) := by
      have z := atI_nat (xs := ns.map V.int) (j := k.toNat) (v := .int ns[k.toNat]) (by
        rw [List.getElem?_map, List.getElem?_eq_getElem c1]; rfl)
      rwa [Int.toNat_of_nonneg k0] at z
    refine ⟨_, rfl, _, rfl, a, _, k, _, rfl, rfl, hS, g, _, rfl, ?_⟩
    refine ⟨_, rfl, _, _, rfl, rfl, ⟨by decide, by decide, by decide⟩, _, _, rfl, rfl, _, _, rfl, _, rfl, .inl ⟨_, rfl, _, _, rfl, rfl, (by show (0 : Int) < 2147483549; decide), _, _, rfl, rfl, mulx_ok (a := 32) (b := 20) (by omega) (by decide) (by decide), _, rfl, _, _, rfl, rfl, mulx_ok (a := 20) (b := 20) (by decide) (by omega) (by decide), _, _, rfl, rfl, _, _, rfl, rfl, .inl ⟨_, rfl, _, _, rfl, rfl, (by show (0 : Int) < 2147483563; decide), _, _, rfl, rfl, (by show 2 ≤ sizeLine; decide), fun p np => ?_⟩⟩⟩
    refine q _ p (Same.put np) np ⟨_, _, upd_same, ?_, ?_, ?_⟩
    · split <;> omega
    · omega
    · omega
  · refine ⟨_, rfl, _, _, rfl, rfl, mulx_ok (a := 20) (b := 20) (by decide) (by omega) (by decide), _, _, rfl, rfl, ?_⟩
    refine ⟨_, rfl, _, _, rfl, rfl, ⟨by decide, by decide, by decide⟩, _, _, rfl, rfl, _, _, rfl, _, rfl, .inl ⟨_, rfl, _, _, rfl, rfl, (by show (0 : Int) < 2147483549; decide), _, _, rfl, rfl, mulx_ok (a := 32) (b := 20) (by omega) (by decide) (by decide), _, rfl, _, _, rfl, rfl, mulx_ok (a := 20) (b := 20) (by decide) (by omega) (by decide), _, _, rfl, rfl, _, _, rfl, rfl, .inl ⟨_, rfl, _, _, rfl, rfl, (by show (0 : Int) < 2147483563; decide), _, _, rfl, rfl, (by show 2 ≤ sizeLine; decide), fun p np => ?_⟩⟩⟩
    refine q _ p (Same.put np) np ⟨_, _, upd_same, ?_, ?_, ?_⟩
    · split <;> omega
    · omega
    · omega
theorem ok__law_draw {P : Program} {w : World} {K : PySem.W.Frag}
    {mg : Str → Option Value} {base : Heap} (T : Top K mg) :
    Cl P w K mg base CX0 1 "_law_draw" s__law_draw ["_law_pot_here", "_law_many"] (spDraw) := by
  refine T.d__law_draw.cl fun f fd F => body_0 F S__law_draw (fun vs H Q E h => by obtain ⟨_, _, rfl, _⟩ := h; rfl) ?_
  intro cdv A out s H vs Q E hG hr h
  obtain ⟨a, m, rfl, ⟨P, R, hp, h0, h1, h2⟩, m0, m1, q⟩ := h
  refine ⟨_, (pss_cons (ps_if (pt_cmpR op_gt (pe_ix ix_list (pv 0) pe_int (fun _ _ => rfl)) pe_int (nomark _))
      (pss_cons (ps_asg (pe_callB call_divmodW (by rfl) T.n_divmod (by decide +kernel) (pa_cons (pe_ix ix_list (pv 0) pe_int (fun _ _ => rfl)) (pa_cons (pv 1) pa_nil))) (pg_tup rfl (pgs_cons (pg_sub (pv 0) pe_int set_list) (pgs_cons (pg_name (i := 2) S__law_draw.nd rfl (Or.inl rfl)) pgs_nil))))
    (pss_one (ps_ret (pv 2))))
      pss_nil)
    (pss_cons (ps_asg (pe_op op_mod (pe_callTy call_int1 (by rfl) T.n_int (by decide +kernel) (pa_cons (pe_op op_add (pe_op op_mulX (pe_ix ix_list (pv 0) pe_int (fun _ _ => rfl)) pe_int) pe_int) pa_nil)) pe_int) (pg_sub (pv 0) pe_int set_list))
    (pss_one (ps_ret (pe_op op_mod (pe_callTy call_int1 (by rfl) T.n_int (by decide +kernel) (pa_cons (pe_op op_fdivN (pe_op op_mod (pe_callTy call_int1 (by rfl) T.n_int (by decide +kernel) (pa_cons (pe_op op_mulX (pe_ix ix_list (pv 0) pe_int (fun _ _ => rfl)) (pe_ix ix_list (pv 0) pe_int (fun _ _ => rfl))) pa_nil)) pe_int) pe_int) pa_nil)) (pv 1)))))), ?_⟩
  refine ⟨_, rfl, a, _, 0, _, rfl, rfl, SqL.of hp, atI_nat (j := 0) rfl, _, _, rfl, rfl, _, rfl, ite2 (fun c => ?_) (fun c => ?_)⟩
  · have c0 : 0 < P := of_decide_eq_true c
    refine ⟨_, rfl, a, _, 0, _, rfl, rfl, SqL.of hp, atI_nat (j := 0) rfl, _, rfl, _, _, rfl, ⟨m0, PyProof.noPylong_small (by omega)⟩, fun p np => ?_⟩
    have pa : a ≠ p := ne_of_none hp np
    refine ⟨p, _, rfl, SqT.of upd_same, rfl, _, _, rfl, _, rfl, a, _, 0, 0, rfl, rfl, (upd_ne pa).trans hp, rfl, _, _, rfl, rfl, _, rfl, ?_⟩
    refine q _ _ (fun b o n e => ?_) ⟨P / m, R, upd_same, Int.ediv_nonneg h0 (by omega), h1, h2⟩ (Int.emod_nonneg P (by omega)) (Int.emod_lt_of_pos P m0)
    rw [upd_ne n, upd_ne (ne_of_none e np)]
    exact e
  · refine ⟨_, rfl, a, _, 1, _, rfl, rfl, SqL.of hp, atI_nat (j := 1) rfl, _, _, rfl, rfl, mulx_ok (a := 31) (b := 20) (by omega) (by decide) (by decide), _, _, rfl, rfl, .inl ⟨_, rfl, _, _, rfl, rfl, (by show (0 : Int) < 2147483563; decide), _, rfl, a, _, 1, 1, rfl, rfl, hp, rfl, ?_⟩⟩
    have r0 := Int.emod_nonneg (R * 40014 + 1109) (show (2147483563 : Int) ≠ 0 by decide)
    have r1 := Int.emod_lt_of_pos (R * 40014 + 1109) (show (0 : Int) < 2147483563 by decide)
    refine ⟨_, rfl, a, _, 1, _, rfl, rfl, SqL.of upd_same, atI_nat (j := 1) rfl, _, rfl, a, _, 1, _, rfl, rfl, SqL.of upd_same, atI_nat (j := 1) rfl, _, _, rfl, rfl, mulx_ok (a := 31) (b := 31) (by omega) (by omega) (by decide), .inl ⟨_, rfl, _, _, rfl, rfl, (by show (0 : Int) < 2147483587; decide), _, _, rfl, rfl, ⟨by decide, by decide⟩, .inl ⟨_, rfl, _, rfl, _, _, rfl, rfl, m0, ?_⟩⟩⟩
    exact q _ _ (fun b o n e => (upd_ne n).trans e) ⟨P, (R * 40014 + 1109) % 2147483563, upd_same, h0, r0, by omega⟩ (Int.emod_nonneg _ (by omega)) (Int.emod_lt_of_pos _ m0)
theorem ok__law_pick {P : Program} {w : World} {K : PySem.W.Frag}
    {mg : Str → Option Value} {base : Heap} (T : Top K mg)
    (C__law_draw : Cl P w K mg base CX0 1 "_law_draw" s__law_draw ["_law_pot_here", "_law_many"] (spDraw)) :
    Cl P w K mg base CX0 2 "_law_pick" s__law_pick ["_law_pot_here", "_law_some"] (spPick K) := by
  refine T.d__law_pick.cl fun f fd F => body_0 F S__law_pick (fun vs H Q E h => by obtain ⟨_, _, _, rfl, _⟩ := h; rfl) ?_
  intro cdv A out s H vs Q E hG hr h
  obtain ⟨a, b, xs, rfl, hp, ba, hS, ne, hl, q⟩ := h
  refine ⟨_, (pss_one (ps_ret (pe_ix ix_list (pv 1) (pe_u C__law_draw hG hr (by decide) (by rfl) pass0 (pa_cons (pv 0) (pa_cons (pe_callB call_len_seq (by rfl) T.n_len PySem.boot_len (pa_cons (pv 1) pa_nil)) pa_nil))) (fun _ _ => rfl)))), ?_⟩
  have l0 : 0 < xs.length := by
    cases xs with
    | nil => exact absurd rfl ne
    | cons x r => exact Nat.succ_pos _
  refine ⟨_, rfl, _, rfl, _, rfl, b, xs, rfl, .inl hS, a, _, rfl, hp, by omega, by omega, fun H1 d c p d0 d1 => ?_⟩
  have dl : d.toNat < xs.length := by omega
  have g : atI xs d = some xs[d.toNat] := by
    have z := atI_nat (xs := xs) (j := d.toNat) (v := xs[d.toNat]) (List.getElem?_eq_getElem dl)
    rwa [Int.toNat_of_nonneg d0] at z
  exact ⟨b, xs, d, _, rfl, rfl, c.seq ba hS, g, q H1 _ c p (List.getElem_mem dl)⟩
theorem ok__law_line {P : Program} {w : World} {K : PySem.W.Frag}
    {mg : Str → Option Value} {base : Heap} (T : Top K mg)
    (C__law_draw : Cl P w K mg base CX0 1 "_law_draw" s__law_draw ["_law_pot_here", "_law_many"] (spDraw))
    (C__law_pick : Cl P w K mg base CX0 2 "_law_pick" s__law_pick ["_law_pot_here", "_law_some"] (spPick K)) :
    Cl P w K mg base CX0 3 "_law_line" s__law_line ["_law_pot_here", "_law_most", "_law_wide"] (spLine) := by
  refine T.d__law_line.cl fun f fd F => body_0 F S__law_line (fun vs H Q E h => by obtain ⟨_, _, _, rfl, _⟩ := h; rfl) ?_
  intro cdv A out s H vs Q E hG hr h
  obtain ⟨a, n, w, rfl, hp, n0, w0, w1, q⟩ := h
  refine ⟨_, (pss_cons (ps_set (i := 3) S__law_line.nd rfl (Or.inl rfl) (pe_lst pa_nil))
    (pss_cons (ps_for PassesOwn.never rfl (pi_range1 (by rfl) T.n_range (pa_cons (pv 1) pa_nil)) (pg_name (i := 4) S__law_line.nd rfl (Or.inl rfl))
      (pss_one (ps_expr (pe_bm PySem.F.plainAttrs_list PySem.F.slot_list_append PySem.F.type_list_append mt_append (pv 3) (pa_cons (pe_op op_sub (pe_u C__law_draw hG hr (by decide) (by rfl) pass0 (pa_cons (pv 0) (pa_cons (pe_op op_add (pe_op op_mulX pe_int (pv 2)) pe_int) pa_nil))) (pv 2)) pa_nil)))))
    (pss_one (ps_ret (pe_op op_cat (pv 3) (pe_lst (pa_cons (pe_u C__law_pick hG hr (by decide) (by rfl) pass0 (pa_cons (pv 0) (pa_cons (pe_lst (pa_cons pe_int (pa_cons (pe_un un_neg pe_int) (pa_cons pe_int (pa_cons pe_int (pa_cons (pe_op op_sub pe_int (pv 2)) pa_nil)))))) pa_nil))) pa_nil))))))), ?_⟩
  have e62 : (2 : Int) ^ 62 = 4611686018427387904 := by decide
  refine ⟨Nat.zero_le _, fun o no => ?_⟩
  have oa := hp.ne no
  refine ⟨_, rfl, n, rfl, by omega, by omega, ?_⟩
  refine for_range (n := n) (fun i σ H' => ∃ (y : Option V) (ns : List Int), σ = [some (.ref a), some (.int n), some (.int w), some (.ref o), y] ∧
    Chg a H H' ∧ PotAt H' a ∧ H' o = some (.lst (ns.map V.int)) ∧ ns.length = i ∧ ∀ z ∈ ns, -w - 3 ≤ z ∧ z ≤ w + 3) ?_ ?_ ?_
  · exact ⟨none, [], rfl, .of (Same.put no), Same.pot (Same.put no) hp, upd_same, rfl, fun z hz => nomatch hz⟩
  · rintro i σ H1 hi ⟨y, ns, rfl, c1, p1, e1, l1, b1⟩
    refine ⟨_, rfl, .inl ⟨rfl, _, SqL.of e1⟩, _, rfl, _, rfl, _, _, rfl, rfl, mulx_ok (a := 20) (b := 21) (by decide) (by omega) (by decide), _, _, rfl, rfl,
      a, _, rfl, p1, by omega, by omega, fun H2 d c2 p2 d0 d1 => ?_⟩
    have e2 := c2 _ _ oa e1
    refine ⟨_, rfl, _, _, rfl, rfl, o, _, _, rfl, rfl, e2, small1000 (by rw [List.length_map]; omega), ?_⟩
    refine ⟨_, ns ++ [d - w], rfl, fun b x nb e => ?_, ?_, ?_, ?_, ?_⟩
    · have z := c2 _ _ nb (c1 _ _ nb e)
      rw [upd_ne (show b ≠ o from ne_of_none e no)]
      exact z
    · obtain ⟨P, R, x, y⟩ := p2
      exact ⟨P, R, (upd_ne oa.symm).trans x, y⟩
    · rw [upd_same, List.map_append]; rfl
    · rw [List.length_append, l1]; rfl
    · intro z hz
      rcases List.mem_append.mp hz with hz | hz
      · exact b1 z hz
      · have ez : z = d - w := by simpa using hz
        omega
  · rintro σ H1 ⟨y, ns, rfl, c1, p1, e1, l1, b1⟩
    refine ⟨_, rfl, _, rfl, _, rfl, _, rfl, _, _, rfl, rfl, (by show 5 ≤ sizeLine; decide), fun u nu => ?_⟩
    have ua := p1.ne nu
    have s2 : Same H1 _ := Same.put (o := .lst [.int 1, .int (-1), .int 2, .int 3, .int (1 - w)]) nu
    refine ⟨a, u, _, rfl, Same.pot s2 p1, ua, SqL.of upd_same, List.cons_ne_nil _ _, (by show 5 ≤ 1000; decide), fun H2 x c2 p2 hx => ?_⟩
    obtain ⟨z, rfl, hz, z0⟩ : ∃ z : Int, x = .int z ∧ (-w - 3 ≤ z ∧ z ≤ w + 3) ∧ z ≠ 0 := by
      simp only [List.mem_cons, List.not_mem_nil, or_false] at hx
      rcases hx with h | h | h | h | h
      · exact ⟨1, h, by omega, by omega⟩
      · exact ⟨-1, h, by omega, by omega⟩
      · exact ⟨2, h, by omega, by omega⟩
      · exact ⟨3, h, by omega, by omega⟩
      · exact ⟨1 - w, h, by omega, by omega⟩
    have e2 : H2 o = some (.lst (ns.map V.int)) := c2 _ _ oa (s2 _ _ e1)
    refine ⟨(by show 1 ≤ sizeLine; decide), fun v nv => ?_⟩
    have vo : o ≠ v := ne_of_none e2 nv
    have va : a ≠ v := (p2.ne nv).symm
    refine ⟨o, v, _, _, rfl, rfl, (upd_ne vo).trans e2, upd_same, Nat.le_of_lt (small1000 (by rw [List.length_map]; show ns.length + 1 ≤ 1000; omega)), fun r nr => ?_⟩
    have nr2 : H2 r = none := Same.free (Same.put nv) nr
    have rH : H r = none := by
      cases hr' : H r with
      | none => rfl
      | some ob =>
        have ra : r ≠ a := by
          have z : a ≠ r := ((Same.pot (Same.put nv) p2).ne nr).symm
          exact z.symm
        have := c2 _ _ ra (s2 _ _ (c1 _ _ ra hr'))
        rw [nr2] at this
        cases this
    refine q _ r (ns ++ [z]) (fun b x nb e => ?_) ?_ rH ?_ ?_ ?_ ?_ ?_
    · have z1 := c2 _ _ nb (s2 _ _ (c1 _ _ nb e))
      exact Same.put nr _ _ (Same.put nv _ _ z1)
    · exact Same.pot (Same.put nr) (Same.pot (Same.put nv) p2)
    · exact (Same.pot (Same.put nv) p2).ne nr
    · rw [upd_same, List.map_append]; rfl
    · rw [List.length_append, l1]; rfl
    · intro y hy
      rcases List.mem_append.mp hy with hy | hy
      · exact b1 y hy
      · have ey : y = z := by simpa using hy
        omega
    · intro y hy
      rw [List.getLast?_append] at hy
      have ey : z = y := by simpa using hy
      omega
theorem ok_is_integer {P : Program} {w : World} {K : PySem.W.Frag}
    {mg : Str → Option Value} {base : Heap} (T : Top K mg) :
    Cl P w K mg base CX0 1 "is_integer" s_is_integer ["value"] (spIsInt) := by
  refine T.d_is_integer.cl fun f fd F => body_0 F S_is_integer (fun vs H Q E h => by obtain ⟨_, _, rfl, _⟩ := h; rfl) ?_
  intro cdv A out s H vs Q E hG hr h
  obtain ⟨v, k, rfl, kd, q⟩ := h
  refine ⟨_, (pss_one (ps_ret (pe_and (pe_callB call_isi (by rfl) T.n_isinstance (by decide +kernel) (pa_cons (pv 0) (pa_cons (pe_bltn (v := .ty "int") (u := .type "int") (by rfl) T.n_int (by decide +kernel) rfl) pa_nil))) (pe_one (pe_not (pe_callB call_isi (by rfl) T.n_isinstance (by decide +kernel) (pa_cons (pv 0) (pa_cons (pe_bltn (v := .ty "bool") (u := .type "bool") (by rfl) T.n_bool (by decide +kernel) rfl) pa_nil)))))))), ?_⟩
  rw [kd.isI] at q
  refine ⟨_, rfl, _, _, _, _, _, rfl, .ty _, kd.ty, kit_int kd, _, rfl, ite2 (fun c => ?_) (fun c => ?_)⟩
  · refine ⟨_, rfl, _, _, _, _, _, rfl, .ty _, kd.ty, kit_bool kd, _, rfl, ?_⟩
    rw [c] at q
    exact q
  · rw [Bool.eq_false_iff.mpr c] at q
    exact q
theorem ok_is_list {P : Program} {w : World} {K : PySem.W.Frag}
    {mg : Str → Option Value} {base : Heap} (T : Top K mg) :
    Cl P w K mg base CX0 1 "is_list" s_is_list ["value"] (spIsList) := by
  refine T.d_is_list.cl fun f fd F => body_0 F S_is_list (fun vs H Q E h => by obtain ⟨_, _, rfl, _⟩ := h; rfl) ?_
  intro cdv A out s H vs Q E hG hr h
  obtain ⟨v, k, rfl, kd, q⟩ := h
  refine ⟨_, (pss_one (ps_ret (pe_callB call_isiT (by rfl) T.n_isinstance (by decide +kernel) (pa_cons (pv 0) (pa_cons (pe_tup (pa_cons (pe_bltn (v := .ty "list") (u := .type "list") (by rfl) T.n_list (by decide +kernel) rfl) (pa_cons (pe_bltn (v := .ty "tuple") (u := .type "tuple") (by rfl) T.n_tuple (by decide +kernel) rfl) pa_nil))) pa_nil))))), ?_⟩
  refine ⟨_, rfl, (by show 2 ≤ sizeLine; decide), fun p np => ?_⟩
  refine ⟨v, p, _, _, _, _, rfl, upd_same, .cons (.ty _) (.cons (.ty _) .nil), (kd.same (Same.put np)).ty, kit_lt kd, q _ (Same.put np)⟩
theorem ok_check_number {P : Program} {w : World} {K : PySem.W.Frag}
    {mg : Str → Option Value} {base : Heap} (T : Top K mg)
    (C_is_integer : Cl P w K mg base CX0 1 "is_integer" s_is_integer ["value"] (spIsInt)) :
    Cl P w K mg base CX0 2 "check_number" s_check_number ["number"] (spNumber) := by
  refine T.d_check_number.cl fun f fd F => body_0 F S_check_number (fun vs H Q E h => by obtain ⟨_, rfl, _⟩ := h; rfl) ?_
  intro cdv A out s H vs Q E hG hr h
  obtain ⟨i, rfl, q⟩ := h
  refine ⟨_, (pss_one (ps_if (pt_not (pt_val (pe_u C_is_integer hG hr (by decide) (by rfl) pass0 (pa_cons (pv 0) pa_nil))))
      (pss_one ps_never)
      pss_nil)), ?_⟩
  exact ⟨_, rfl, _, _, rfl, .int i, _, rfl, iteF q⟩
theorem ok_is_line {P : Program} {w : World} {K : PySem.W.Frag}
    {mg : Str → Option Value} {base : Heap} (T : Top K mg)
    (C_is_integer : Cl P w K mg base CX0 1 "is_integer" s_is_integer ["value"] (spIsInt))
    (C_is_list : Cl P w K mg base CX0 1 "is_list" s_is_list ["value"] (spIsList)) :
    Cl P w K mg base CX0 2 "is_line" s_is_line ["value"] (spIsLine) := by
  obtain ⟨_, c_LINE_DEGREE⟩ := T.c_LINE_DEGREE
  refine T.d_is_line.cl fun f fd F => body_0 F S_is_line (fun vs H Q E h => by obtain ⟨_, _, rfl, _⟩ := h; rfl) ?_
  intro cdv A out s H vs Q E hG hr h
  obtain ⟨v, b, rfl, hv, q⟩ := h
  cases hv with
  | oth kd e =>
    refine ⟨_, (pss_cons (ps_if ((pw_or (pt_not (pt_val (pe_u C_is_list hG hr (by decide) (by rfl) pass0 (pa_cons (pv 0) pa_nil)))) (pw_or1 (pt_cmpR op_gt (pe_callB call_len_seq (by rfl) T.n_len PySem.boot_len (pa_cons (pv 0) pa_nil)) (pe_op op_add (pe_glob (v := .int 12) (by rfl) c_LINE_DEGREE ⟨_, rfl⟩) pe_int) (nomark _))))).pt
      (pss_one (ps_ret pe_bl))
      pss_nil)
    (pss_cons (ps_if (pt_not (pt_val (pe_callB (cr_all rfl) (by rfl) T.n_all (by decide +kernel) (pa_cons (pe_lc (own := [("number", 1)]) (g := gName 1) (tt := tYes) rfl S_is_line.nd (pi_list (pv 0)) (blkOk_by (N := ["value", "number"]) (sc := defScope s_is_line) (by decide +kernel)) (fun _ _ _ _ _ => (pg_name (i := 1) S_is_line.nd rfl (Or.inl rfl))) (fun _ _ _ _ _ => pts_nil) (fun _ _ _ _ _ => (pe_u C_is_integer hG hr (by decide) (by rfl) pass0 (pa_cons (pv 1) pa_nil)))) pa_nil))))
      (pss_one (ps_ret pe_bl))
      pss_nil)
    (pss_one (ps_ret (pe_or (pe_cmpR op_eq (pe_callB call_len_seq (by rfl) T.n_len PySem.boot_len (pa_cons (pv 0) pa_nil)) pe_int (nomark _)) (pe_one (pe_cmpR op_ne (pe_ix ix_list (pv 0) (pe_un un_neg pe_int) (fun _ _ => rfl)) pe_int (nomark _)))))))), ?_⟩
    exact ⟨_, rfl, _, _, rfl, kd, fun H1 s1 => ⟨_, rfl, ifT (by rw [e]; rfl) (iteT (q H1 s1))⟩⟩
  | @lst a xs e hK hz =>
    refine ⟨_, (pss_cons (ps_if ((pw_or (pt_not (pt_val (pe_u C_is_list hG hr (by decide) (by rfl) pass0 (pa_cons (pv 0) pa_nil)))) (pw_or1 (pt_cmpR op_gt (pe_callB call_len_seq (by rfl) T.n_len PySem.boot_len (pa_cons (pv 0) pa_nil)) (pe_op op_add (pe_glob (v := .int 12) (by rfl) c_LINE_DEGREE ⟨_, rfl⟩) pe_int) (nomark _))))).pt
      (pss_one (ps_ret pe_bl))
      pss_nil)
    (pss_cons (ps_if (pt_not (pt_val (pe_callB (cr_all rfl) (by rfl) T.n_all (by decide +kernel) (pa_cons (pe_lc (own := [("number", 1)]) (g := gName 1) (tt := tYes) rfl S_is_line.nd (pi_list (pv 0)) (blkOk_by (N := ["value", "number"]) (sc := defScope s_is_line) (by decide +kernel)) (fun _ _ _ _ _ => (pg_name (i := 1) S_is_line.nd rfl (Or.inl rfl))) (fun _ _ _ _ _ => pts_nil) (fun _ _ _ _ _ => (pe_u C_is_integer hG hr (by decide) (by rfl) pass0 (pa_cons (pv 1) pa_nil)))) pa_nil))))
      (pss_one (ps_ret pe_bl))
      pss_nil)
    (pss_one (ps_ret (pe_or (pe_cmpR op_eq (pe_callB call_len_seq (by rfl) T.n_len PySem.boot_len (pa_cons (pv 0) pa_nil)) pe_int (nomark _)) (pe_one (pe_cmpR op_ne (pe_ix ix_list (pv 0) (pe_un un_neg pe_int) (fun _ _ => rfl)) pe_int (nomark _)))))))), ?_⟩
    refine ⟨_, rfl, _, _, rfl, .lst e, fun H1 s1 => ⟨_, rfl, iteF ?_⟩⟩
    refine ⟨_, rfl, a, xs, rfl, .inl (SqL.of (s1 _ _ e)), _, _, rfl, rfl, _, _, rfl, rfl, _, rfl, ite2 (fun c => ?_) (fun c => ?_)⟩
    · have c0 : (12 : Int) + 1 < xs.length := of_decide_eq_true c
      rw [lineB_long (by omega)] at q
      exact q H1 s1
    have hl : xs.length ≤ 13 := by
      have c0 : ¬ (12 : Int) + 1 < xs.length := fun z => c (decide_eq_true z)
      omega
    have eA : H1 a = some (.lst xs) := s1 _ _ e
    refine ⟨_, rfl, a, rfl, ⟨_, SqL.of eA⟩, fun D nD => ?_⟩
    refine lc_list (K := K) (xs := xs) (fun i H' => Same H1 H' ∧ H' D = some (.lst ((xs.take i).map fun x => V.bl (isI x)))) ⟨Same.put nD, upd_same⟩ (fun i H' _ z => SqL.of (z.1 _ _ eA)) ?_ ?_
    · rintro i x H' hx ⟨s2, eD⟩
      obtain ⟨kx, hk⟩ := hK x (List.mem_of_getElem? hx)
      refine ⟨rfl, ?_⟩
      refine yesT ?_
      refine ⟨_, rfl, x, kx, rfl, (hk.same s1).same s2, _, eD, small1000 (by rw [List.length_map, List.length_take]; omega), ?_, ?_⟩
      · intro b o eb
        rw [upd_ne (ne_of_none eb nD)]
        exact s2 _ _ eb
      · rw [upd_same, take_snoc hx, List.map_append]; rfl
    rintro H2 ⟨s2, eD⟩
    rw [List.take_length] at eD
    have eB : H2 D = some (.lst ((xs.map isI).map V.bl)) := by rw [eD, List.map_map]; rfl
    have eA2 : H2 a = some (.lst xs) := s2 _ _ eA
    refine ⟨D, xs.map isI, rfl, SqL.of eB, _, rfl, ?_⟩
    rw [all_id]
    match hA : xs.all isI with
    | false =>
      rw [lineB_odd hA] at q
      exact iteT (q H2 (s1.trans s2))
    | true =>
      refine iteF ?_
      refine ⟨_, rfl, a, xs, rfl, .inl (SqL.of eA2), rfl, _, rfl, ite2 (fun c => ?_) (fun c => ?_)⟩
      · have c0 : (xs.length : Int) = 0 := V.int.inj (of_decide_eq_true c)
        have hn : xs = [] := List.length_eq_zero_iff.mp (by omega)
        subst hn
        exact q H2 (s1.trans s2)
      · have hn : xs ≠ [] := fun z => by
          subst z
          exact c (decide_eq_true rfl)
        obtain ⟨v, g1, g2, g3⟩ := last_look hl hA hn
        refine ⟨_, rfl, _, rfl, a, xs, -1, v, rfl, rfl, SqL.of eA2, g1, g2, ?_⟩
        rw [g3]
        exact q H2 (s1.trans s2)
  | @tup a xs e hK hz =>
    refine ⟨_, (pss_cons (ps_if ((pw_or (pt_not (pt_val (pe_u C_is_list hG hr (by decide) (by rfl) pass0 (pa_cons (pv 0) pa_nil)))) (pw_or1 (pt_cmpR op_gt (pe_callB call_len_seq (by rfl) T.n_len PySem.boot_len (pa_cons (pv 0) pa_nil)) (pe_op op_add (pe_glob (v := .int 12) (by rfl) c_LINE_DEGREE ⟨_, rfl⟩) pe_int) (nomark _))))).pt
      (pss_one (ps_ret pe_bl))
      pss_nil)
    (pss_cons (ps_if (pt_not (pt_val (pe_callB (cr_all rfl) (by rfl) T.n_all (by decide +kernel) (pa_cons (pe_lc (own := [("number", 1)]) (g := gName 1) (tt := tYes) rfl S_is_line.nd (pi_tup (pv 0)) (blkOk_by (N := ["value", "number"]) (sc := defScope s_is_line) (by decide +kernel)) (fun _ _ _ _ _ => (pg_name (i := 1) S_is_line.nd rfl (Or.inl rfl))) (fun _ _ _ _ _ => pts_nil) (fun _ _ _ _ _ => (pe_u C_is_integer hG hr (by decide) (by rfl) pass0 (pa_cons (pv 1) pa_nil)))) pa_nil))))
      (pss_one (ps_ret pe_bl))
      pss_nil)
    (pss_one (ps_ret (pe_or (pe_cmpR op_eq (pe_callB call_len_seq (by rfl) T.n_len PySem.boot_len (pa_cons (pv 0) pa_nil)) pe_int (nomark _)) (pe_one (pe_cmpR op_ne (pe_ix ix_tup (pv 0) (pe_un un_neg pe_int) (fun _ _ => rfl)) pe_int (nomark _)))))))), ?_⟩
    refine ⟨_, rfl, _, _, rfl, .tup e, fun H1 s1 => ⟨_, rfl, iteF ?_⟩⟩
    refine ⟨_, rfl, a, xs, rfl, .inr (SqT.of (s1 _ _ e)), _, _, rfl, rfl, _, _, rfl, rfl, _, rfl, ite2 (fun c => ?_) (fun c => ?_)⟩
    · have c0 : (12 : Int) + 1 < xs.length := of_decide_eq_true c
      rw [lineB_long (by omega)] at q
      exact q H1 s1
    have hl : xs.length ≤ 13 := by
      have c0 : ¬ (12 : Int) + 1 < xs.length := fun z => c (decide_eq_true z)
      omega
    have eA : H1 a = some (.tup xs) := s1 _ _ e
    refine ⟨_, rfl, a, rfl, ⟨_, SqT.of eA⟩, fun D nD => ?_⟩
    refine lc_tup (K := K) (xs := xs) (fun i H' => Same H1 H' ∧ H' D = some (.lst ((xs.take i).map fun x => V.bl (isI x)))) ⟨Same.put nD, upd_same⟩ (fun i H' _ z => SqT.of (z.1 _ _ eA)) ?_ ?_
    · rintro i x H' hx ⟨s2, eD⟩
      obtain ⟨kx, hk⟩ := hK x (List.mem_of_getElem? hx)
      refine ⟨rfl, ?_⟩
      refine yesT ?_
      refine ⟨_, rfl, x, kx, rfl, (hk.same s1).same s2, _, eD, small1000 (by rw [List.length_map, List.length_take]; omega), ?_, ?_⟩
      · intro b o eb
        rw [upd_ne (ne_of_none eb nD)]
        exact s2 _ _ eb
      · rw [upd_same, take_snoc hx, List.map_append]; rfl
    rintro H2 ⟨s2, eD⟩
    rw [List.take_length] at eD
    have eB : H2 D = some (.lst ((xs.map isI).map V.bl)) := by rw [eD, List.map_map]; rfl
    have eA2 : H2 a = some (.tup xs) := s2 _ _ eA
    refine ⟨D, xs.map isI, rfl, SqL.of eB, _, rfl, ?_⟩
    rw [all_id]
    match hA : xs.all isI with
    | false =>
      rw [lineB_odd hA] at q
      exact iteT (q H2 (s1.trans s2))
    | true =>
      refine iteF ?_
      refine ⟨_, rfl, a, xs, rfl, .inr (SqT.of eA2), rfl, _, rfl, ite2 (fun c => ?_) (fun c => ?_)⟩
      · have c0 : (xs.length : Int) = 0 := V.int.inj (of_decide_eq_true c)
        have hn : xs = [] := List.length_eq_zero_iff.mp (by omega)
        subst hn
        exact q H2 (s1.trans s2)
      · have hn : xs ≠ [] := fun z => by
          subst z
          exact c (decide_eq_true rfl)
        obtain ⟨v, g1, g2, g3⟩ := last_look hl hA hn
        refine ⟨_, rfl, _, rfl, a, xs, -1, v, rfl, rfl, SqT.of eA2, g1, g2, ?_⟩
        rw [g3]
        exact q H2 (s1.trans s2)
theorem ok_trimmed {P : Program} {w : World} {K : PySem.W.Frag}
    {mg : Str → Option Value} {base : Heap} (T : Top K mg) :
    Cl P w K mg base CX0 1 "trimmed" s_trimmed ["numbers"] (spTrim) := by
  refine T.d_trimmed.cl fun f fd F => body_0 F S_trimmed (fun vs H Q E h => by obtain ⟨_, _, rfl, _⟩ := h; rfl) ?_
  intro cdv A out s H vs Q E hG hr h
  obtain ⟨a, p, rfl, ha, hl, q⟩ := h
  refine ⟨_, (pss_cons (ps_set (i := 1) S_trimmed.nd rfl (Or.inl rfl) (pe_callB call_len_seq (by rfl) T.n_len PySem.boot_len (pa_cons (pv 0) pa_nil)))
    (pss_cons (ps_while PassesOwn.never ((pw_and (pt_cmpR op_gt (pv 1) pe_int (nomark _)) (pw_and1 (pt_cmpR op_eq (pe_ix ix_list (pv 0) (pe_op op_sub (pv 1) pe_int) (fun _ _ => rfl)) pe_int (nomark _))))).pt
      (pss_one (ps_aug (i := 1) S_trimmed.nd rfl (Or.inl rfl) pe_int ip_sub)))
    (pss_one (ps_ret (pe_callTy call_list_of (by rfl) T.n_list (by decide +kernel) (pa_cons (pe_slice sl_list (pv 0) po_none (po_some (pv 1))) pa_nil)))))), ?_⟩
  have sa : SqL K H a (p.map V.int) := SqL.of ha
  refine ⟨_, rfl, a, _, rfl, .inl sa, ?_⟩
  rw [List.length_map]
  refine ⟨fun m σ H' => σ = [some (.ref a), some (.int (m : Nat))] ∧ H' = H ∧ m ≤ p.length ∧ ∀ i, m ≤ i → co p i = 0, ⟨p.length, rfl, rfl, Nat.le_refl _, fun i h => co_big h⟩, ?_⟩
  rintro m σ H' ⟨rfl, rfl, hn, hz⟩
  have fin : (m = 0 ∨ co p (m - 1) ≠ 0) → NewL H' (p.take m) Q := fun e => by rw [← trim_take hn hz e]; exact q
  have go : (m = 0 ∨ co p (m - 1) ≠ 0) → ∃ v, ([some (V.ref a), some (V.int (m : Nat))] : L2.St)[0]? = some (some v) ∧ ∃ w, ([some (V.ref a), some (V.int (m : Nat))] : L2.St)[1]? = some (some w) ∧ ∃ i, w = V.int i ∧ rSlL K v none (some i) H' (fun x H2 => ∃ (r : Addr) (ys : List V), [x] = [V.ref r] ∧ (SqL K H2 r ys ∨ SqT K H2 r ys) ∧ ∀ l, H2 l = none → Q (.ref l) (upd H2 l (.lst ys))) := fun e => by
    refine ⟨_, rfl, _, rfl, _, rfl, a, _, rfl, sa, ?_⟩
    rw [cut_to, ← List.map_take]
    exact fun r nr => ⟨r, _, rfl, .inl (SqL.of upd_same), fun l nl => fin e _ l ((Same.put nr).trans (Same.put nl)) (Same.free (Same.put nr) nl) upd_same⟩
  have e1 : 0 < m → ((m : Nat) : Int) - 1 = ((m - 1 : Nat) : Int) := fun h => by omega
  refine ⟨_, rfl, _, _, rfl, rfl, _, rfl, ite2 (fun c1 => ?_) (fun c1 => iteF (go (.inl ?_)))⟩
  · have c2 : (0 : Int) < (m : Nat) := of_decide_eq_true c1
    refine ⟨_, rfl, _, rfl, _, _, rfl, rfl, a, _, _, _, rfl, rfl, sa, (by rw [e1 (by omega)]; exact atI_int (by omega)), rfl, _, rfl, ite2 (fun c3 => ?_) (fun c3 => go (.inr fun z => c3 (decide_eq_true (by rw [z]))))⟩
    have c4 : co p (m - 1) = 0 := V.int.inj (of_decide_eq_true c3)
    refine ⟨fun σ' H'' => ∃ m', m' < m ∧ σ' = [some (.ref a), some (.int (m' : Nat))] ∧ H'' = H' ∧ m' ≤ p.length ∧ ∀ i, m' ≤ i → co p i = 0, fun _ _ z => z, ?_⟩
    refine ⟨_, rfl, _, _, rfl, rfl, m - 1, by omega, ?_, rfl, by omega, fun i hi => ?_⟩
    · rw [← e1 (by omega)]; rfl
    · by_cases e : i = m - 1
      · rw [e]; exact c4
      · exact hz i (by omega)
  · have c2 : ¬ (0 : Int) < (m : Nat) := fun z => c1 (decide_eq_true z)
    omega
theorem ok_scaled {P : Program} {w : World} {K : PySem.W.Frag}
    {mg : Str → Option Value} {base : Heap} (T : Top K mg)
    (C_trimmed : Cl P w K mg base CX0 1 "trimmed" s_trimmed ["numbers"] (spTrim)) :
    Cl P w K mg base CX0 2 "scaled" s_scaled ["numbers", "factor"] (spScaled) := by
  refine T.d_scaled.cl fun f fd F => body_0 F S_scaled (fun vs H Q E h => by obtain ⟨_, _, _, _, rfl, _⟩ := h; rfl) ?_
  intro cdv A out s H vs Q E hG hr h
  obtain ⟨k, a, p, f, rfl, ha, hl, hb, hf, q⟩ := h
  refine ⟨_, (pss_one (ps_ret (pe_u C_trimmed hG hr (by decide) (by rfl) pass0 (pa_cons (pe_lc (own := [("number", 2)]) (g := gName 2) (tt := tYes) rfl S_scaled.nd (pi_sq (pv 0)) (blkOk_by (N := ["numbers", "factor", "number"]) (sc := defScope s_scaled) (by decide +kernel)) (fun _ _ _ _ _ => (pg_name (i := 2) S_scaled.nd rfl (Or.inl rfl))) (fun _ _ _ _ _ => pts_nil) (fun _ _ _ _ _ => (pe_op op_mulX (pv 1) (pv 2)))) pa_nil)))), ?_⟩
  refine ⟨_, rfl, k, a, rfl, ⟨_, ha.sq⟩, fun D nD => ?_⟩
  refine lc_sq (K := K) (xs := p.map V.int) (fun i H' => Same H H' ∧ H' D = some (.lst ((sclF f (p.take i)).map V.int))) ⟨Same.put nD, upd_same⟩ (fun i H' _ z => (ha.same z.1).sq) ?_ ?_
  · rintro i x H' hx ⟨s2, eD⟩
    obtain ⟨rfl, li⟩ := int_at hx
    refine ⟨rfl, yesT ⟨_, rfl, _, rfl, _, _, rfl, rfl, mulx_big hf (hb.co i), _, eD, small1000 (by simp [sclF]; omega), Same.ov nD s2, ?_⟩⟩
    rw [upd_same, take_co li]; simp [sclF]
  rintro H1 ⟨s1, eD⟩
  rw [List.length_map, List.take_length] at eD
  exact ⟨D, _, rfl, eD, by simp [sclF]; omega, q.go s1⟩
theorem ok_poly_sum {P : Program} {w : World} {K : PySem.W.Frag}
    {mg : Str → Option Value} {base : Heap} (T : Top K mg)
    (C_trimmed : Cl P w K mg base CX0 1 "trimmed" s_trimmed ["numbers"] (spTrim)) :
    Cl P w K mg base CX0 2 "poly_sum" s_poly_sum ["one", "two"] (spPSum) := by
  refine T.d_poly_sum.cl fun f fd F => body_0 F S_poly_sum (fun vs H Q E h => by obtain ⟨_, _, _, _, _, _, rfl, _⟩ := h; rfl) ?_
  intro cdv A out s H vs Q E hG hr h
  obtain ⟨k, j, a, b, p, r, rfl, ha, hb, hl, hm, q⟩ := h
  refine ⟨_, (pss_cons (ps_asg (pe_ifExp (pt_cmpR op_ge (pe_callB call_len_seq (by rfl) T.n_len PySem.boot_len (pa_cons (pv 0) pa_nil)) (pe_callB call_len_seq (by rfl) T.n_len PySem.boot_len (pa_cons (pv 1) pa_nil)) (nomark _)) (pe_tup (pa_cons (pv 0) (pa_cons (pv 1) pa_nil))) (pe_tup (pa_cons (pv 1) (pa_cons (pv 0) pa_nil)))) (pg_tup rfl (pgs_cons (pg_name (i := 2) S_poly_sum.nd rfl (Or.inl rfl)) (pgs_cons (pg_name (i := 3) S_poly_sum.nd rfl (Or.inl rfl)) pgs_nil))))
    (pss_cons (ps_setLc (i := 4) (own := [("a", 5), ("b", 6)]) (g := gTup K 2 (gCons (gName 5) (gCons (gName 6) gNil))) (tt := tYes) rfl S_poly_sum.nd rfl rfl (sw_true rfl rfl rfl (by decide +kernel)) (pi_zipS (by rfl) T.n_zip (pa_cons (pv 2) (pa_cons (pv 3) pa_nil))) (blkOk_by (N := ["one", "two", "long", "short", "both", "a", "b"]) (sc := defScope s_poly_sum) (by decide +kernel)) (fun _ _ _ _ _ => (pg_tup rfl (pgs_cons (pg_name (i := 5) S_poly_sum.nd rfl (Or.inl rfl)) (pgs_cons (pg_name (i := 6) S_poly_sum.nd rfl (Or.inl rfl)) pgs_nil)))) (fun _ _ _ _ _ => pts_nil) (fun _ _ _ _ _ => (pe_op op_add (pv 5) (pv 6))))
    (pss_one (ps_ret (pe_u C_trimmed hG hr (by decide) (by rfl) pass0 (pa_cons (pe_op op_cat (pv 4) (pe_callTy call_list_of (by rfl) T.n_list (by decide +kernel) (pa_cons (pe_slice sl_sq (pv 2) (po_some (pe_callB call_len_seq (by rfl) T.n_len PySem.boot_len (pa_cons (pv 3) pa_nil))) po_none) pa_nil))) pa_nil)))))), ?_⟩
  refine ⟨_, rfl, a, _, rfl, ha.sq.or, _, rfl, b, _, rfl, hb.sq.or, _, _, rfl, rfl, _, rfl, ?_⟩
  rw [List.length_map, List.length_map]
  refine ite2 (fun c => ?_) (fun c => ?_)
  · have c0 : (r.length : Int) ≤ p.length := of_decide_eq_true c
    refine ⟨_, rfl, _, rfl, (by show 2 ≤ sizeLine; decide), fun T nT => ⟨T, _, rfl, SqT.of upd_same, rfl, ?_⟩⟩
    have s1 : Same H (upd H T (.tup [.ref a, .ref b])) := Same.put nT
    refine ⟨_, _, rfl, _, _, rfl, rfl, _, rfl, _, rfl, k, j, a, b, _, _, rfl, (ha.same s1).sq, (hb.same s1).sq, fun D nD => ?_⟩
    refine lc_zipS (K := K) (xs := p.map V.int) (ys := r.map V.int) r.length (by rw [List.length_map, List.length_map]; omega)
      (fun i H' => Same (upd H T (.tup [.ref a, .ref b])) H' ∧ H' D = some (.lst (((List.zipWith (· + ·) p r).take i).map V.int))) ⟨Same.put nD, upd_same⟩
      (fun i H' _ z => ⟨((ha.same s1).same z.1).sq, ((hb.same s1).same z.1).sq⟩) ?_ ?_
    · rintro i x y U H' hx hy ⟨s2, eD⟩ nU
      obtain ⟨rfl, lx⟩ := int_at hx
      obtain ⟨rfl, ly⟩ := int_at hy
      have s3 := s2.trans (Same.put (o := .tup [.int (co p i), .int (co r i)]) nU)
      refine ⟨U, _, rfl, SqT.of upd_same, rfl, _, _, rfl, _, _, rfl, rfl, rfl, yesT ⟨_, rfl, _, rfl, _, _, rfl, rfl, _, Same.put nU _ _ eD, small1000 (by rw [List.length_map, List.length_take, List.length_zipWith]; omega), Same.ov nD s3, ?_⟩⟩
      rw [upd_same, List.take_add_one, List.getElem?_eq_getElem (by rw [List.length_zipWith]; omega), List.getElem_zipWith, ← co_at lx, ← co_at ly]
      simp
    rintro H2 ⟨s2, eD⟩
    have s3 := s1.trans s2
    rw [List.take_of_length_le (by rw [List.length_zipWith]; exact Nat.min_le_right _ _)] at eD
    refine ⟨_, rfl, _, rfl, _, rfl, b, _, rfl, (hb.same s3).sq.or, _, rfl, k, a, _, rfl, (ha.same s3).sq, ?_⟩
    rw [List.length_map, cut_from, ← List.map_drop]
    refine fun H4 U s4 hU => ⟨U, _, rfl, hU.or, fun L nL => ⟨D, L, _, _, rfl, rfl, Same.put nL _ _ (s4 _ _ eD), upd_same, Nat.le_of_lt (small1000 (by rw [List.length_map, List.length_map, List.length_zipWith, List.length_drop]; omega)), fun R nR => ?_⟩⟩
    refine ⟨R, List.zipWith (· + ·) p r ++ p.drop r.length, rfl, (by show upd _ R _ R = _; rw [upd_same, List.map_append]), by rw [List.length_append, List.length_zipWith, List.length_drop]; omega, ?_⟩
    rw [← addF_zip p r (by omega)]
    exact q.go (((s3.trans s4).trans (Same.put nL)).trans (Same.put nR))
  · have c0 : ¬ (r.length : Int) ≤ p.length := fun z => c (decide_eq_true z)
    refine ⟨_, rfl, _, rfl, (by show 2 ≤ sizeLine; decide), fun T nT => ⟨T, _, rfl, SqT.of upd_same, rfl, ?_⟩⟩
    have s1 : Same H (upd H T (.tup [.ref b, .ref a])) := Same.put nT
    refine ⟨_, _, rfl, _, _, rfl, rfl, _, rfl, _, rfl, j, k, b, a, _, _, rfl, (hb.same s1).sq, (ha.same s1).sq, fun D nD => ?_⟩
    refine lc_zipS (K := K) (xs := r.map V.int) (ys := p.map V.int) p.length (by rw [List.length_map, List.length_map]; omega)
      (fun i H' => Same (upd H T (.tup [.ref b, .ref a])) H' ∧ H' D = some (.lst (((List.zipWith (· + ·) r p).take i).map V.int))) ⟨Same.put nD, upd_same⟩
      (fun i H' _ z => ⟨((hb.same s1).same z.1).sq, ((ha.same s1).same z.1).sq⟩) ?_ ?_
    · rintro i x y U H' hx hy ⟨s2, eD⟩ nU
      obtain ⟨rfl, lx⟩ := int_at hx
      obtain ⟨rfl, ly⟩ := int_at hy
      have s3 := s2.trans (Same.put (o := .tup [.int (co r i), .int (co p i)]) nU)
      refine ⟨U, _, rfl, SqT.of upd_same, rfl, _, _, rfl, _, _, rfl, rfl, rfl, yesT ⟨_, rfl, _, rfl, _, _, rfl, rfl, _, Same.put nU _ _ eD, small1000 (by rw [List.length_map, List.length_take, List.length_zipWith]; omega), Same.ov nD s3, ?_⟩⟩
      rw [upd_same, List.take_add_one, List.getElem?_eq_getElem (by rw [List.length_zipWith]; omega), List.getElem_zipWith, ← co_at lx, ← co_at ly]
      simp
    rintro H2 ⟨s2, eD⟩
    have s3 := s1.trans s2
    rw [List.take_of_length_le (by rw [List.length_zipWith]; exact Nat.min_le_right _ _)] at eD
    refine ⟨_, rfl, _, rfl, _, rfl, a, _, rfl, (ha.same s3).sq.or, _, rfl, j, b, _, rfl, (hb.same s3).sq, ?_⟩
    rw [List.length_map, cut_from, ← List.map_drop]
    refine fun H4 U s4 hU => ⟨U, _, rfl, hU.or, fun L nL => ⟨D, L, _, _, rfl, rfl, Same.put nL _ _ (s4 _ _ eD), upd_same, Nat.le_of_lt (small1000 (by rw [List.length_map, List.length_map, List.length_zipWith, List.length_drop]; omega)), fun R nR => ?_⟩⟩
    refine ⟨R, List.zipWith (· + ·) r p ++ r.drop p.length, rfl, (by show upd _ R _ R = _; rw [upd_same, List.map_append]), by rw [List.length_append, List.length_zipWith, List.length_drop]; omega, ?_⟩
    rw [← addF_zip r p (by omega), addF_comm r p]
    exact q.go (((s3.trans s4).trans (Same.put nL)).trans (Same.put nR))
theorem ok_poly_less {P : Program} {w : World} {K : PySem.W.Frag}
    {mg : Str → Option Value} {base : Heap} (T : Top K mg)
    (C_poly_sum : Cl P w K mg base CX0 2 "poly_sum" s_poly_sum ["one", "two"] (spPSum))
    (C_scaled : Cl P w K mg base CX0 2 "scaled" s_scaled ["numbers", "factor"] (spScaled)) :
    Cl P w K mg base CX0 3 "poly_less" s_poly_less ["one", "two"] (spPLess) := by
  refine T.d_poly_less.cl fun f fd F => body_0 F S_poly_less (fun vs H Q E h => by obtain ⟨_, _, _, _, _, _, rfl, _⟩ := h; rfl) ?_
  intro cdv A out s H vs Q E hG hr h
  obtain ⟨k, j, a, b, p, r, rfl, ha, hb, hl, hm, hB, q⟩ := h
  refine ⟨_, (pss_one (ps_ret (pe_u C_poly_sum hG hr (by decide) (by rfl) pass0 (pa_cons (pv 0) (pa_cons (pe_u C_scaled hG hr (by decide) (by rfl) pass0 (pa_cons (pv 1) (pa_cons (pe_un un_neg pe_int) pa_nil))) pa_nil))))), ?_⟩
  refine ⟨_, rfl, _, rfl, 1, rfl, j, b, r, -1, rfl, hb, by omega, hB, (by exact pow_big (k := 1) (by decide) (by decide)), fun H1 c s1 nc ec => ?_⟩
  refine ⟨k, false, a, c, p, _, rfl, ha.same s1, ec, hl, Nat.le_trans (trim_length _) (by simpa [sclF] using hm), ?_⟩
  rw [trim_ext (q := addF p (sclF (-1) r)) fun i => by rw [co_add, co_add, co_trim]]
  exact q.go s1
theorem ok_poly_times {P : Program} {w : World} {K : PySem.W.Frag}
    {mg : Str → Option Value} {base : Heap} (T : Top K mg) :
    Cl P w K mg base CX0 1 "poly_times" s_poly_times ["one", "two"] (spPTimes) := by
  refine T.d_poly_times.cl fun f fd F => body_0 F S_poly_times (fun vs H Q E h => by obtain ⟨_, _, _, _, _, _, rfl, _⟩ := h; rfl) ?_
  intro cdv A out s H vs Q E hG hr h
  obtain ⟨k, j, a, b, p, r, rfl, ha, hb, hl, hm, hP, hR, q⟩ := h
  refine ⟨_, (pss_cons (ps_if ((pw_or (pt_cmpR op_eq (pe_callB call_len_seq (by rfl) T.n_len PySem.boot_len (pa_cons (pv 0) pa_nil)) pe_int (nomark _)) (pw_or1 (pt_cmpR op_eq (pe_callB call_len_seq (by rfl) T.n_len PySem.boot_len (pa_cons (pv 1) pa_nil)) pe_int (nomark _))))).pt
      (pss_one (ps_ret (pe_lst pa_nil)))
      pss_nil)
    (pss_cons (ps_set (i := 2) S_poly_times.nd rfl (Or.inl rfl) (pe_op op_rep (pe_lst (pa_cons pe_int pa_nil)) (pe_op op_sub (pe_op op_add (pe_callB call_len_seq (by rfl) T.n_len PySem.boot_len (pa_cons (pv 0) pa_nil)) (pe_callB call_len_seq (by rfl) T.n_len PySem.boot_len (pa_cons (pv 1) pa_nil))) pe_int)))
    (pss_cons (ps_for PassesOwn.never rfl (pi_enumS (by rfl) T.n_enumerate (pa_cons (pv 0) pa_nil)) (pg_tup rfl (pgs_cons (pg_name (i := 3) S_poly_times.nd rfl (Or.inl rfl)) (pgs_cons (pg_name (i := 4) S_poly_times.nd rfl (Or.inl rfl)) pgs_nil)))
      (pss_one (ps_for PassesOwn.never rfl (pi_enumS (by rfl) T.n_enumerate (pa_cons (pv 1) pa_nil)) (pg_tup rfl (pgs_cons (pg_name (i := 5) S_poly_times.nd rfl (Or.inl rfl)) (pgs_cons (pg_name (i := 6) S_poly_times.nd rfl (Or.inl rfl)) pgs_nil)))
      (pss_one (ps_augS (pv 2) (pe_op op_add (pv 3) (pv 5)) get_L (pe_op op_mulX (pv 4) (pv 6)) ip_add set_list)))))
    (pss_one (ps_ret (pv 2)))))), ?_⟩
  refine ⟨_, rfl, a, _, rfl, ha.sq.or, rfl, _, rfl, ?_⟩
  rw [List.length_map]
  have none0 : p = [] ∨ r = [] → ∀ t, H t = none → Q (.ref t) (upd H t (.lst [])) := fun e t nt => q _ t (Same.put nt) nt (by rw [upd_same, mulF, if_pos e]; rfl)
  refine ite2 (fun c => iteT ⟨(by show 0 ≤ sizeLine; decide), none0 (.inl (List.length_eq_zero_iff.mp (by have := V.int.inj (of_decide_eq_true c); omega)))⟩) (fun c => ?_)
  have hp : p ≠ [] := fun z => c (by subst z; rfl)
  refine ⟨_, rfl, b, _, rfl, hb.sq.or, rfl, _, rfl, ?_⟩
  rw [List.length_map]
  refine ite2 (fun c => ⟨(by show 0 ≤ sizeLine; decide), none0 (.inr (List.length_eq_zero_iff.mp (by have := V.int.inj (of_decide_eq_true c); omega)))⟩) (fun c => ?_)
  have hr0 : r ≠ [] := fun z => c (by subst z; rfl)
  have lp : 0 < p.length := List.length_pos_iff.mpr hp
  have lr : 0 < r.length := List.length_pos_iff.mpr hr0
  refine ⟨(by show 1 ≤ sizeLine; decide), fun t nt => ?_⟩
  have s1 : Same H (upd H t (.lst [.int 0])) := Same.put nt
  refine ⟨_, rfl, a, _, rfl, (ha.same s1).sq.or, _, rfl, b, _, rfl, (hb.same s1).sq.or, _, _, rfl, rfl, _, _, rfl, rfl, ?_⟩
  rw [List.length_map, List.length_map]
  refine ⟨t, _, _, rfl, rfl, upd_same, (by omega), (by omega), (by show 1 * ((p.length : Int) + r.length - 1).toNat ≤ sizeLine; exact Nat.le_of_lt (small1000 (by omega))), ?_⟩
  rw [show ((p.length : Int) + r.length - 1).toNat = p.length + r.length - 1 by omega, rep0]
  intro o no
  have s2 : Same H (upd (upd H t (.lst [.int 0])) o (.lst ((List.replicate (p.length + r.length - 1) (0 : Int)).map V.int))) := s1.trans (Same.put no)
  have nH : H o = none := s1.free no
  refine ⟨_, rfl, k, a, _, rfl, (ha.same s2).sq, ?_⟩
  refine for_enumS (K := K) (xs := p.map V.int) (fun i σ H' => ∃ (R : List Int) (y3 y4 y5 y6 : Option V), σ = [some (.ref a), some (.ref b), some (.ref o), y3, y4, y5, y6] ∧
    Same H H' ∧ H' o = some (.lst (R.map V.int)) ∧ R.length = p.length + r.length - 1 ∧ ∀ t, t < R.length → co R t = cv (co (p.take i)) (co r) t) ?_ ?_ ?_ ?_
  · exact ⟨_, none, none, none, none, rfl, s2, upd_same, List.length_replicate, fun t _ => by rw [co_rep, List.take_zero, co_nil, cv_zero]⟩
  · rintro i σ H' _ ⟨R, y3, y4, y5, y6, rfl, s3, _⟩
    exact (ha.same s3).sq
  · rintro i x T σ H' hx ⟨R, y3, y4, y5, y6, rfl, s3, eo, lR, hR2⟩ nT
    obtain ⟨rfl, li⟩ := int_at hx
    refine ⟨T, _, rfl, SqT.of upd_same, rfl, _, _, rfl, _, _, rfl, rfl, ?_⟩
    have s4 := s3.trans (Same.put (o := .tup [.int (i : Nat), .int (co p i)]) nT)
    refine ⟨_, rfl, j, b, _, rfl, (hb.same s4).sq, ?_⟩
    refine for_enumS (K := K) (xs := r.map V.int) (fun m σ H' => ∃ (R : List Int) (y5 y6 : Option V), σ = [some (.ref a), some (.ref b), some (.ref o), some (.int (i : Nat)), some (.int (co p i)), y5, y6] ∧
      Same H H' ∧ H' o = some (.lst (R.map V.int)) ∧ R.length = p.length + r.length - 1 ∧ ∀ t, t < R.length → co R t = row p r i m t) ?_ ?_ ?_ ?_
    · exact ⟨R, y5, y6, rfl, s4, Same.put nT _ _ eo, lR, fun t ht => by rw [row_0]; exact hR2 t ht⟩
    · rintro m σ H' _ ⟨R, y5, y6, rfl, s3, _⟩
      exact (hb.same s3).sq
    · rintro m y U σ H' hy ⟨R, y5, y6, rfl, s5, eo, lR, hR3⟩ nU
      obtain ⟨rfl, lm⟩ := int_at hy
      have eo2 := Same.put (o := .tup [.int (m : Nat), .int (co r m)]) nU _ _ eo
      have s6 := s5.trans (Same.put (o := .tup [.int (m : Nat), .int (co r m)]) nU)
      obtain ⟨g1, g2⟩ := set_int (p := R) (i := i + m) (by omega) (co R (i + m) + co p i * co r m)
      refine ⟨U, _, rfl, SqT.of upd_same, rfl, _, _, rfl, _, _, rfl, rfl, ?_⟩
      refine ⟨_, rfl, _, rfl, _, rfl, _, _, rfl, rfl, o, _, i + m, _, rfl, rfl, SqL.of eo2, at_int (by omega), _, rfl, _, rfl, _, _, rfl, rfl, mulx_big (hP.co i) (hR.co m), _, _, rfl, rfl, o, _, _, _, rfl, rfl, eo2, g1, ?_⟩
      rw [g2]
      refine ⟨R.set (i + m) (co R (i + m) + co p i * co r m), _, _, rfl, Same.ov nH s6, upd_same, by rw [List.length_set]; exact lR, fun t ht => ?_⟩
      rw [List.length_set] at ht
      rw [co_set (by omega), row_s, hR3 _ (by omega)]
      by_cases e : t = i + m
      · rw [if_pos e, if_pos e, e]
      · rw [if_neg e, if_neg e, hR3 _ ht]
    · rintro σ H' ⟨R, y5, y6, rfl, s5, eo, lR, hR3⟩
      rw [List.length_map] at hR3
      exact ⟨R, _, _, _, _, rfl, s5, eo, lR, fun t ht => by rw [hR3 t ht, row_end li]⟩
  · rintro σ H' ⟨R, y3, y4, y5, y6, rfl, s3, eo, lR, hR2⟩
    rw [List.length_map, List.take_length] at hR2
    refine ⟨_, rfl, ?_⟩
    rw [← mul_tab hp hr0 lR hR2] at q
    exact q _ o s3 nH eo
theorem ok_poly_value {P : Program} {w : World} {K : PySem.W.Frag}
    {mg : Str → Option Value} {base : Heap} (T : Top K mg) :
    Cl P w K mg base CX0 1 "poly_value" s_poly_value ["numbers", "place"] (spPValue) := by
  refine T.d_poly_value.cl fun f fd F => body_0 F S_poly_value (fun vs H Q E h => by obtain ⟨_, _, _, _, rfl, _⟩ := h; rfl) ?_
  intro cdv A out s H vs Q E hG hr h
  obtain ⟨k, a, p, x, rfl, ha, hl, hb, hx, q⟩ := h
  refine ⟨_, (pss_cons (ps_set (i := 2) S_poly_value.nd rfl (Or.inl rfl) pe_int)
    (pss_cons (ps_for PassesOwn.never rfl (pi_sq (pe_revS (pv 0))) (pg_name (i := 3) S_poly_value.nd rfl (Or.inl rfl))
      (pss_one (ps_set (i := 2) S_poly_value.nd rfl (Or.inl rfl) (pe_op op_add (pe_op op_mulX (pv 2) (pv 1)) (pv 3)))))
    (pss_one (ps_ret (pv 2))))), ?_⟩
  refine ⟨_, rfl, k, a, _, rfl, ha.sq, fun H1 r s1 hr1 => ⟨k, r, rfl, ⟨_, hr1⟩, ?_⟩⟩
  rw [← List.map_reverse] at hr1
  refine for_sq (K := K) (xs := p.reverse.map V.int) (fun i σ H' => ∃ y3 : Option V, σ = [some (.ref a), some (.int x), some (.int (ev x (p.reverse.take i).reverse)), y3] ∧ Same H1 H') ?_ ?_ ?_ ?_
  · exact ⟨none, rfl, Same.refl _⟩
  · rintro i σ H' _ ⟨y3, rfl, s2⟩
    exact Same.sq s2 hr1
  · rintro i y σ H' hy ⟨y3, rfl, s2⟩
    obtain ⟨rfl, li⟩ := int_at hy
    refine ⟨_, rfl, _, rfl, _, _, rfl, rfl, mulx_big (ev_part i hl hb hx) (pow_big hx (by decide)), _, rfl, _, _, rfl, rfl, some (.int (co p.reverse i)), ?_, s2⟩
    rw [ev_rev x p i (co p.reverse i) (by rw [List.getElem?_eq_getElem li, co_at li])]
    rfl
  · rintro σ H' ⟨y3, rfl, s2⟩
    refine ⟨_, rfl, ?_⟩
    rw [List.length_map, List.take_length, List.reverse_reverse]
    exact q _ (s1.trans s2)
theorem ok_poly_slope {P : Program} {w : World} {K : PySem.W.Frag}
    {mg : Str → Option Value} {base : Heap} (T : Top K mg) :
    Cl P w K mg base CX0 1 "poly_slope" s_poly_slope ["numbers"] (spPSlope) := by
  refine T.d_poly_slope.cl fun f fd F => body_0 F S_poly_slope (fun vs H Q E h => by obtain ⟨_, _, _, rfl, _⟩ := h; rfl) ?_
  intro cdv A out s H vs Q E hG hr h
  obtain ⟨k, a, p, rfl, ha, hl, hb, q⟩ := h
  refine ⟨_, (pss_one (ps_ret (pe_lc (own := [("power", 1), ("number", 2)]) (g := gTup K 2 (gCons (gName 1) (gCons (gName 2) gNil))) (tt := _) rfl S_poly_slope.nd (pi_enumS (by rfl) T.n_enumerate (pa_cons (pv 0) pa_nil)) (blkOk_by (N := ["numbers", "power", "number"]) (sc := defScope s_poly_slope) (by decide +kernel)) (fun _ _ _ _ _ => (pg_tup rfl (pgs_cons (pg_name (i := 1) S_poly_slope.nd rfl (Or.inl rfl)) (pgs_cons (pg_name (i := 2) S_poly_slope.nd rfl (Or.inl rfl)) pgs_nil)))) (fun _ _ _ _ _ => (pts_one (pt_cmpR op_gt (pv 1) pe_int (nomark _)))) (fun _ _ _ _ _ => (pe_op op_mulX (pv 1) (pv 2)))))), ?_⟩
  refine ⟨_, rfl, k, a, _, rfl, ha.sq, fun D nD => ?_⟩
  refine lc_enumS (K := K) (xs := p.map V.int) (fun i H' => Same H H' ∧ H' D = some (.lst (((List.range (i - 1)).map (dv (co p))).map V.int))) ⟨Same.put nD, upd_same⟩ (fun i H' _ z => (ha.same z.1).sq) ?_ ?_
  · rintro i x T H' hx ⟨s2, eD⟩ nT
    obtain ⟨rfl, li⟩ := int_at hx
    have s3 := s2.trans (Same.put (o := .tup [.int (i : Nat), .int (co p i)]) nT)
    have eD2 := Same.put (o := .tup [.int (i : Nat), .int (co p i)]) nT _ _ eD
    refine ⟨T, _, rfl, SqT.of upd_same, rfl, _, _, rfl, _, _, rfl, rfl, rfl, ?_⟩
    have e := sl_row (p := p) (i := i)
    refine ⟨_, rfl, _, _, rfl, rfl, _, rfl, ite2 (fun c => ?_) (fun c => ?_)⟩
    · have c0 : (0 : Int) < (i : Nat) := of_decide_eq_true c
      rw [if_pos (by omega)] at e
      refine ⟨_, rfl, _, rfl, _, _, rfl, rfl, mulx_big (int_big (by omega)) (hb.co i), _, eD2, small1000 (by rw [List.length_map, List.length_map, List.length_range]; omega), Same.ov nD s3, ?_⟩
      rw [upd_same, e, List.map_append]
      rfl
    · have c0 : ¬ (0 : Int) < (i : Nat) := fun z => c (decide_eq_true z)
      rw [if_neg (by omega)] at e
      exact ⟨s3, by rw [eD2, e]⟩
  rintro H1 ⟨s1, eD⟩
  rw [List.length_map] at eD
  exact q _ D s1 nD eD
theorem ok_content {P : Program} {w : World} {K : PySem.W.Frag}
    {mg : Str → Option Value} {base : Heap} (T : Top K mg) :
    Cl P w K mg base CX0 1 "content" s_content ["numbers"] (spContent) := by
  refine T.d_content.cl fun f fd F => body_0 F S_content (fun vs H Q E h => by obtain ⟨_, _, _, rfl, _⟩ := h; rfl) ?_
  intro cdv A out s H vs Q E hG hr h
  obtain ⟨k, a, p, rfl, ha, hl, q⟩ := h
  refine ⟨_, (pss_cons (ps_set (i := 1) S_content.nd rfl (Or.inl rfl) pe_int)
    (pss_cons (ps_for PassesOwn.never rfl (pi_sq (pv 0)) (pg_name (i := 2) S_content.nd rfl (Or.inl rfl))
      (pss_one (ps_set (i := 1) S_content.nd rfl (Or.inl rfl) (pe_callBfun cr_gcd (by rfl) T.m_gcd (pa_cons (pv 1) (pa_cons (pv 2) pa_nil))))))
    (pss_one (ps_ret (pv 1))))), ?_⟩
  refine ⟨_, rfl, k, a, rfl, ⟨_, ha.sq⟩, ?_⟩
  refine for_sq (K := K) (xs := p.map V.int) (fun i σ H' => ∃ y2 : Option V, σ = [some (.ref a), some (.int (cnt (p.take i) : Nat)), y2] ∧ H' = H) ?_ ?_ ?_ ?_
  · exact ⟨none, rfl, rfl⟩
  · rintro i σ H' _ ⟨y2, rfl, rfl⟩
    exact ha.sq
  · rintro i y σ H' hy ⟨y2, rfl, rfl⟩
    obtain ⟨rfl, li⟩ := int_at hy
    refine ⟨_, rfl, _, rfl, _, _, rfl, some (.int (co p i)), ?_, rfl⟩
    rw [take_co li, cnt_snoc]
    rfl
  · rintro σ H' ⟨y2, rfl, rfl⟩
    refine ⟨_, rfl, ?_⟩
    rw [List.length_map, List.take_length]
    exact q _ (Same.refl _)
theorem ok_poly_plain {P : Program} {w : World} {K : PySem.W.Frag}
    {mg : Str → Option Value} {base : Heap} (T : Top K mg)
    (C_content : Cl P w K mg base CX0 1 "content" s_content ["numbers"] (spContent)) :
    Cl P w K mg base CX0 2 "poly_plain" s_poly_plain ["numbers"] (spPPlain) := by
  refine T.d_poly_plain.cl fun f fd F => body_0 F S_poly_plain (fun vs H Q E h => by obtain ⟨_, _, rfl, _⟩ := h; rfl) ?_
  intro cdv A out s H vs Q E hG hr h
  obtain ⟨a, p, rfl, ha, hl, hc, hn, q⟩ := h
  refine ⟨_, (pss_cons (ps_if (pt_cmpR op_eq (pe_callB call_len_seq (by rfl) T.n_len PySem.boot_len (pa_cons (pv 0) pa_nil)) pe_int (nomark _))
      (pss_one (ps_ret (pe_lst pa_nil)))
      pss_nil)
    (pss_cons (ps_set (i := 1) S_poly_plain.nd rfl (Or.inr rfl) (pe_u C_content hG hr (by decide) (by rfl) pass0 (pa_cons (pv 0) pa_nil)))
    (pss_cons (ps_if (pt_cmpR op_lt (pe_ix ix_list (pv 0) (pe_un un_neg pe_int) (fun _ _ => rfl)) pe_int (nomark _))
      (pss_one (ps_set (i := 1) S_poly_plain.nd rfl (Or.inr rfl) (pe_un un_neg (pv 1))))
      pss_nil)
    (pss_one (ps_ret (pe_lc (own := [("number", 2)]) (g := gName 2) (tt := tYes) rfl S_poly_plain.nd (pi_list (pv 0)) (blkOk_by (N := ["numbers", "common", "number"]) (sc := defScope s_poly_plain) (by decide +kernel)) (fun _ _ _ _ _ => (pg_name (i := 2) S_poly_plain.nd rfl (Or.inl rfl))) (fun _ _ _ _ _ => pts_nil) (fun _ _ _ _ _ => (pe_op op_fdivN (pv 2) (pv 1))))))))), ?_⟩
  refine ⟨_, rfl, a, _, rfl, .inl (SqL.of ha), rfl, _, rfl, ?_⟩
  rw [List.length_map]
  refine ite2 (fun c => ?_) (fun c => ?_)
  · have e : p = [] := List.length_eq_zero_iff.mp (by have := V.int.inj (of_decide_eq_true c); omega)
    subst e
    exact ⟨(by show 0 ≤ sizeLine; decide), fun t nt => q _ t (Same.put nt) nt upd_same⟩
  have hp : p ≠ [] := fun z => c (by subst z; rfl)
  refine ⟨_, rfl, false, a, p, rfl, ha, hl, fun H1 s1 => ?_⟩
  have ha1 : At false H1 a p := ha.same s1
  have h0 := sgc_ne hc hp
  have h1 := sgc_abs p
  refine ⟨_, rfl, _, rfl, a, _, -1, _, rfl, rfl, SqL.of ha1, atI_end hp, _, _, rfl, rfl, _, rfl, ite2 (fun c => ?_) (fun c => ?_)⟩
  · have c0 : co p (p.length - 1) < 0 := of_decide_eq_true c
    have hg : sgc p = -(cnt p : Int) := if_pos c0
    refine ⟨_, rfl, _, rfl, ?_⟩
    refine ⟨_, rfl, a, rfl, ⟨_, SqL.of ha1⟩, fun D nD => ?_⟩
    refine lc_list (K := K) (xs := p.map V.int) (fun i H' => Same H1 H' ∧ H' D = some (.lst (((plF p).take i).map V.int))) ⟨Same.put nD, upd_same⟩ (fun i H' _ z => SqL.of (ha1.same z.1)) ?_ ?_
    · rintro i x H' hx ⟨s2, eD⟩
      obtain ⟨rfl, li⟩ := int_at hx
      refine ⟨rfl, yesT ⟨_, rfl, _, rfl, _, _, rfl, rfl, ⟨(by show -((cnt p : Nat) : Int) ≠ 0; omega), (by show (-((cnt p : Nat) : Int)).natAbs < 1073741824; omega)⟩, _, eD, small1000 (by rw [List.length_map, List.length_take]; omega), Same.ov nD s2, ?_⟩⟩
      have li2 : i < (plF p).length := by rw [plF_length]; exact li
      rw [upd_same, List.take_add_one, List.getElem?_eq_getElem li2, List.map_append]
      simp only [plF, List.getElem_map, ← co_at li, hg]
      rfl
    rintro H2 ⟨s2, eD⟩
    rw [List.length_map, List.take_of_length_le (by rw [plF_length]; exact Nat.le_refl _)] at eD
    exact q _ D (Same.trans s1 s2) (s1.free nD) eD
  · have c0 : ¬ co p (p.length - 1) < 0 := fun z => c (decide_eq_true z)
    have hg : sgc p = (cnt p : Int) := if_neg c0
    refine ⟨_, rfl, a, rfl, ⟨_, SqL.of ha1⟩, fun D nD => ?_⟩
    refine lc_list (K := K) (xs := p.map V.int) (fun i H' => Same H1 H' ∧ H' D = some (.lst (((plF p).take i).map V.int))) ⟨Same.put nD, upd_same⟩ (fun i H' _ z => SqL.of (ha1.same z.1)) ?_ ?_
    · rintro i x H' hx ⟨s2, eD⟩
      obtain ⟨rfl, li⟩ := int_at hx
      refine ⟨rfl, yesT ⟨_, rfl, _, rfl, _, _, rfl, rfl, ⟨(by show ((cnt p : Nat) : Int) ≠ 0; omega), (by show (((cnt p : Nat) : Int)).natAbs < 1073741824; omega)⟩, _, eD, small1000 (by rw [List.length_map, List.length_take]; omega), Same.ov nD s2, ?_⟩⟩
      have li2 : i < (plF p).length := by rw [plF_length]; exact li
      rw [upd_same, List.take_add_one, List.getElem?_eq_getElem li2, List.map_append]
      simp only [plF, List.getElem_map, ← co_at li, hg]
      rfl
    rintro H2 ⟨s2, eD⟩
    rw [List.length_map, List.take_of_length_le (by rw [plF_length]; exact Nat.le_refl _)] at eD
    exact q _ D (Same.trans s1 s2) (s1.free nD) eD
theorem ok_check_line {P : Program} {w : World} {K : PySem.W.Frag}
    {mg : Str → Option Value} {base : Heap} (T : Top K mg)
    (C_is_line : Cl P w K mg base CX0 2 "is_line" s_is_line ["value"] (spIsLine)) :
    Cl P w K mg base CX0 3 "check_line" s_check_line ["line"] (spCheck) := by
  refine T.d_check_line.cl fun f fd F => body_0 F S_check_line (fun vs H Q E h => by obtain ⟨_, rfl, _⟩ := h; rfl) ?_
  intro cdv A out s H vs Q E hG hr h
  obtain ⟨v, rfl, hv, q⟩ := h
  refine ⟨_, (pss_one (ps_if (pt_not (pt_val (pe_u C_is_line hG hr (by decide) (by rfl) pass0 (pa_cons (pv 0) pa_nil))))
      (pss_one ps_never)
      pss_nil)), ?_⟩
  exact ⟨_, rfl, v, true, rfl, hv, fun H1 s1 => ⟨_, rfl, iteF (q H1 s1)⟩⟩
theorem ok_check_lines {P : Program} {w : World} {K : PySem.W.Frag}
    {mg : Str → Option Value} {base : Heap} (T : Top K mg)
    (C_check_line : Cl P w K mg base CX0 3 "check_line" s_check_line ["line"] (spCheck)) :
    Cl P w K mg base CX0 4 "check_lines" s_check_lines ["line", "other"] (spChecks) := by
  refine T.d_check_lines.cl fun f fd F => body_0 F S_check_lines (fun vs H Q E h => by obtain ⟨_, _, rfl, _⟩ := h; rfl) ?_
  intro cdv A out s H vs Q E hG hr h
  obtain ⟨v, u, rfl, hv, hu, q⟩ := h
  refine ⟨_, (pss_cons (ps_expr (pe_u C_check_line hG hr (by decide) (by rfl) pass0 (pa_cons (pv 0) pa_nil)))
    (pss_one (ps_expr (pe_u C_check_line hG hr (by decide) (by rfl) pass0 (pa_cons (pv 1) pa_nil))))), ?_⟩
  exact ⟨_, rfl, v, rfl, hv, fun H1 s1 => ⟨_, rfl, u, rfl, hu.same s1, fun H2 s2 => q H2 (Same.trans s1 s2)⟩⟩
theorem ok_degree {P : Program} {w : World} {K : PySem.W.Frag}
    {mg : Str → Option Value} {base : Heap} (T : Top K mg)
    (C_check_line : Cl P w K mg base CX0 3 "check_line" s_check_line ["line"] (spCheck)) :
    Cl P w K mg base CX0 4 "degree" s_degree ["line"] (spDegree) := by
  refine T.d_degree.cl fun f fd F => body_0 F S_degree (fun vs H Q E h => by obtain ⟨_, _, _, rfl, _⟩ := h; rfl) ?_
  intro cdv A out s H vs Q E hG hr h
  obtain ⟨k, a, p, rfl, ha, q⟩ := h
  refine ⟨_, (pss_cons (ps_expr (pe_u C_check_line hG hr (by decide) (by rfl) pass0 (pa_cons (pv 0) pa_nil)))
    (pss_one (ps_ret (pe_op op_sub (pe_callB call_len_seq (by rfl) T.n_len PySem.boot_len (pa_cons (pv 0) pa_nil)) pe_int)))), ?_⟩
  refine ⟨_, rfl, .ref a, rfl, ha.val, fun H1 s1 => ⟨_, rfl, a, _, rfl, (ha.same s1).at_.sq.or, _, _, rfl, rfl, ?_⟩⟩
  rw [List.length_map]
  exact q H1 s1
theorem ok_line_value {P : Program} {w : World} {K : PySem.W.Frag}
    {mg : Str → Option Value} {base : Heap} (T : Top K mg)
    (C_check_line : Cl P w K mg base CX0 3 "check_line" s_check_line ["line"] (spCheck))
    (C_check_number : Cl P w K mg base CX0 2 "check_number" s_check_number ["number"] (spNumber))
    (C_poly_value : Cl P w K mg base CX0 1 "poly_value" s_poly_value ["numbers", "place"] (spPValue)) :
    Cl P w K mg base CX0 4 "line_value" s_line_value ["line", "number"] (spLnV) := by
  refine T.d_line_value.cl fun f fd F => body_0 F S_line_value (fun vs H Q E h => by obtain ⟨_, _, _, _, rfl, _⟩ := h; rfl) ?_
  intro cdv A out s H vs Q E hG hr h
  obtain ⟨k, a, p, x, rfl, ha, hx, q⟩ := h
  refine ⟨_, (pss_cons (ps_expr (pe_u C_check_line hG hr (by decide) (by rfl) pass0 (pa_cons (pv 0) pa_nil)))
    (pss_cons (ps_expr (pe_u C_check_number hG hr (by decide) (by rfl) pass0 (pa_cons (pv 1) pa_nil)))
    (pss_one (ps_ret (pe_u C_poly_value hG hr (by decide) (by rfl) pass0 (pa_cons (pv 0) (pa_cons (pv 1) pa_nil))))))), ?_⟩
  refine ⟨_, rfl, .ref a, rfl, ha.val, fun H1 s1 => ⟨_, rfl, x, rfl, ⟨_, rfl, _, rfl, k, a, p, x, rfl, (ha.same s1).at_, by have := ha.len; omega, ha.bd.mono (by decide), hx, fun H2 s2 => q H2 (Same.trans s1 s2)⟩⟩⟩
theorem ok_line_slope {P : Program} {w : World} {K : PySem.W.Frag}
    {mg : Str → Option Value} {base : Heap} (T : Top K mg)
    (C_check_line : Cl P w K mg base CX0 3 "check_line" s_check_line ["line"] (spCheck))
    (C_poly_slope : Cl P w K mg base CX0 1 "poly_slope" s_poly_slope ["numbers"] (spPSlope)) :
    Cl P w K mg base CX0 4 "line_slope" s_line_slope ["line"] (spLnS) := by
  refine T.d_line_slope.cl fun f fd F => body_0 F S_line_slope (fun vs H Q E h => by obtain ⟨_, _, _, rfl, _⟩ := h; rfl) ?_
  intro cdv A out s H vs Q E hG hr h
  obtain ⟨k, a, p, rfl, ha, q⟩ := h
  refine ⟨_, (pss_cons (ps_expr (pe_u C_check_line hG hr (by decide) (by rfl) pass0 (pa_cons (pv 0) pa_nil)))
    (pss_one (ps_ret (pe_u C_poly_slope hG hr (by decide) (by rfl) pass0 (pa_cons (pv 0) pa_nil))))), ?_⟩
  exact ⟨_, rfl, .ref a, rfl, ha.val, fun H1 s1 => ⟨_, rfl, k, a, p, rfl, (ha.same s1).at_, by have := ha.len; omega, bd_big ha.bd (by decide), q.go s1⟩⟩
theorem ok_plain_line {P : Program} {w : World} {K : PySem.W.Frag}
    {mg : Str → Option Value} {base : Heap} (T : Top K mg)
    (C_check_line : Cl P w K mg base CX0 3 "check_line" s_check_line ["line"] (spCheck))
    (C_poly_plain : Cl P w K mg base CX0 2 "poly_plain" s_poly_plain ["numbers"] (spPPlain)) :
    Cl P w K mg base CX0 4 "plain_line" s_plain_line ["line"] (spLnP) := by
  refine T.d_plain_line.cl fun f fd F => body_0 F S_plain_line (fun vs H Q E h => by obtain ⟨_, _, rfl, _⟩ := h; rfl) ?_
  intro cdv A out s H vs Q E hG hr h
  obtain ⟨a, p, rfl, ha, hn, q⟩ := h
  refine ⟨_, (pss_cons (ps_expr (pe_u C_check_line hG hr (by decide) (by rfl) pass0 (pa_cons (pv 0) pa_nil)))
    (pss_one (ps_ret (pe_u C_poly_plain hG hr (by decide) (by rfl) pass0 (pa_cons (pv 0) pa_nil))))), ?_⟩
  exact ⟨_, rfl, .ref a, rfl, ha.val, fun H1 s1 => ⟨_, rfl, a, p, rfl, (ha.same s1).at_, by have := ha.len; omega, ha.cn, hn, q.go s1⟩⟩
theorem ok_line_sum {P : Program} {w : World} {K : PySem.W.Frag}
    {mg : Str → Option Value} {base : Heap} (T : Top K mg)
    (C_check_lines : Cl P w K mg base CX0 4 "check_lines" s_check_lines ["line", "other"] (spChecks))
    (C_poly_sum : Cl P w K mg base CX0 2 "poly_sum" s_poly_sum ["one", "two"] (spPSum)) :
    Cl P w K mg base CX0 5 "line_sum" s_line_sum ["line", "other"] (spLn2 (fun p q => trim (addF p q)) fun _ _ => True) := by
  refine T.d_line_sum.cl fun f fd F => body_0 F S_line_sum (fun vs H Q E h => by obtain ⟨_, _, _, _, _, _, rfl, _⟩ := h; rfl) ?_
  intro cdv A out s H vs Q E hG hr h
  obtain ⟨k, j, a, b, p, r, rfl, ha, hb, _, q⟩ := h
  refine ⟨_, (pss_cons (ps_expr (pe_u C_check_lines hG hr (by decide) (by rfl) pass0 (pa_cons (pv 0) (pa_cons (pv 1) pa_nil))))
    (pss_one (ps_ret (pe_u C_poly_sum hG hr (by decide) (by rfl) pass0 (pa_cons (pv 0) (pa_cons (pv 1) pa_nil)))))), ?_⟩
  exact ⟨_, rfl, _, rfl, .ref a, .ref b, rfl, ha.val, hb.val, fun H1 s1 => ⟨_, rfl, _, rfl, k, j, a, b, p, r, rfl, (ha.same s1).at_, (hb.same s1).at_, by have := ha.len; omega, by have := hb.len; omega, q.go s1⟩⟩
theorem ok_line_less {P : Program} {w : World} {K : PySem.W.Frag}
    {mg : Str → Option Value} {base : Heap} (T : Top K mg)
    (C_check_lines : Cl P w K mg base CX0 4 "check_lines" s_check_lines ["line", "other"] (spChecks))
    (C_poly_less : Cl P w K mg base CX0 3 "poly_less" s_poly_less ["one", "two"] (spPLess)) :
    Cl P w K mg base CX0 5 "line_less" s_line_less ["line", "other"] (spLn2 (fun p q => trim (addF p (sclF (-1) q))) fun _ _ => True) := by
  refine T.d_line_less.cl fun f fd F => body_0 F S_line_less (fun vs H Q E h => by obtain ⟨_, _, _, _, _, _, rfl, _⟩ := h; rfl) ?_
  intro cdv A out s H vs Q E hG hr h
  obtain ⟨k, j, a, b, p, r, rfl, ha, hb, _, q⟩ := h
  refine ⟨_, (pss_cons (ps_expr (pe_u C_check_lines hG hr (by decide) (by rfl) pass0 (pa_cons (pv 0) (pa_cons (pv 1) pa_nil))))
    (pss_one (ps_ret (pe_u C_poly_less hG hr (by decide) (by rfl) pass0 (pa_cons (pv 0) (pa_cons (pv 1) pa_nil)))))), ?_⟩
  exact ⟨_, rfl, _, rfl, .ref a, .ref b, rfl, ha.val, hb.val, fun H1 s1 => ⟨_, rfl, _, rfl, k, j, a, b, p, r, rfl, (ha.same s1).at_, (hb.same s1).at_, by have := ha.len; omega, by have := hb.len; omega, bd_big hb.bd (by decide), q.go s1⟩⟩
theorem ok_line_times {P : Program} {w : World} {K : PySem.W.Frag}
    {mg : Str → Option Value} {base : Heap} (T : Top K mg)
    (C_check_lines : Cl P w K mg base CX0 4 "check_lines" s_check_lines ["line", "other"] (spChecks))
    (C_poly_times : Cl P w K mg base CX0 1 "poly_times" s_poly_times ["one", "two"] (spPTimes)) :
    Cl P w K mg base CX0 5 "line_times" s_line_times ["line", "other"] (spLn2 mulF fun p q => (mulF p q).length ≤ 13) := by
  obtain ⟨_, c_LINE_DEGREE⟩ := T.c_LINE_DEGREE
  refine T.d_line_times.cl fun f fd F => body_0 F S_line_times (fun vs H Q E h => by obtain ⟨_, _, _, _, _, _, rfl, _⟩ := h; rfl) ?_
  intro cdv A out s H vs Q E hG hr h
  obtain ⟨k, j, a, b, p, r, rfl, ha, hb, hm, q⟩ := h
  refine ⟨_, (pss_cons (ps_expr (pe_u C_check_lines hG hr (by decide) (by rfl) pass0 (pa_cons (pv 0) (pa_cons (pv 1) pa_nil))))
    (pss_cons (ps_set (i := 2) S_line_times.nd rfl (Or.inl rfl) (pe_u C_poly_times hG hr (by decide) (by rfl) pass0 (pa_cons (pv 0) (pa_cons (pv 1) pa_nil))))
    (pss_cons (ps_if (pt_cmpR op_gt (pe_callB call_len_seq (by rfl) T.n_len PySem.boot_len (pa_cons (pv 2) pa_nil)) (pe_op op_add (pe_glob (v := .int 12) (by rfl) c_LINE_DEGREE ⟨_, rfl⟩) pe_int) (nomark _))
      (pss_one ps_never)
      pss_nil)
    (pss_one (ps_ret (pv 2)))))), ?_⟩
  refine ⟨_, rfl, _, rfl, .ref a, .ref b, rfl, ha.val, hb.val, fun H1 s1 => ⟨_, rfl, _, rfl, k, j, a, b, p, r, rfl, (ha.same s1).at_, (hb.same s1).at_, by have := ha.len; omega, by have := hb.len; omega, bd_big ha.bd (by decide), bd_big hb.bd (by decide), fun H2 o s2 no eo => ?_⟩⟩
  refine ⟨_, rfl, o, _, rfl, .inl (SqL.of eo), _, _, rfl, rfl, _, _, rfl, rfl, _, rfl, ifF ?_ ?_⟩
  · rw [List.length_map]
    have h13 : (mulF p r).length ≤ 13 := hm
    exact decide_eq_false (by show ¬ (12 : Int) + 1 < _; omega)
  · exact ⟨_, rfl, q _ o (Same.trans s1 s2) (s1.free no) eo⟩
theorem ok__law_trim {P : Program} {w : World} {K : PySem.W.Frag}
    {mg : Str → Option Value} {base : Heap} (T : Top K mg) :
    Cl P w K mg base CX0 1 "_law_trim" s__law_trim ["_law_numbers"] (spTrim) := by
  refine T.d__law_trim.cl fun f fd F => body_0 F S__law_trim (fun vs H Q E h => by obtain ⟨_, _, rfl, _⟩ := h; rfl) ?_
  intro cdv A out s H vs Q E hG hr h
  obtain ⟨a, p, rfl, ha, hl, q⟩ := h
  refine ⟨_, (pss_cons (ps_set (i := 1) S__law_trim.nd rfl (Or.inl rfl) (pe_callTy call_list_of (by rfl) T.n_list (by decide +kernel) (pa_cons (pv 0) pa_nil)))
    (pss_cons (ps_while PassesOwn.never ((pw_and (pt_cmpR (op_neD (hu64 hr)) (pv 1) (pe_lst pa_nil) (nomark _)) (pw_and1 (pt_cmpR op_eq (pe_ix ix_list (pv 1) (pe_un un_neg pe_int) (fun _ _ => rfl)) pe_int (nomark _))))).pt
      (pss_one (ps_expr (pe_bm0 PySem.F.plainAttrs_list PySem.F.slot_list_pop PySem.F.type_list_pop mt_pop (pv 1)))))
    (pss_one (ps_ret (pv 1))))), ?_⟩
  refine ⟨_, rfl, a, _, rfl, .inl (SqL.of ha), fun o no => ?_⟩
  refine ⟨fun m σ H' => σ = [some (.ref a), some (.ref o)] ∧ Same H H' ∧ H' o = some (.lst ((p.take m).map V.int)) ∧ m ≤ p.length ∧ ∀ i, m ≤ i → co p i = 0, ⟨p.length, rfl, Same.put no, by rw [upd_same, List.take_length], Nat.le_refl _, fun i h => co_big h⟩, ?_⟩
  rintro m σ H' ⟨rfl, s1, eo, hn, hz⟩
  have lt : (p.take m).length = m := by rw [List.length_take]; omega
  refine ⟨_, rfl, (by show 0 ≤ sizeLine; decide), fun e ne => ?_⟩
  have s2 : Same H' (upd H' e (.lst [])) := Same.put ne
  have go : ∀ H4, Same H' H4 → (m = 0 ∨ co p (m - 1) ≠ 0) → Q (.ref o) H4 := fun H4 s4 z => by
    have t := trim_take hn hz z
    exact q _ o (s1.trans s4) no (by rw [t]; exact s4 _ _ eo)
  refine neL (p := p.take m) (q := []) (s2 _ _ eo) upd_same ⟨_, rfl, ?_⟩
  by_cases h0 : p.take m = []
  · rw [h0]
    exact iteF (iteF ⟨_, rfl, go _ s2 (.inl (by rw [← lt, h0]; rfl))⟩)
  have m0 : 0 < m := by rw [← lt]; exact List.length_pos_iff.mpr h0
  have c0 : co (p.take m) ((p.take m).length - 1) = co p (m - 1) := by rw [lt, co_take, if_pos (by omega)]
  rw [decide_eq_false h0]
  refine iteT ⟨_, rfl, _, rfl, o, _, -1, _, rfl, rfl, SqL.of (s2 _ _ eo), atI_end h0, rfl, _, rfl, ite2 (fun c => ?_) (fun c => ⟨_, rfl, go _ s2 (.inr fun z => c (decide_eq_true (by rw [c0, z])))⟩)⟩
  have c1 : co p (m - 1) = 0 := by rw [← c0]; exact V.int.inj (of_decide_eq_true c)
  obtain ⟨d1, d2⟩ := drop_last h0
  refine ⟨fun σ' H'' => ∃ m', m' < m ∧ σ' = [some (.ref a), some (.ref o)] ∧ Same H H'' ∧ H'' o = some (.lst ((p.take m').map V.int)) ∧ m' ≤ p.length ∧ ∀ i, m' ≤ i → co p i = 0, fun _ _ z => z, ?_⟩
  refine ⟨_, rfl, .inl ⟨rfl, _, SqL.of (s2 _ _ eo)⟩, o, _, _, rfl, rfl, s2 _ _ eo, d1, ?_⟩
  rw [d2]
  refine ⟨m - 1, by omega, rfl, Same.ov no (s1.trans s2), ?_, by omega, fun i hi => ?_⟩
  · rw [upd_same, lt, List.take_take, Nat.min_eq_left (by omega)]
  · by_cases e : i = m - 1
    · rw [e]; exact c1
    · exact hz i (by omega)
theorem ok__law_sum {P : Program} {w : World} {K : PySem.W.Frag}
    {mg : Str → Option Value} {base : Heap} (T : Top K mg)
    (C__law_trim : Cl P w K mg base CX0 1 "_law_trim" s__law_trim ["_law_numbers"] (spTrim)) :
    Cl P w K mg base CX0 2 "_law_sum" s__law_sum ["_law_line_here", "_law_other", "_law_factor"] (spLSum) := by
  refine T.d__law_sum.cl fun f fd F => body_0 F S__law_sum (fun vs H Q E h => by obtain ⟨_, _, _, _, _, rfl, _⟩ := h; rfl) ?_
  intro cdv A out s H vs Q E hG hr h
  obtain ⟨a, b, p, r, f, rfl, ha, hb, hl, hm, hB, hf, q⟩ := h
  refine ⟨_, (pss_cons (ps_set (i := 3) S__law_sum.nd rfl (Or.inl rfl) (pe_callB (call_max2 rfl) (by rfl) T.n_max (by decide +kernel) (pa_cons (pe_callB call_len_seq (by rfl) T.n_len PySem.boot_len (pa_cons (pv 0) pa_nil)) (pa_cons (pe_callB call_len_seq (by rfl) T.n_len PySem.boot_len (pa_cons (pv 1) pa_nil)) pa_nil))))
    (pss_cons (ps_par (i := 4) (j := 5) rfl S__law_sum.nd rfl rfl (by decide) rfl rfl (pa_cons (pe_op op_cat (pv 0) (pe_op op_rep (pe_lst (pa_cons pe_int pa_nil)) (pe_op op_sub (pv 3) (pe_callB call_len_seq (by rfl) T.n_len PySem.boot_len (pa_cons (pv 0) pa_nil))))) (pa_cons (pe_op op_cat (pv 1) (pe_op op_rep (pe_lst (pa_cons pe_int pa_nil)) (pe_op op_sub (pv 3) (pe_callB call_len_seq (by rfl) T.n_len PySem.boot_len (pa_cons (pv 1) pa_nil))))) pa_nil)) (by rfl))
    (pss_one (ps_ret (pe_u C__law_trim hG hr (by decide) (by rfl) pass0 (pa_cons (pe_lc (own := [("_law_one", 6), ("_law_two", 7)]) (g := gTup K 2 (gCons (gName 6) (gCons (gName 7) gNil))) (tt := tYes) rfl S__law_sum.nd (pi_zipS (by rfl) T.n_zip (pa_cons (pv 4) (pa_cons (pv 5) pa_nil))) (blkOk_by (N := ["_law_line_here", "_law_other", "_law_factor", "_law_wide", "_law_near", "_law_far", "_law_one", "_law_two"]) (sc := defScope s__law_sum) (by decide +kernel)) (fun _ _ _ _ _ => (pg_tup rfl (pgs_cons (pg_name (i := 6) S__law_sum.nd rfl (Or.inl rfl)) (pgs_cons (pg_name (i := 7) S__law_sum.nd rfl (Or.inl rfl)) pgs_nil)))) (fun _ _ _ _ _ => pts_nil) (fun _ _ _ _ _ => (pe_op op_add (pv 6) (pe_op op_mulX (pv 2) (pv 7))))) pa_nil)))))), ?_⟩
  refine ⟨_, rfl, a, _, rfl, .inl (SqL.of ha), _, rfl, b, _, rfl, .inl (SqL.of hb), _, _, rfl, ?_⟩
  rw [List.length_map, List.length_map]
  obtain ⟨w, hw⟩ : ∃ w : Nat, (if (r.length : Int) > p.length then (r.length : Int) else p.length) = (w : Nat) ∧ p.length ≤ w ∧ r.length ≤ w ∧ w ≤ 500 := by
    by_cases c : (r.length : Int) > p.length
    · rw [if_pos c]; exact ⟨_, rfl, by omega, by omega, by omega⟩
    · rw [if_neg c]; exact ⟨_, rfl, by omega, by omega, by omega⟩
  obtain ⟨hw, w1, w2, w3⟩ := hw
  rw [hw]
  have sz : ∀ {n : Nat}, n ≤ 1000 → n ≤ sizeLine := fun h => Nat.le_of_lt (small1000 h)
  refine ⟨_, rfl, sz (by show 1 ≤ 1000; decide), fun t nt => ⟨_, rfl, _, rfl, a, _, rfl, .inl (SqL.of (ha.same (Same.put nt))), _, _, rfl, rfl, ?_⟩⟩
  rw [List.length_map]
  have s1 : Same H (upd H t (.lst [.int 0])) := Same.put nt
  refine ⟨t, _, _, rfl, rfl, upd_same, by omega, by omega, sz (by show 1 * _ ≤ 1000; omega), ?_⟩
  rw [show ((w : Int) - p.length).toNat = w - p.length by omega, rep0]
  intro u nu
  have s2 := s1.trans (Same.put (o := .lst ((List.replicate (w - p.length) (0 : Int)).map V.int)) nu)
  refine ⟨a, u, _, _, rfl, rfl, s2 _ _ ha, upd_same, sz (by rw [List.length_map, List.length_map, List.length_replicate]; omega), ?_⟩
  rw [← List.map_append]
  intro x nx
  have s3 := s2.trans (Same.put (o := .lst ((p ++ List.replicate (w - p.length) (0 : Int)).map V.int)) nx)
  refine ⟨_, rfl, sz (by show 1 ≤ 1000; decide), fun t2 nt2 => ⟨_, rfl, _, rfl, b, _, rfl, .inl (SqL.of (hb.same (s3.trans (Same.put nt2)))), _, _, rfl, rfl, ?_⟩⟩
  rw [List.length_map]
  have s4 := s3.trans (Same.put (o := .lst [.int 0]) nt2)
  refine ⟨t2, _, _, rfl, rfl, upd_same, by omega, by omega, sz (by show 1 * _ ≤ 1000; omega), ?_⟩
  rw [show ((w : Int) - r.length).toNat = w - r.length by omega, rep0]
  intro u2 nu2
  have s5 := s4.trans (Same.put (o := .lst ((List.replicate (w - r.length) (0 : Int)).map V.int)) nu2)
  refine ⟨b, u2, _, _, rfl, rfl, s5 _ _ hb, upd_same, sz (by rw [List.length_map, List.length_map, List.length_replicate]; omega), ?_⟩
  rw [← List.map_append]
  intro y ny
  generalize hG6 : upd _ y _ = H6
  have s6 : Same H H6 := by rw [← hG6]; exact s5.trans (Same.put ny)
  -- both as wide as the wider one
  have hx : At false H6 x (p ++ List.replicate (w - p.length) (0 : Int)) := by
    rw [← hG6]; exact Same.put ny _ _ (Same.put nu2 _ _ (Same.put nt2 _ _ upd_same))
  have hy : At false H6 y (r ++ List.replicate (w - r.length) (0 : Int)) := by rw [← hG6]; exact upd_same
  clear hG6
  generalize hX : p ++ List.replicate (w - p.length) (0 : Int) = X at hx
  generalize hY : r ++ List.replicate (w - r.length) (0 : Int) = Y at hy
  have lX : X.length = w := by rw [← hX, List.length_append, List.length_replicate]; omega
  have lY : Y.length = w := by rw [← hY, List.length_append, List.length_replicate]; omega
  refine ⟨_, _, rfl, _, rfl, _, rfl, false, false, x, y, _, _, rfl, hx.sq, hy.sq, fun D nD => ?_⟩
  refine lc_zipS (K := K) (xs := X.map V.int) (ys := Y.map V.int) w (by rw [List.length_map, List.length_map]; omega)
    (fun i H' => Same H6 H' ∧ H' D = some (.lst (((List.zipWith (fun x y => x + f * y) X Y).take i).map V.int))) ⟨Same.put nD, upd_same⟩ (fun i H' _ z => ⟨(hx.same z.1).sq, (hy.same z.1).sq⟩) ?_ ?_
  · rintro i x y U H' hx2 hy2 ⟨z2, eD⟩ nU
    obtain ⟨rfl, lx⟩ := int_at hx2
    obtain ⟨rfl, ly⟩ := int_at hy2
    have z3 := z2.trans (Same.put (o := .tup [.int (co X i), .int (co Y i)]) nU)
    have hy3 : (co Y i).natAbs < 2 ^ big := by rw [← hY, co_pad]; exact hB.co i
    refine ⟨U, _, rfl, SqT.of upd_same, rfl, _, _, rfl, _, _, rfl, rfl, rfl, yesT ⟨_, rfl, _, rfl, _, rfl, _, _, rfl, rfl, mulx_big hf hy3, _, _, rfl, rfl, _, Same.put nU _ _ eD, small1000 (by rw [List.length_map, List.length_take, List.length_zipWith]; omega), Same.ov nD z3, ?_⟩⟩
    rw [upd_same, List.take_add_one, List.getElem?_eq_getElem (by rw [List.length_zipWith]; omega), List.getElem_zipWith, ← co_at lx, ← co_at ly]
    simp
  rintro H2 ⟨z2, eD⟩
  rw [List.take_of_length_le (by rw [List.length_zipWith]; omega)] at eD
  refine ⟨D, _, rfl, eD, by rw [List.length_zipWith]; omega, ?_⟩
  rw [← hX, ← hY, pad_sum f (by omega)]
  exact q.go (s6.trans z2)
theorem ok__law_times {P : Program} {w : World} {K : PySem.W.Frag}
    {mg : Str → Option Value} {base : Heap} (T : Top K mg)
    (C__law_trim : Cl P w K mg base CX0 1 "_law_trim" s__law_trim ["_law_numbers"] (spTrim)) :
    Cl P w K mg base CX0 2 "_law_times" s__law_times ["_law_line_here", "_law_other"] (spLTimes) := by
  refine T.d__law_times.cl fun f fd F => body_0 F S__law_times (fun vs H Q E h => by obtain ⟨_, _, _, _, rfl, _⟩ := h; rfl) ?_
  intro cdv A out s H vs Q E hG hr h
  obtain ⟨a, b, p, r, rfl, ha, hb, hl, hm, hP, hR, q⟩ := h
  refine ⟨_, (pss_cons (ps_set (i := 2) S__law_times.nd rfl (Or.inl rfl) (pe_op op_rep (pe_lst (pa_cons pe_int pa_nil)) (pe_op op_add (pe_callB call_len_seq (by rfl) T.n_len PySem.boot_len (pa_cons (pv 0) pa_nil)) (pe_callB call_len_seq (by rfl) T.n_len PySem.boot_len (pa_cons (pv 1) pa_nil)))))
    (pss_cons (ps_for PassesOwn.never rfl (pi_enumS (by rfl) T.n_enumerate (pa_cons (pv 0) pa_nil)) (pg_tup rfl (pgs_cons (pg_name (i := 3) S__law_times.nd rfl (Or.inl rfl)) (pgs_cons (pg_name (i := 4) S__law_times.nd rfl (Or.inl rfl)) pgs_nil)))
      (pss_one (ps_for PassesOwn.never rfl (pi_enumS (by rfl) T.n_enumerate (pa_cons (pv 1) pa_nil)) (pg_tup rfl (pgs_cons (pg_name (i := 5) S__law_times.nd rfl (Or.inl rfl)) (pgs_cons (pg_name (i := 6) S__law_times.nd rfl (Or.inl rfl)) pgs_nil)))
      (pss_one (ps_asg (pe_op op_add (pe_ix ix_list (pv 2) (pe_op op_add (pv 3) (pv 5)) (fun _ _ => rfl)) (pe_op op_mulX (pv 4) (pv 6))) (pg_sub (pv 2) (pe_op op_add (pv 3) (pv 5)) set_list))))))
    (pss_one (ps_ret (pe_u C__law_trim hG hr (by decide) (by rfl) pass0 (pa_cons (pv 2) pa_nil)))))), ?_⟩
  refine ⟨(by show 1 ≤ sizeLine; decide), fun t nt => ?_⟩
  have s1 : Same H (upd H t (.lst [.int 0])) := Same.put nt
  refine ⟨_, rfl, a, _, rfl, .inl (SqL.of (s1 _ _ ha)), _, rfl, b, _, rfl, .inl (SqL.of (s1 _ _ hb)), _, _, rfl, rfl, ?_⟩
  rw [List.length_map, List.length_map]
  refine ⟨t, _, _, rfl, rfl, upd_same, (by omega), (by omega), (by show 1 * ((p.length : Int) + r.length).toNat ≤ sizeLine; exact Nat.le_of_lt (small1000 (by omega))), ?_⟩
  rw [show ((p.length : Int) + r.length).toNat = p.length + r.length by omega, rep0]
  intro o no
  have s2 : Same H (upd (upd H t (.lst [.int 0])) o (.lst ((List.replicate (p.length + r.length) (0 : Int)).map V.int))) := s1.trans (Same.put no)
  have nH : H o = none := s1.free no
  refine ⟨_, rfl, false, a, _, rfl, (ha.same s2).sq, ?_⟩
  refine for_enumS (K := K) (xs := p.map V.int) (fun i σ H' => ∃ (R : List Int) (y3 y4 y5 y6 : Option V), σ = [some (.ref a), some (.ref b), some (.ref o), y3, y4, y5, y6] ∧
    Same H H' ∧ H' o = some (.lst (R.map V.int)) ∧ R.length = p.length + r.length ∧ ∀ t, t < R.length → co R t = cv (co (p.take i)) (co r) t) ?_ ?_ ?_ ?_
  · exact ⟨_, none, none, none, none, rfl, s2, upd_same, List.length_replicate, fun t _ => by rw [co_rep, List.take_zero, co_nil, cv_zero]⟩
  · rintro i σ H' _ ⟨R, y3, y4, y5, y6, rfl, s3, _⟩
    exact (ha.same s3).sq
  · rintro i x T σ H' hx ⟨R, y3, y4, y5, y6, rfl, s3, eo, lR, hR2⟩ nT
    obtain ⟨rfl, li⟩ := int_at hx
    refine ⟨T, _, rfl, SqT.of upd_same, rfl, _, _, rfl, _, _, rfl, rfl, ?_⟩
    have s4 := s3.trans (Same.put (o := .tup [.int (i : Nat), .int (co p i)]) nT)
    refine ⟨_, rfl, false, b, _, rfl, (hb.same s4).sq, ?_⟩
    refine for_enumS (K := K) (xs := r.map V.int) (fun m σ H' => ∃ (R : List Int) (y5 y6 : Option V), σ = [some (.ref a), some (.ref b), some (.ref o), some (.int (i : Nat)), some (.int (co p i)), y5, y6] ∧
      Same H H' ∧ H' o = some (.lst (R.map V.int)) ∧ R.length = p.length + r.length ∧ ∀ t, t < R.length → co R t = row p r i m t) ?_ ?_ ?_ ?_
    · exact ⟨R, y5, y6, rfl, s4, Same.put nT _ _ eo, lR, fun t ht => by rw [row_0]; exact hR2 t ht⟩
    · rintro m σ H' _ ⟨R, y5, y6, rfl, s3, _⟩
      exact (hb.same s3).sq
    · rintro m y U σ H' hy ⟨R, y5, y6, rfl, s5, eo, lR, hR3⟩ nU
      obtain ⟨rfl, lm⟩ := int_at hy
      have eo2 := Same.put (o := .tup [.int (m : Nat), .int (co r m)]) nU _ _ eo
      have s6 := s5.trans (Same.put (o := .tup [.int (m : Nat), .int (co r m)]) nU)
      obtain ⟨g1, g2⟩ := set_int (p := R) (i := i + m) (by omega) (co R (i + m) + co p i * co r m)
      refine ⟨U, _, rfl, SqT.of upd_same, rfl, _, _, rfl, _, _, rfl, rfl, ?_⟩
      refine ⟨_, rfl, _, rfl, _, rfl, _, _, rfl, rfl, o, _, _, _, rfl, rfl, SqL.of eo2, atI_int (i := i + m) (by omega), _, rfl, _, rfl, _, _, rfl, rfl, mulx_big (hP.co i) (hR.co m), _, _, rfl, rfl, _, rfl, _, rfl, _, rfl, _, _, rfl, rfl, o, _, _, _, rfl, rfl, eo2, g1, ?_⟩
      rw [g2]
      refine ⟨R.set (i + m) (co R (i + m) + co p i * co r m), _, _, rfl, Same.ov nH s6, upd_same, by rw [List.length_set]; exact lR, fun t ht => ?_⟩
      rw [List.length_set] at ht
      rw [co_set (by omega), row_s, hR3 _ (by omega)]
      by_cases e : t = i + m
      · rw [if_pos e, if_pos e, e]
      · rw [if_neg e, if_neg e, hR3 _ ht]
    · rintro σ H' ⟨R, y5, y6, rfl, s5, eo, lR, hR3⟩
      rw [List.length_map] at hR3
      exact ⟨R, _, _, _, _, rfl, s5, eo, lR, fun t ht => by rw [hR3 t ht, row_end li]⟩
  · rintro σ H' ⟨R, y3, y4, y5, y6, rfl, s3, eo, lR, hR2⟩
    rw [List.length_map, List.take_length] at hR2
    refine ⟨_, rfl, o, R, rfl, eo, by omega, ?_⟩
    rw [trim_tab (by omega) hR2]
    exact q.go s3
theorem ok__law_value {P : Program} {w : World} {K : PySem.W.Frag}
    {mg : Str → Option Value} {base : Heap} (T : Top K mg) :
    Cl P w K mg base CX0 1 "_law_value" s__law_value ["_law_line_here", "_law_number"] (spLValue) := by
  refine T.d__law_value.cl fun f fd F => body_0 F S__law_value (fun vs H Q E h => by obtain ⟨_, _, _, rfl, _⟩ := h; rfl) ?_
  intro cdv A out s H vs Q E hG hr h
  obtain ⟨a, p, x, rfl, ha, hl, hb, hx, q⟩ := h
  refine ⟨_, (pss_cons (ps_set (i := 2) S__law_value.nd rfl (Or.inl rfl) pe_int)
    (pss_cons (ps_for PassesOwn.never rfl (pi_list (pe_revS (pv 0))) (pg_name (i := 3) S__law_value.nd rfl (Or.inl rfl))
      (pss_one (ps_set (i := 2) S__law_value.nd rfl (Or.inl rfl) (pe_op op_add (pe_op op_mulX (pv 2) (pv 1)) (pv 3)))))
    (pss_one (ps_ret (pv 2))))), ?_⟩
  refine ⟨_, rfl, false, a, _, rfl, ha.sq, fun H1 r s1 hr1 => ⟨r, rfl, ⟨_, hr1⟩, ?_⟩⟩
  rw [← List.map_reverse] at hr1
  refine for_list (K := K) (xs := p.reverse.map V.int) (fun i σ H' => ∃ y3 : Option V, σ = [some (.ref a), some (.int x), some (.int (ev x (p.reverse.take i).reverse)), y3] ∧ Same H1 H') ?_ ?_ ?_ ?_
  · exact ⟨none, rfl, Same.refl _⟩
  · rintro i σ H' _ ⟨y3, rfl, s2⟩
    exact Same.sq (k := false) s2 hr1
  · rintro i y σ H' hy ⟨y3, rfl, s2⟩
    obtain ⟨rfl, li⟩ := int_at hy
    refine ⟨_, rfl, _, rfl, _, _, rfl, rfl, mulx_big (ev_part i hl hb hx) (pow_big hx (by decide)), _, rfl, _, _, rfl, rfl, some (.int (co p.reverse i)), ?_, s2⟩
    rw [ev_rev x p i (co p.reverse i) (by rw [List.getElem?_eq_getElem li, co_at li])]
    rfl
  · rintro σ H' ⟨y3, rfl, s2⟩
    refine ⟨_, rfl, ?_⟩
    rw [List.length_map, List.take_length, List.reverse_reverse]
    exact q _ (s1.trans s2)
theorem ok__law_slope {P : Program} {w : World} {K : PySem.W.Frag}
    {mg : Str → Option Value} {base : Heap} (T : Top K mg) :
    Cl P w K mg base CX0 1 "_law_slope" s__law_slope ["_law_line_here"] (spLSlope) := by
  refine T.d__law_slope.cl fun f fd F => body_0 F S__law_slope (fun vs H Q E h => by obtain ⟨_, _, rfl, _⟩ := h; rfl) ?_
  intro cdv A out s H vs Q E hG hr h
  obtain ⟨a, p, rfl, ha, hl, hb, q⟩ := h
  refine ⟨_, (pss_one (ps_ret (pe_lc (own := [("_law_at", 1)]) (g := gName 1) (tt := tYes) rfl S__law_slope.nd (pi_range2 (by rfl) T.n_range (pa_cons pe_int (pa_cons (pe_callB call_len_seq (by rfl) T.n_len PySem.boot_len (pa_cons (pv 0) pa_nil)) pa_nil))) (blkOk_by (N := ["_law_line_here", "_law_at"]) (sc := defScope s__law_slope) (by decide +kernel)) (fun _ _ _ _ _ => (pg_name (i := 1) S__law_slope.nd rfl (Or.inl rfl))) (fun _ _ _ _ _ => pts_nil) (fun _ _ _ _ _ => (pe_op op_mulX (pv 1) (pe_ix (ix_listK (K := K) rfl) (pv 0) (pv 1) (fun _ _ => rfl))))))), ?_⟩
  refine ⟨_, rfl, a, _, rfl, .inl (SqL.of ha), ?_⟩
  rw [List.length_map]
  refine ⟨1, (p.length : Nat), rfl, ⟨by omega, by omega, by omega, by omega⟩, ?_⟩
  rw [show ((p.length : Int) - 1).toNat = p.length - 1 by omega]
  intro D nD
  refine lc_range (n := p.length - 1) (fun i H' => Same H H' ∧ H' D = some (.lst (((List.range i).map (dv (co p))).map V.int))) ⟨Same.put nD, upd_same⟩ ?_ ?_
  · rintro i H' hi ⟨s2, eD⟩
    refine ⟨rfl, yesT ⟨_, rfl, _, rfl, _, rfl, a, _, _, _, rfl, rfl, SqL.of (s2 _ _ ha), (by rw [show (1 : Int) + (i : Nat) = ((i + 1 : Nat) : Int) by omega]; exact atI_int (by omega)), _, _, rfl, rfl, mulx_big (int_big (by omega)) (hb.co (i + 1)), _, eD, small1000 (by rw [List.length_map, List.length_map, List.length_range]; omega), Same.ov nD s2, ?_⟩⟩
    rw [upd_same, List.range_succ, List.map_append, List.map_append]
    show some (HO.lst (_ ++ [V.int ((1 + (i : Int)) * co p (i + 1))])) = some (HO.lst (_ ++ [V.int (((i : Int) + 1) * co p (i + 1))]))
    rw [Int.add_comm 1]
  rintro H1 ⟨s1, eD⟩
  exact q _ D s1 nD eD
theorem ok__law_greatest {P : Program} {w : World} {K : PySem.W.Frag}
    {mg : Str → Option Value} {base : Heap} (T : Top K mg) :
    Cl P w K mg base CX0 1 "_law_greatest" s__law_greatest ["_law_some"] (spLGreat) := by
  refine T.d__law_greatest.cl fun f fd F => body_0 F S__law_greatest (fun vs H Q E h => by obtain ⟨_, _, rfl, _⟩ := h; rfl) ?_
  intro cdv A out s H vs Q E hG hr h
  obtain ⟨a, p, rfl, ha, hl, hb, q⟩ := h
  refine ⟨_, (pss_cons (ps_set (i := 1) S__law_greatest.nd rfl (Or.inl rfl) pe_int)
    (pss_cons (ps_for PassesOwn.never rfl (pi_list (pv 0)) (pg_name (i := 2) S__law_greatest.nd rfl (Or.inl rfl))
      (pss_cons (ps_set (i := 3) S__law_greatest.nd rfl (Or.inl rfl) (pe_callB call_abs (by rfl) T.n_abs (by decide +kernel) (pa_cons (pv 2) pa_nil)))
    (pss_one (ps_while PassesOwn.never (pt_cmpR op_ne (pv 3) pe_int (nomark _))
      (pss_one (ps_par (i := 1) (j := 3) rfl S__law_greatest.nd rfl rfl (by decide) rfl rfl (pa_cons (pv 3) (pa_cons (pe_op op_sub (pv 1) (pe_op op_mulX (pe_op op_fdivN (pv 1) (pv 3)) (pv 3))) pa_nil)) (by rfl)))))))
    (pss_one (ps_ret (pv 1))))), ?_⟩
  refine ⟨_, rfl, a, rfl, ⟨_, SqL.of ha⟩, ?_⟩
  refine for_list (K := K) (xs := p.map V.int) (fun i σ H' => ∃ y2 y3 : Option V, σ = [some (.ref a), some (.int (cnt (p.take i) : Nat)), y2, y3] ∧ H' = H ∧ cnt (p.take i) < 1073741824) ?_ ?_ ?_ ?_
  · exact ⟨none, none, rfl, rfl, by rw [List.take_zero]; decide⟩
  · rintro i σ H' _ ⟨y2, y3, rfl, rfl, _⟩
    exact SqL.of ha
  · rintro i y σ H' hy ⟨y2, y3, rfl, rfl, hc⟩
    obtain ⟨rfl, li⟩ := int_at hy
    have bi : (co p i).natAbs < 1073741824 := by rw [co_at li]; exact hb _ (List.getElem_mem li)
    have ea : (if co p i < 0 then -co p i else co p i) = (((co p i).natAbs : Nat) : Int) := by split <;> omega
    refine ⟨_, rfl, _, rfl, ?_⟩
    rw [ea]
    refine ⟨fun m σ H'' => ∃ x y : Nat, σ = [some (.ref a), some (.int (x : Nat)), some (.int (co p i)), some (.int (y : Nat))] ∧ H'' = H' ∧ m = y ∧ x < 1073741824 ∧ y < 1073741824 ∧ Nat.gcd x y = cnt (p.take (i + 1)), ⟨_, _, _, rfl, rfl, rfl, hc, bi, by rw [take_co li, cnt_snoc]⟩, ?_⟩
    rintro m σ H'' ⟨x, y, rfl, rfl, rfl, hx, hy2, hg⟩
    refine ⟨_, rfl, rfl, _, rfl, ?_⟩
    by_cases y0 : m = 0
    · subst y0
      rw [Nat.gcd_zero_right] at hg
      refine ifF (by simp) ⟨_, _, by rw [hg], rfl, by omega⟩
    refine ifT (by simpa using y0) ?_
    obtain ⟨e1, e2, e3⟩ := euclid (x := x) y0
    refine ⟨fun σ' H3 => ∃ m', m' < m ∧ ∃ x y : Nat, σ' = [some (.ref a), some (.int (x : Nat)), some (.int (co p i)), some (.int (y : Nat))] ∧ H3 = H'' ∧ m' = y ∧ x < 1073741824 ∧ y < 1073741824 ∧ Nat.gcd x y = cnt (p.take (i + 1)), fun _ _ z => z, ?_⟩
    have lt : x % m < m := Nat.mod_lt _ (by omega)
    have le := Nat.div_le_self x m
    refine ⟨_, rfl, _, rfl, _, rfl, _, rfl, _, _, rfl, rfl, ⟨by omega, by omega⟩, _, rfl, _, _, rfl, rfl, mulx_big (int_big (by rw [e2, Int.natAbs_natCast]; omega)) (int_big (by omega)), _, _, rfl, rfl, _, _, rfl, x % m, lt, m, x % m, (by rw [← e1]; rfl), rfl, rfl, hy2, by omega, by rw [e3]; exact hg⟩
  · rintro σ H' ⟨y2, y3, rfl, rfl, _⟩
    refine ⟨_, rfl, ?_⟩
    rw [List.length_map, List.take_length]
    exact q
theorem ok__law_plain {P : Program} {w : World} {K : PySem.W.Frag}
    {mg : Str → Option Value} {base : Heap} (T : Top K mg)
    (C__law_greatest : Cl P w K mg base CX0 1 "_law_greatest" s__law_greatest ["_law_some"] (spLGreat)) :
    Cl P w K mg base CX0 2 "_law_plain" s__law_plain ["_law_line_here"] (spLPlain) := by
  refine T.d__law_plain.cl fun f fd F => body_0 F S__law_plain (fun vs H Q E h => by obtain ⟨_, _, rfl, _⟩ := h; rfl) ?_
  intro cdv A out s H vs Q E hG hr h
  obtain ⟨a, p, rfl, ha, hl, hc, hb, q⟩ := h
  refine ⟨_, (pss_cons (ps_set (i := 1) S__law_plain.nd rfl (Or.inr rfl) (pe_u C__law_greatest hG hr (by decide) (by rfl) pass0 (pa_cons (pv 0) pa_nil)))
    (pss_cons (ps_if (pt_cmpR (op_eqD (hu64 hr)) (pv 0) (pe_lst pa_nil) (nomark _))
      (pss_one (ps_ret (pe_lst pa_nil)))
      pss_nil)
    (pss_cons (ps_set (i := 1) S__law_plain.nd rfl (Or.inr rfl) (pe_ifExp (pt_cmpR op_gt (pe_ix ix_list (pv 0) (pe_un un_neg pe_int) (fun _ _ => rfl)) pe_int (nomark _)) (pv 1) (pe_op op_sub pe_int (pv 1))))
    (pss_one (ps_ret (pe_lc (own := [("_law_number", 2)]) (g := gName 2) (tt := tYes) rfl S__law_plain.nd (pi_list (pv 0)) (blkOk_by (N := ["_law_line_here", "_law_common", "_law_number"]) (sc := defScope s__law_plain) (by decide +kernel)) (fun _ _ _ _ _ => (pg_name (i := 2) S__law_plain.nd rfl (Or.inl rfl))) (fun _ _ _ _ _ => pts_nil) (fun _ _ _ _ _ => (pe_op op_fdivN (pv 2) (pv 1))))))))), ?_⟩
  refine ⟨_, rfl, a, p, rfl, ha, hl, hb, _, rfl, (by show 0 ≤ sizeLine; decide), fun e ne => ?_⟩
  have s1 : Same H (upd H e (.lst [])) := Same.put ne
  refine eqL (p := p) (q := []) (s1 _ _ ha) upd_same ⟨_, rfl, ?_⟩
  by_cases hp : p = []
  · subst hp
    exact iteT ⟨(by show 0 ≤ sizeLine; decide), fun t nt => q _ t (s1.trans (Same.put nt)) (s1.free nt) upd_same⟩
  rw [decide_eq_false hp]
  refine iteF ?_
  have h0 := sgc_ne hc hp
  have h1 := sgc_abs p
  have hn : cnt p < 1073741824 := Nat.lt_of_le_of_lt (cnt_le (List.getLast_mem hp) (hc _ (List.getLast?_eq_some_getLast hp))) (hb _ (List.getLast_mem hp))
  have hne := cn_last hc hp
  generalize hg1 : upd H e _ = H1 at s1
  have ha1 : At false H1 a p := ha.same s1
  refine ⟨_, rfl, _, rfl, a, _, -1, _, rfl, rfl, SqL.of ha1, atI_end hp, _, _, rfl, rfl, _, rfl, ite2 (fun c => ?_) (fun c => ?_)⟩
  · have c0 : 0 < co p (p.length - 1) := of_decide_eq_true c
    have hg : sgc p = (cnt p : Int) := if_neg (by omega)
    refine ⟨_, rfl, ?_⟩
    refine ⟨_, rfl, a, rfl, ⟨_, SqL.of ha1⟩, fun D nD => ?_⟩
    refine lc_list (K := K) (xs := p.map V.int) (fun i H' => Same H1 H' ∧ H' D = some (.lst (((plF p).take i).map V.int))) ⟨Same.put nD, upd_same⟩ (fun i H' _ z => SqL.of (ha1.same z.1)) ?_ ?_
    · rintro i x H' hx ⟨s2, eD⟩
      obtain ⟨rfl, li⟩ := int_at hx
      refine ⟨rfl, yesT ⟨_, rfl, _, rfl, _, _, rfl, rfl, ⟨(by show ((cnt p : Nat) : Int) ≠ 0; omega), (by show (((cnt p : Nat) : Int)).natAbs < 1073741824; omega)⟩, _, eD, small1000 (by rw [List.length_map, List.length_take]; omega), Same.ov nD s2, ?_⟩⟩
      have li2 : i < (plF p).length := by rw [plF_length]; exact li
      rw [upd_same, List.take_add_one, List.getElem?_eq_getElem li2, List.map_append]
      simp only [plF, List.getElem_map, ← co_at li, hg, Int.zero_sub]
      rfl
    rintro H2 ⟨s2, eD⟩
    rw [List.length_map, List.take_of_length_le (by rw [plF_length]; exact Nat.le_refl _)] at eD
    exact q _ D (Same.trans s1 s2) (s1.free nD) eD
  · have c0 : ¬ 0 < co p (p.length - 1) := fun z => c (decide_eq_true z)
    have hg : sgc p = -(cnt p : Int) := if_pos (by omega)
    refine ⟨_, rfl, _, _, rfl, rfl, ?_⟩
    refine ⟨_, rfl, a, rfl, ⟨_, SqL.of ha1⟩, fun D nD => ?_⟩
    refine lc_list (K := K) (xs := p.map V.int) (fun i H' => Same H1 H' ∧ H' D = some (.lst (((plF p).take i).map V.int))) ⟨Same.put nD, upd_same⟩ (fun i H' _ z => SqL.of (ha1.same z.1)) ?_ ?_
    · rintro i x H' hx ⟨s2, eD⟩
      obtain ⟨rfl, li⟩ := int_at hx
      refine ⟨rfl, yesT ⟨_, rfl, _, rfl, _, _, rfl, rfl, ⟨(by show (0 : Int) - ((cnt p : Nat) : Int) ≠ 0; omega), (by show ((0 : Int) - ((cnt p : Nat) : Int)).natAbs < 1073741824; omega)⟩, _, eD, small1000 (by rw [List.length_map, List.length_take]; omega), Same.ov nD s2, ?_⟩⟩
      have li2 : i < (plF p).length := by rw [plF_length]; exact li
      rw [upd_same, List.take_add_one, List.getElem?_eq_getElem li2, List.map_append]
      simp only [plF, List.getElem_map, ← co_at li, hg, Int.zero_sub]
      rfl
    rintro H2 ⟨s2, eD⟩
    rw [List.length_map, List.take_of_length_le (by rw [plF_length]; exact Nat.le_refl _)] at eD
    exact q _ D (Same.trans s1 s2) (s1.free nD) eD
theorem ok__law_drawn {P : Program} {w : World} {K : PySem.W.Frag}
    {mg : Str → Option Value} {base : Heap} (T : Top K mg)
    (C__law_draw : Cl P w K mg base CX0 1 "_law_draw" s__law_draw ["_law_pot_here", "_law_many"] (spDraw))
    (C__law_line : Cl P w K mg base CX0 3 "_law_line" s__law_line ["_law_pot_here", "_law_most", "_law_wide"] (spLine)) :
    Cl P w K mg base CX0 4 "_law_drawn" s__law_drawn ["_law_pot_here"] (spDrawn) := by
  refine T.d__law_drawn.cl fun f fd F => body_0 F S__law_drawn (fun vs H Q E h => by obtain ⟨_, rfl, _⟩ := h; rfl) ?_
  intro cdv A out s H vs Q E hG hr h
  obtain ⟨a, rfl, hp, q⟩ := h
  refine ⟨_, (pss_one (ps_ret (pe_ifExp (pt_cmpR op_eq (pe_u C__law_draw hG hr (by decide) (by rfl) pass0 (pa_cons (pv 0) (pa_cons pe_int pa_nil))) pe_int (nomark _)) (pe_lst pa_nil) (pe_u C__law_line hG hr (by decide) (by rfl) pass0 (pa_cons (pv 0) (pa_cons (pe_u C__law_draw hG hr (by decide) (by rfl) pass0 (pa_cons (pv 0) (pa_cons pe_int pa_nil))) (pa_cons pe_int pa_nil))))))), ?_⟩
  refine ⟨_, rfl, a, 8, rfl, hp, by decide, by decide, fun H1 d c1 p1 d0 d1 => ⟨rfl, _, rfl, ite2 (fun c => ?_) (fun c => ?_)⟩⟩
  · refine ⟨(by show 0 ≤ sizeLine; decide), fun r nr => ?_⟩
    have nH : H r = none := by
      cases e : H r with
      | none => rfl
      | some o =>
        have := c1 _ _ (p1.ne nr) e
        rw [nr] at this; cases this
    exact q _ r [] (fun b o nb e => Same.put nr _ _ (c1 _ _ nb e)) (Same.pot (Same.put nr) p1) nH (p1.ne nr) upd_same (by decide) (fun z hz => nomatch hz) cn_nil
  · refine ⟨_, rfl, _, rfl, a, 7, rfl, p1, by decide, by decide, fun H2 n c2 p2 n0 n1 => ?_⟩
    obtain ⟨n, rfl⟩ := Int.eq_ofNat_of_zero_le n0
    refine ⟨a, n, 9, rfl, p2, by omega, by decide, by decide, fun H3 r ns c3 p3 nr ra er ln bn gn => ?_⟩
    have cg : Chg a H H2 := Chg.trans c1 c2
    have nH : H r = none := by
      cases e : H r with
      | none => rfl
      | some o =>
        have := cg _ _ ra e
        rw [nr] at this; cases this
    exact q H3 r ns (Chg.trans cg c3) p3 nH ra er (by omega) (fun z hz => by have := bn z hz; omega) gn
theorem ok__law_pair_right {P : Program} {w : World} {K : PySem.W.Frag}
    {mg : Str → Option Value} {base : Heap} (T : Top K mg)
    (C__law_draw : Cl P w K mg base CX0 1 "_law_draw" s__law_draw ["_law_pot_here", "_law_many"] (spDraw))
    (C__law_slope : Cl P w K mg base CX0 1 "_law_slope" s__law_slope ["_law_line_here"] (spLSlope))
    (C__law_sum : Cl P w K mg base CX0 2 "_law_sum" s__law_sum ["_law_line_here", "_law_other", "_law_factor"] (spLSum))
    (C__law_times : Cl P w K mg base CX0 2 "_law_times" s__law_times ["_law_line_here", "_law_other"] (spLTimes))
    (C__law_value : Cl P w K mg base CX0 1 "_law_value" s__law_value ["_law_line_here", "_law_number"] (spLValue))
    (C_line_less : Cl P w K mg base CX0 5 "line_less" s_line_less ["line", "other"] (spLn2 (fun p q => trim (addF p (sclF (-1) q))) fun _ _ => True))
    (C_line_slope : Cl P w K mg base CX0 4 "line_slope" s_line_slope ["line"] (spLnS))
    (C_line_sum : Cl P w K mg base CX0 5 "line_sum" s_line_sum ["line", "other"] (spLn2 (fun p q => trim (addF p q)) fun _ _ => True))
    (C_line_times : Cl P w K mg base CX0 5 "line_times" s_line_times ["line", "other"] (spLn2 mulF fun p q => (mulF p q).length ≤ 13))
    (C_line_value : Cl P w K mg base CX0 4 "line_value" s_line_value ["line", "number"] (spLnV)) :
    Cl P w K mg base CX0 6 "_law_pair_right" s__law_pair_right ["_law_pot_here", "_law_one", "_law_other"] (spPair) := by
  refine T.d__law_pair_right.cl fun f fd F => body_0 F S__law_pair_right (fun vs H Q E h => by obtain ⟨_, _, _, _, _, rfl, _⟩ := h; rfl) ?_
  intro cdv A out s H vs Q E hG hr h
  obtain ⟨a, b, c, p, r, rfl, hpot, hb, hc, ba, ca, Sp_, Sr, q⟩ := h
  refine ⟨_, (pss_cons (ps_par (i := 3) (j := 4) rfl S__law_pair_right.nd rfl rfl (by decide) rfl rfl (pa_cons (pe_ifExp (pt_cmpR op_eq (pe_u C__law_draw hG hr (by decide) (by rfl) pass0 (pa_cons (pv 0) (pa_cons pe_int pa_nil))) pe_int (nomark _)) (pe_callTy call_tuple_of (by rfl) T.n_tuple (by decide +kernel) (pa_cons (pv 1) pa_nil)) (pe_callTy call_list_of (by rfl) T.n_list (by decide +kernel) (pa_cons (pv 1) pa_nil))) (pa_cons (pe_callTy call_list_of (by rfl) T.n_list (by decide +kernel) (pa_cons (pv 2) pa_nil)) pa_nil)) (by rfl))
    (pss_cons (ps_par (i := 5) (j := 6) rfl S__law_pair_right.nd rfl rfl (by decide) rfl rfl (pa_cons (pe_callB (call_shown hG (hu64 hr)) (by rfl) T.n_repr (by decide +kernel) (pa_cons (pe_lst (pa_cons (pv 3) (pa_cons (pv 4) pa_nil))) pa_nil)) (pa_cons (pe_u C_line_times hG hr (by decide) (by rfl) pass0 (pa_cons (pv 3) (pa_cons (pv 4) pa_nil))) pa_nil)) (by rfl))
    (pss_cons (ps_if ((pw_or (pt_cmpR (op_neD (hu64 hr)) (pe_u C_line_sum hG hr (by decide) (by rfl) pass0 (pa_cons (pv 3) (pa_cons (pv 4) pa_nil))) (pe_u C__law_sum hG hr (by decide) (by rfl) pass0 (pa_cons (pv 1) (pa_cons (pv 2) (pa_cons pe_int pa_nil)))) (nomark _)) (pw_or (pt_cmpR (op_neD (hu64 hr)) (pe_u C_line_less hG hr (by decide) (by rfl) pass0 (pa_cons (pv 3) (pa_cons (pv 4) pa_nil))) (pe_u C__law_sum hG hr (by decide) (by rfl) pass0 (pa_cons (pv 1) (pa_cons (pv 2) (pa_cons (pe_un un_neg pe_int) pa_nil)))) (nomark _)) (pw_or1 (pt_cmpR (op_neD (hu64 hr)) (pv 6) (pe_u C__law_times hG hr (by decide) (by rfl) pass0 (pa_cons (pv 1) (pa_cons (pv 2) pa_nil))) (nomark _)))))).pt
      (pss_one (ps_ret pe_bl))
      pss_nil)
    (pss_cons (ps_if ((pw_or (pt_cmpR (op_neD (hu64 hr)) (pe_uk C_line_sum (kw_line_sum_other_line) hG hr (by decide) (by rfl) pass0 (pk_cons (pv 3) (pk_cons (pv 4) pk_nil))) (pe_u C_line_sum hG hr (by decide) (by rfl) pass0 (pa_cons (pv 3) (pa_cons (pv 4) pa_nil))) (nomark _)) (pw_or (pt_cmpR (op_neD (hu64 hr)) (pe_uk C_line_times (kw_line_times_other_line) hG hr (by decide) (by rfl) pass0 (pk_cons (pv 3) (pk_cons (pv 4) pk_nil))) (pv 6) (nomark _)) (pw_or1 (pt_cmpR (op_neD (hu64 hr)) (pe_u C_line_less hG hr (by decide) (by rfl) pass0 (pa_cons (pv 4) (pa_cons (pv 3) pa_nil))) (pe_u C__law_sum hG hr (by decide) (by rfl) pass0 (pa_cons (pv 2) (pa_cons (pv 1) (pa_cons (pe_un un_neg pe_int) pa_nil)))) (nomark _)))))).pt
      (pss_one (ps_ret pe_bl))
      pss_nil)
    (pss_cons (ps_if (pt_cmpR (op_neD (hu64 hr)) (pe_u C_line_slope hG hr (by decide) (by rfl) pass0 (pa_cons (pv 6) pa_nil)) (pe_u C__law_sum hG hr (by decide) (by rfl) pass0 (pa_cons (pe_u C__law_times hG hr (by decide) (by rfl) pass0 (pa_cons (pe_u C__law_slope hG hr (by decide) (by rfl) pass0 (pa_cons (pv 1) pa_nil)) (pa_cons (pv 2) pa_nil))) (pa_cons (pe_u C__law_times hG hr (by decide) (by rfl) pass0 (pa_cons (pv 1) (pa_cons (pe_u C__law_slope hG hr (by decide) (by rfl) pass0 (pa_cons (pv 2) pa_nil)) pa_nil))) (pa_cons pe_int pa_nil)))) (nomark _))
      (pss_one (ps_ret pe_bl))
      pss_nil)
    (pss_cons (ps_set (i := 7) S__law_pair_right.nd rfl (Or.inl rfl) (pe_op op_sub (pe_u C__law_draw hG hr (by decide) (by rfl) pass0 (pa_cons (pv 0) (pa_cons pe_int pa_nil))) pe_int))
    (pss_cons (ps_set (i := 8) S__law_pair_right.nd rfl (Or.inl rfl) (pe_lst (pa_cons (pe_u C_line_value hG hr (by decide) (by rfl) pass0 (pa_cons (pv 3) (pa_cons (pv 7) pa_nil))) (pa_cons (pe_uk C_line_value (kw_line_value_number_line) hG hr (by decide) (by rfl) pass0 (pk_cons (pv 7) (pk_cons (pv 4) pk_nil))) (pa_cons (pe_u C_line_value hG hr (by decide) (by rfl) pass0 (pa_cons (pv 6) (pa_cons (pv 7) pa_nil))) (pa_cons (pe_u C_line_value hG hr (by decide) (by rfl) pass0 (pa_cons (pe_u C_line_sum hG hr (by decide) (by rfl) pass0 (pa_cons (pv 3) (pa_cons (pv 4) pa_nil))) (pa_cons (pv 7) pa_nil))) pa_nil))))))
    (pss_cons (ps_par (i := 9) (j := 10) rfl S__law_pair_right.nd rfl rfl (by decide) rfl rfl (pa_cons (pe_u C__law_value hG hr (by decide) (by rfl) pass0 (pa_cons (pv 1) (pa_cons (pv 7) pa_nil))) (pa_cons (pe_u C__law_value hG hr (by decide) (by rfl) pass0 (pa_cons (pv 2) (pa_cons (pv 7) pa_nil))) pa_nil)) (by rfl))
    (pss_cons (ps_if ((pw_or (pt_cmpR (op_neD (hu64 hr)) (pv 8) (pe_lst (pa_cons (pv 9) (pa_cons (pv 10) (pa_cons (pe_op op_mulX (pv 9) (pv 10)) (pa_cons (pe_op op_add (pv 9) (pv 10)) pa_nil))))) (nomark _)) (pw_or1 (pt_cmpR op_ne (pe_callB (call_shown hG (hu64 hr)) (by rfl) T.n_repr (by decide +kernel) (pa_cons (pe_lst (pa_cons (pv 3) (pa_cons (pv 4) pa_nil))) pa_nil)) (pv 5) (nomark _))))).pt
      (pss_one (ps_ret pe_bl))
      pss_nil)
    (pss_cons (ps_expr (pe_bm PySem.F.plainAttrs_list PySem.F.slot_list_append PySem.F.type_list_append mt_append (pv 6) (pa_cons pe_int pa_nil)))
    (pss_one (ps_ret (pe_cmpR (op_eqD (hu64 hr)) (pe_u C_line_times hG hr (by decide) (by rfl) pass0 (pa_cons (pv 3) (pa_cons (pv 4) pa_nil))) (pe_u C__law_times hG hr (by decide) (by rfl) pass0 (pa_cons (pv 1) (pa_cons (pv 2) pa_nil))) (nomark _)))))))))))))), ?_⟩
  have sz : ∀ {n : Nat}, n ≤ 1000 → n ≤ sizeLine := fun h => Nat.le_of_lt (small1000 h)
  have lp := Sp_.len
  have lr := Sr.len
  have bp : Bd big p := bd_big Sp_.bd (by decide)
  have br : Bd big r := bd_big Sr.bd (by decide)
  have cm : Cn (mulF p r) := cn_mul Sp_.cn Sr.cn
  have lm : (mulF p r).length ≤ 13 := Nat.le_trans (mulF_le p r) (by omega)
  have bm : Bd 12 (mulF p r) := bd_mul (n := 4) Sp_.bd Sr.bd (by omega)
  have one1 : ((1 : Int)).natAbs < 2 ^ big := int_big (by decide)
  have neg1 : ((-1 : Int)).natAbs < 2 ^ big := int_big (by decide)
  have com : mulF r p = mulF p r := mulF_comm Sr.cn Sp_.cn
  refine ⟨_, rfl, a, 2, rfl, hpot, by decide, by decide, fun H1 d c1 p1 d0 d1 => ⟨rfl, _, rfl, ?_⟩⟩
  have hb1 := hb.chg c1 ba
  have hc1 := hc.chg c1 ca
  refine ite_seq (K := K) (i := 1) rfl hb1 fun k x H2 s2 nx hx => ?_
  have xa : x ≠ a := p1.ne nx
  refine ⟨_, rfl, c, _, rfl, .inl (SqL.of (hc1.same s2)), fun y ny => ⟨_, _, rfl, ?_⟩⟩
  generalize hg : upd H2 y _ = H3
  have s3 : Same H1 H3 := by rw [← hg]; exact s2.trans (Same.put ny)
  have hx3 : At k H3 x p := by rw [← hg]; exact hx.same (Same.put ny)
  have hy3 : At false H3 y r := by rw [← hg]; exact upd_same
  have ya : y ≠ a := p1.ne (s2.free ny)
  clear hg
  have hp3 : PotAt H3 a := Same.pot s3 p1
  -- shown; the product
  refine ⟨_, rfl, _, rfl, sz (by decide : 2 ≤ 1000), fun u nu => ⟨_, _, rfl, sh_two upd_same (hx3.same (Same.put nu)) (hy3.same (Same.put nu)) (fun z hz => by have := Sp_.sm z hz; omega) (fun z hz => by have := Sr.sm z hz; omega) (by omega) (by omega), ?_⟩⟩
  refine ⟨_, rfl, _, rfl, k, false, x, y, p, r, rfl, (Sp_.ln hx3).same (Same.put nu), (Sr.ln hy3).same (Same.put nu), lm, fun H4 o s4 no eo => ⟨_, _, rfl, ?_⟩⟩
  have s34 : Same H3 H4 := (Same.put nu).trans s4
  have no3 : H3 o = none := Same.free (Same.put nu) no
  have S4 : Same H1 H4 := s3.trans s34
  have nH : H o = none := c1.free (p1.ne (s3.free no3)) (s3.free no3)
  have oa : o ≠ a := p1.ne (s3.free no3)
  have hx4 := hx3.same s34
  have hy4 := hy3.same s34
  have hb4 := hb1.same S4
  have hc4 := hc1.same S4
  have ho4 : At false H4 o (mulF p r) := eo
  -- sums, differences, products
  refine ⟨_, rfl, _, rfl, k, false, x, y, p, r, rfl, Sp_.ln hx4, Sr.ln hy4, trivial, fun H5 e1 t5 _ g1 => ?_⟩
  refine ⟨_, rfl, _, rfl, b, c, p, r, 1, rfl, hb4.same t5, hc4.same t5, by omega, by omega, br, one1, fun H6 e2 t6 _ g2 => ?_⟩
  refine neL (At.same (k := false) t6 g1) g2 ⟨_, rfl, ifF (by rw [scl_1]; simp) ?_⟩
  have T6 := Same.trans t5 t6
  refine ⟨_, rfl, _, rfl, k, false, x, y, p, r, rfl, (Sp_.ln hx4).same T6, (Sr.ln hy4).same T6, trivial, fun H7 e3 t7 _ g3 => ?_⟩
  have T7 := Same.trans T6 t7
  refine ⟨_, rfl, _, rfl, _, rfl, b, c, p, r, -1, rfl, hb4.same T7, hc4.same T7, by omega, by omega, br, neg1, fun H8 e4 t8 _ g4 => ?_⟩
  refine neL (At.same (k := false) t8 g3) g4 ⟨_, rfl, ifF (by simp) ?_⟩
  have T8 := Same.trans T7 t8
  refine ⟨_, rfl, _, rfl, _, rfl, b, c, p, r, rfl, hb4.same T8, hc4.same T8, by omega, by omega, bp, br, fun H9 e5 t9 _ g5 => ?_⟩
  have T9 := Same.trans T8 t9
  refine neL (ho4.same T9) g5 ⟨_, rfl, ifF (by rw [trim_cn cm]; simp) ?_⟩
  -- in the other sequence, by names
  refine ⟨_, rfl, _, rfl, false, k, y, x, r, p, rfl, (Sr.ln hy4).same T9, (Sp_.ln hx4).same T9, trivial, fun Ha f1 ta _ h1 => ?_⟩
  have Ta := Same.trans T9 ta
  refine ⟨_, rfl, _, rfl, k, false, x, y, p, r, rfl, (Sp_.ln hx4).same Ta, (Sr.ln hy4).same Ta, trivial, fun Hb f2 tb _ h2 => ?_⟩
  have Tb := Same.trans Ta tb
  refine neL (At.same (k := false) tb h1) h2 ⟨_, rfl, ifF (by show (!decide (trim (addF r p) = trim (addF p r))) = false; rw [addF_comm]; simp) ?_⟩
  refine ⟨_, rfl, _, rfl, false, k, y, x, r, p, rfl, (Sr.ln hy4).same Tb, (Sp_.ln hx4).same Tb, (by show (mulF r p).length ≤ 13; rw [com]; exact lm), fun Hc f3 tc _ h3 => ?_⟩
  have Tc := Same.trans Tb tc
  refine ⟨_, rfl, neL h3 (ho4.same Tc) ⟨_, rfl, ifF (by rw [com]; simp) ?_⟩⟩
  refine ⟨_, rfl, _, rfl, false, k, y, x, r, p, rfl, (Sr.ln hy4).same Tc, (Sp_.ln hx4).same Tc, trivial, fun Hd f4 td _ h4 => ?_⟩
  have Td := Same.trans Tc td
  refine ⟨_, rfl, _, rfl, _, rfl, c, b, r, p, -1, rfl, hc4.same Td, hb4.same Td, by omega, by omega, bp, neg1, fun He f5 te _ h5 => ?_⟩
  have Te := Same.trans Td te
  refine neL (At.same (k := false) te h4) h5 ⟨_, rfl, ifF (by simp) ?_⟩
  -- slopes
  refine ⟨_, rfl, false, o, mulF p r, rfl, ⟨ho4.same Te, cm, lm, bm.mono (by decide)⟩, fun Hf j1 tf _ i1 => ?_⟩
  have Tf := Same.trans Te tf
  have bsp : Bd 7 (slF p) := bd_sl (n := 3) Sp_.bd (by omega)
  have bsr : Bd 7 (slF r) := bd_sl (n := 3) Sr.bd (by omega)
  have lsp : (slF p).length ≤ 7 := by rw [slF_length]; omega
  have lsr : (slF r).length ≤ 7 := by rw [slF_length]; omega
  refine ⟨_, rfl, b, p, rfl, hb4.same Tf, by omega, bp, fun Hg j2 tg _ i2 => ?_⟩
  have Tg := Same.trans Tf tg
  refine ⟨_, rfl, j2, c, slF p, r, rfl, i2, hc4.same Tg, by omega, by omega, bd_big bsp (by decide), br, fun Hh j3 th _ i3 => ?_⟩
  have Th := Same.trans Tg th
  refine ⟨_, rfl, _, rfl, c, r, rfl, hc4.same Th, by omega, br, fun Hi j4 ti _ i4 => ?_⟩
  have Ti := Same.trans Th ti
  refine ⟨b, j4, p, slF r, rfl, hb4.same Ti, i4, by omega, by omega, bp, bd_big bsr (by decide), fun Hj j5 tj _ i5 => ?_⟩
  have Tj := Same.trans Ti tj
  have b1 : Bd 15 (mulF (slF p) r) := bd_mul (n := 4) bsp Sr.bd (by omega)
  have b2 : Bd 15 (mulF p (slF r)) := bd_mul (n := 4) Sp_.bd bsr (by omega)
  have l1 : (trim (mulF (slF p) r)).length ≤ 500 := Nat.le_trans (trim_length _) (Nat.le_trans (mulF_le _ _) (by omega))
  have l2 : (trim (mulF p (slF r))).length ≤ 500 := Nat.le_trans (trim_length _) (Nat.le_trans (mulF_le _ _) (by omega))
  refine ⟨j3, j5, _, _, 1, rfl, At.same (k := false) (Same.trans ti tj) i3, i5, l1, l2, bd_trim (bd_big b2 (by decide)), one1, fun Hk j6 tk _ i6 => ?_⟩
  have Tk := Same.trans Tj tk
  refine neL (At.same (k := false) (Same.trans (Same.trans (Same.trans (Same.trans tg th) ti) tj) tk) i1) i6 ⟨_, rfl, ifF (by rw [scl_1, trim_cn (cn_mul (cn_sl Sp_.cn) Sr.cn), trim_cn (cn_mul Sp_.cn (cn_sl Sr.cn)), sl_mul Sp_.cn Sr.cn]; simp) ?_⟩
  -- a place
  have Hpk : PotAt Hk a := Same.pot Tk (Same.pot S4 p1)
  refine ⟨_, rfl, a, 15, rfl, Hpk, by decide, by decide, fun Hl d2 c2 p2 e0 e1 => ⟨_, _, rfl, rfl, ?_⟩⟩
  have hx0 : (d2 - 7).natAbs < 2 ^ 4 := by omega
  have hx1 : (d2 - 7).natAbs < 2 ^ 1000 := Nat.lt_of_lt_of_le hx0 (Nat.pow_le_pow_right (by decide) (by decide))
  have hx5 := (hx4.same Tk).chg c2 xa
  have hy5 := (hy4.same Tk).chg c2 ya
  have hb5 := (hb4.same Tk).chg c2 ba
  have hc5 := (hc4.same Tk).chg c2 ca
  have ho5 : At false Hl o (mulF p r) := (ho4.same Tk).chg c2 oa
  have lnm : ∀ {K1 : Hp}, At false K1 o (mulF p r) → Ln false K1 o (mulF p r) := fun h => ⟨h, cm, lm, bm.mono (by decide)⟩
  have lns : ∀ {K1 : Hp} {e : Addr}, At false K1 e (trim (addF p r)) → Ln false K1 e (trim (addF p r)) := fun h =>
    ⟨h, cn_trim _, Nat.le_trans (trim_length _) (by rw [addF_length]; omega), (bd_trim (bd_add Sp_.bd Sr.bd)).mono (by decide)⟩
  generalize hz : d2 - 7 = x0 at hx0 hx1
  refine ⟨_, rfl, _, rfl, k, x, p, x0, by rw [← hz]; rfl, Sp_.ln hx5, hx1, fun M1 v1 => ?_⟩
  refine ⟨_, rfl, _, rfl, false, y, r, x0, by rw [← hz]; rfl, (Sr.ln hy5).same v1, hx1, fun M2 v2 => ?_⟩
  have V2 := Same.trans v1 v2
  refine ⟨_, rfl, _, rfl, false, o, mulF p r, x0, by rw [← hz]; rfl, lnm (ho5.same V2), hx1, fun M3 v3 => ?_⟩
  have V3 := Same.trans V2 v3
  refine ⟨_, rfl, _, rfl, k, false, x, y, p, r, rfl, (Sp_.ln hx5).same V3, (Sr.ln hy5).same V3, trivial, fun M4 e6 v4 _ m1 => ?_⟩
  refine ⟨_, rfl, false, e6, trim (addF p r), x0, by rw [← hz]; rfl, lns m1, hx1, fun M5 v5 => ⟨sz (by decide : 4 ≤ 1000), fun L nL => ?_⟩⟩
  have V5 := Same.trans (Same.trans V3 v4) v5
  generalize hg : upd M5 L _ = M6
  have v6 : Same M5 M6 := by rw [← hg]; exact Same.put nL
  have hL : At false M6 L [ev x0 p, ev x0 r, ev x0 (mulF p r), ev x0 (trim (addF p r))] := by rw [← hg]; exact upd_same
  clear hg
  have V6 := Same.trans V5 v6
  refine ⟨_, rfl, _, rfl, b, p, x0, by rw [← hz]; rfl, hb5.same V6, by omega, Sp_.bd.mono (by decide), hx1, fun M7 v7 => ?_⟩
  have V7 := Same.trans V6 v7
  refine ⟨_, rfl, _, rfl, c, r, x0, by rw [← hz]; rfl, hc5.same V7, by omega, Sr.bd.mono (by decide), hx1, fun M8 v8 => ⟨_, _, rfl, ?_⟩⟩
  have V8 := Same.trans V7 v8
  have evp : (ev x0 p).natAbs < 2 ^ big := pow_big (ev_bd x0 hx0 p Sp_.bd) (by omega)
  have evr : (ev x0 r).natAbs < 2 ^ big := pow_big (ev_bd x0 hx0 r Sr.bd) (by omega)
  refine ⟨_, rfl, _, rfl, _, rfl, _, rfl, _, rfl, _, _, rfl, rfl, mulx_big evp evr, _, rfl, _, rfl, _, _, rfl, rfl, sz (by decide : 4 ≤ 1000), fun L2 nL2 => ?_⟩
  refine neL (p := [ev x0 p, ev x0 r, ev x0 (mulF p r), ev x0 (trim (addF p r))]) (q := [ev x0 p, ev x0 r, ev x0 p * ev x0 r, ev x0 p + ev x0 r])
    (hL.same (Same.trans (Same.trans v7 v8) (Same.put nL2))) upd_same ⟨_, rfl, ifF (by rw [ev_mul, ev_trim, ev_add]; simp) ?_⟩
  generalize hg : upd M8 L2 _ = M9
  have v9 : Same M8 M9 := by rw [← hg]; exact Same.put nL2
  clear hg
  have V9 := Same.trans V8 v9
  refine ⟨_, rfl, _, rfl, sz (by decide : 2 ≤ 1000), fun u2 nu2 => ⟨_, _, rfl, sh_two upd_same ((hx5.same V9).same (Same.put nu2)) ((hy5.same V9).same (Same.put nu2)) (fun z hz => by have := Sp_.sm z hz; omega) (fun z hz => by have := Sr.sm z hz; omega) (by omega) (by omega), _, rfl, rfl, _, rfl, ifF (by simp) ?_⟩⟩
  generalize hg : upd M9 u2 _ = MA
  have vA : Same M9 MA := by rw [← hg]; exact Same.put nu2
  clear hg
  have VA := Same.trans V9 vA
  -- what was told is its own
  have hoA : MA o = some (.lst ((mulF p r).map V.int)) := ho5.same VA
  refine ⟨_, rfl, .inl ⟨rfl, _, SqL.of hoA⟩, o, _, _, rfl, rfl, hoA, small1000 (by rw [List.length_map]; omega), ?_⟩
  have hxB := (hx5.same VA).ovn (v := .lst ((mulF p r).map V.int ++ [.int 1])) (hx3.ne no3)
  have hyB := (hy5.same VA).ovn (v := .lst ((mulF p r).map V.int ++ [.int 1])) (hy3.ne no3)
  have hbB := (hb5.same VA).ovn (v := .lst ((mulF p r).map V.int ++ [.int 1])) ((hb1.same s3).ne no3)
  have hcB := (hc5.same VA).ovn (v := .lst ((mulF p r).map V.int ++ [.int 1])) ((hc1.same s3).ne no3)
  have pB : PotAt (upd MA o (.lst ((mulF p r).map V.int ++ [.int 1]))) a := PotAt.ovn (Same.pot VA p2) oa.symm
  have cB : Chg a H (upd MA o (.lst ((mulF p r).map V.int ++ [.int 1]))) := Chg.ov nH (Chg.trans (Chg.trans (Chg.trans c1 (.of (Same.trans S4 Tk))) c2) (.of VA))
  refine ⟨_, rfl, _, rfl, k, false, x, y, p, r, rfl, Sp_.ln hxB, Sr.ln hyB, lm, fun N1 e7 w1 _ n1 => ?_⟩
  refine ⟨_, rfl, _, rfl, b, c, p, r, rfl, hbB.same w1, hcB.same w1, by omega, by omega, bp, br, fun N2 e8 w2 _ n2 => ?_⟩
  refine eqL (At.same (k := false) w2 n1) n2 ?_
  rw [trim_cn cm, decide_eq_true rfl]
  exact q N2 (Chg.trans cB (.of (Same.trans w1 w2))) (Same.pot (Same.trans w1 w2) pB)
theorem ok__law_one_right {P : Program} {w : World} {K : PySem.W.Frag}
    {mg : Str → Option Value} {base : Heap} (T : Top K mg)
    (C__law_pick : Cl P w K mg base CX0 2 "_law_pick" s__law_pick ["_law_pot_here", "_law_some"] (spPick K))
    (C__law_plain : Cl P w K mg base CX0 2 "_law_plain" s__law_plain ["_law_line_here"] (spLPlain))
    (C__law_slope : Cl P w K mg base CX0 1 "_law_slope" s__law_slope ["_law_line_here"] (spLSlope))
    (C_degree : Cl P w K mg base CX0 4 "degree" s_degree ["line"] (spDegree))
    (C_line_less : Cl P w K mg base CX0 5 "line_less" s_line_less ["line", "other"] (spLn2 (fun p q => trim (addF p (sclF (-1) q))) fun _ _ => True))
    (C_line_slope : Cl P w K mg base CX0 4 "line_slope" s_line_slope ["line"] (spLnS))
    (C_line_sum : Cl P w K mg base CX0 5 "line_sum" s_line_sum ["line", "other"] (spLn2 (fun p q => trim (addF p q)) fun _ _ => True))
    (C_line_times : Cl P w K mg base CX0 5 "line_times" s_line_times ["line", "other"] (spLn2 mulF fun p q => (mulF p q).length ≤ 13))
    (C_plain_line : Cl P w K mg base CX0 4 "plain_line" s_plain_line ["line"] (spLnP)) :
    Cl P w K mg base CX0 6 "_law_one_right" s__law_one_right ["_law_pot_here", "_law_one"] (spOne) := by
  refine T.d__law_one_right.cl fun f fd F => body_0 F S__law_one_right (fun vs H Q E h => by obtain ⟨_, _, _, rfl, _⟩ := h; rfl) ?_
  intro cdv A out s H vs Q E hG hr h
  obtain ⟨a, b, p, rfl, hpot, hb, ba, Sp_, q⟩ := h
  refine ⟨_, (pss_cons (ps_set (i := 2) S__law_one_right.nd rfl (Or.inr rfl) (pe_u C__law_pick hG hr (by decide) (by rfl) pass0 (pa_cons (pv 0) (pa_cons (pe_lst (pa_cons pe_int (pa_cons (pe_un un_neg pe_int) (pa_cons pe_int (pa_cons (pe_un un_neg pe_int) (pa_cons pe_int pa_nil)))))) pa_nil))))
    (pss_cons (ps_setLc (i := 3) (own := [("_law_coefficient", 5)]) (g := gName 5) (tt := tYes) rfl S__law_one_right.nd rfl rfl (sw_true rfl rfl rfl (by decide +kernel)) (pi_list (pv 1)) (blkOk_by (N := ["_law_pot_here", "_law_one", "_law_number", "_law_many", "_law_told", "_law_coefficient"]) (sc := defScope s__law_one_right) (by decide +kernel)) (fun _ _ _ _ _ => (pg_name (i := 5) S__law_one_right.nd rfl (Or.inl rfl))) (fun _ _ _ _ _ => pts_nil) (fun _ _ _ _ _ => (pe_op op_mulX (pv 2) (pv 5))))
    (pss_cons (ps_if ((pw_or (pt_cmpR op_ne (pe_u C_degree hG hr (by decide) (by rfl) pass0 (pa_cons (pv 1) pa_nil)) (pe_op op_sub (pe_callB call_len_seq (by rfl) T.n_len PySem.boot_len (pa_cons (pv 1) pa_nil)) pe_int) (nomark _)) (pw_or (pt_cmpR op_ne (pe_uk C_degree (kw_degree_line) hG hr (by decide) (by rfl) pass0 (pk_cons (pv 3) pk_nil)) (pe_op op_sub (pe_callB call_len_seq (by rfl) T.n_len PySem.boot_len (pa_cons (pv 1) pa_nil)) pe_int) (nomark _)) (pw_or1 (pt_cmpR (op_neD (hu64 hr)) (pe_u C_line_slope hG hr (by decide) (by rfl) pass0 (pa_cons (pv 1) pa_nil)) (pe_u C__law_slope hG hr (by decide) (by rfl) pass0 (pa_cons (pv 1) pa_nil)) (nomark _)))))).pt
      (pss_one (ps_ret pe_bl))
      pss_nil)
    (pss_cons (ps_set (i := 4) S__law_one_right.nd rfl (Or.inl rfl) (pe_u C_plain_line hG hr (by decide) (by rfl) pass0 (pa_cons (pv 3) pa_nil)))
    (pss_cons (ps_if ((pw_or (pt_cmpR (op_neD (hu64 hr)) (pv 4) (pe_u C__law_plain hG hr (by decide) (by rfl) pass0 (pa_cons (pv 1) pa_nil)) (nomark _)) (pw_or (pt_cmpR (op_neD (hu64 hr)) (pe_uk C_plain_line (kw_plain_line_line) hG hr (by decide) (by rfl) pass0 (pk_cons (pv 4) pk_nil)) (pv 4) (nomark _)) (pw_or (pt_cmpR (op_neD (hu64 hr)) (pe_u C_line_less hG hr (by decide) (by rfl) pass0 (pa_cons (pv 1) (pa_cons (pv 1) pa_nil))) (pe_lst pa_nil) (nomark _)) (pw_or1 (pt_cmpR (op_neD (hu64 hr)) (pe_u C_line_sum hG hr (by decide) (by rfl) pass0 (pa_cons (pv 1) (pa_cons (pe_lst pa_nil) pa_nil))) (pv 1) (nomark _))))))).pt
      (pss_one (ps_ret pe_bl))
      pss_nil)
    (pss_cons (ps_expr (pe_bm PySem.F.plainAttrs_list PySem.F.slot_list_append PySem.F.type_list_append mt_append (pv 4) (pa_cons pe_int pa_nil)))
    (pss_one (ps_ret (pe_and (pe_cmpR (op_eqD (hu64 hr)) (pe_u C_plain_line hG hr (by decide) (by rfl) pass0 (pa_cons (pv 3) pa_nil)) (pe_u C__law_plain hG hr (by decide) (by rfl) pass0 (pa_cons (pv 1) pa_nil)) (nomark _)) (pe_and (pe_cmpR (op_eqD (hu64 hr)) (pe_u C_line_times hG hr (by decide) (by rfl) pass0 (pa_cons (pv 1) (pa_cons (pe_lst (pa_cons (pv 2) pa_nil)) pa_nil))) (pv 3) (nomark _)) (pe_one (pe_cmpR (op_eqD (hu64 hr)) (pe_u C_line_times hG hr (by decide) (by rfl) pass0 (pa_cons (pe_lst pa_nil) (pa_cons (pv 1) pa_nil))) (pe_lst pa_nil) (nomark _))))))))))))), ?_⟩
  have sz : ∀ {n : Nat}, n ≤ 1000 → n ≤ sizeLine := fun h => Nat.le_of_lt (small1000 h)
  have lp := Sp_.len
  have bp : Bd big p := bd_big Sp_.bd (by decide)
  refine ⟨_, rfl, _, rfl, _, rfl, sz (by decide : 5 ≤ 1000), fun u nu => ?_⟩
  have s1 : Same H (upd H u (.lst [.int 1, .int (-1), .int 2, .int (-6), .int 12])) := Same.put nu
  refine ⟨a, u, _, rfl, Same.pot s1 hpot, hpot.ne nu, SqL.of upd_same, List.cons_ne_nil _ _, (by show 5 ≤ 1000; decide), fun H2 z c2 p2 hz => ?_⟩
  obtain ⟨n, rfl, n0, hn⟩ : ∃ n : Int, z = .int n ∧ n ≠ 0 ∧ n.natAbs ≤ 12 := by
    simp only [List.mem_cons, List.not_mem_nil, or_false] at hz
    rcases hz with h | h | h | h | h
    · exact ⟨1, h, by decide, by decide⟩
    · exact ⟨-1, h, by decide, by decide⟩
    · exact ⟨2, h, by decide, by decide⟩
    · exact ⟨-6, h, by decide, by decide⟩
    · exact ⟨12, h, by decide, by decide⟩
  have hb2 : At false H2 b p := (hb.same s1).chg c2 ba
  have c1 : Chg a H H2 := Chg.trans (.of s1) c2
  have hn4 : n.natAbs < 2 ^ 4 := Nat.lt_of_le_of_lt hn (by decide)
  have cs : Cn (sclF n p) := cn_scl n0 Sp_.cn
  have ls : (sclF n p).length ≤ 7 := by simpa [sclF] using lp
  have bs : Bd 8 (sclF n p) := bd_scl (j := 4) (k := 4) hn4 Sp_.bd
  have ks : cnt (sclF n p) < 1073741824 := by
    rw [cnt_scl]
    have h1 := Nat.mul_le_mul hn Sp_.cnt
    omega
  have kp := Sp_.cnt
  have pe := pl_times (p := p) Sp_.cn n0
  have cp := cn_pl Sp_.cn
  have lq : (plF p).length ≤ 7 := by rw [plF_length]; exact lp
  have bq : Bd 4 (plF p) := bd_pl Sp_.cn Sp_.bd
  have kq : cnt (plF p) < 1073741824 := by
    by_cases e : p = []
    · rw [e]; decide
    · rw [pl_cnt Sp_.cn e]; decide
  refine ⟨_, rfl, b, rfl, ⟨_, SqL.of hb2⟩, fun D nD => ?_⟩
  refine lc_list (K := K) (xs := p.map V.int) (fun i H' => Same H2 H' ∧ H' D = some (.lst ((sclF n (p.take i)).map V.int))) ⟨Same.put nD, upd_same⟩ (fun i H' _ z => SqL.of (hb2.same z.1)) ?_ ?_
  · rintro i x H' hx ⟨s2, eD⟩
    obtain ⟨rfl, li⟩ := int_at hx
    refine ⟨rfl, yesT ⟨_, rfl, _, rfl, _, _, rfl, rfl, mulx_big (pow_big hn4 (by decide)) (bp.co i), _, eD, small1000 (by simp [sclF]; omega), Same.ov nD s2, ?_⟩⟩
    rw [upd_same, take_co li]; simp [sclF]
  rintro H3 ⟨s3, eD⟩
  rw [List.length_map, List.take_length] at eD
  have hb3 : At false H3 b p := hb2.same s3
  have hD3 : At false H3 D (sclF n p) := eD
  have lns : ∀ {K1 : Hp}, At false K1 D (sclF n p) → Ln false K1 D (sclF n p) := fun h => ⟨h, cs, by omega, bs.mono (by decide)⟩
  have lnq : ∀ {K1 : Hp} {o : Addr}, At false K1 o (plF p) → Ln false K1 o (plF p) := fun h => ⟨h, cp, by omega, bq.mono (by decide)⟩
  -- degrees, slopes
  refine ⟨_, rfl, false, b, p, rfl, Sp_.ln hb3, fun H4 t4 => ⟨_, rfl, b, _, rfl, .inl (SqL.of (hb3.same t4)), _, _, rfl, rfl, rfl, _, rfl, ifF (by rw [List.length_map]; simp) ?_⟩⟩
  refine ⟨_, rfl, false, D, sclF n p, rfl, lns (hD3.same t4), fun H5 t5 => ?_⟩
  have T5 := Same.trans t4 t5
  refine ⟨_, rfl, b, _, rfl, .inl (SqL.of (hb3.same T5)), _, _, rfl, rfl, rfl, _, rfl, ifF (by rw [List.length_map]; simp [sclF]) ?_⟩
  refine ⟨_, rfl, false, b, p, rfl, (Sp_.ln hb3).same T5, fun H6 e6 t6 _ g6 => ?_⟩
  have T6 := Same.trans T5 t6
  refine ⟨_, rfl, b, p, rfl, hb3.same T6, by omega, bp, fun H7 e7 t7 _ g7 => ?_⟩
  have T7 := Same.trans T6 t7
  refine neL (At.same (k := false) t7 g6) g7 ⟨_, rfl, ifF (by simp) ?_⟩
  -- plain
  refine ⟨_, rfl, D, sclF n p, rfl, lns (hD3.same T7), ks, fun H8 o t8 no eo => ?_⟩
  rw [pe] at eo
  have T8 := Same.trans T7 t8
  have ho8 : At false H8 o (plF p) := eo
  refine ⟨_, rfl, _, rfl, b, p, rfl, hb3.same T8, by omega, Sp_.cn, fun z hz => by have := Sp_.sm z hz; omega, fun H9 e9 t9 _ g9 => ?_⟩
  have T9 := Same.trans T8 t9
  refine neL (ho8.same t9) g9 ⟨_, rfl, ifF (by simp) ?_⟩
  refine ⟨_, rfl, o, plF p, rfl, lnq (ho8.same t9), kq, fun HA eA tA _ gA => ?_⟩
  have U1 := Same.trans t9 tA
  refine ⟨_, rfl, neL gA (ho8.same U1) ⟨_, rfl, ifF (by rw [pl_pl Sp_.cn]; simp) ?_⟩⟩
  have TA := Same.trans T8 U1
  refine ⟨_, rfl, _, rfl, false, false, b, b, p, p, rfl, (Sp_.ln hb3).same TA, (Sp_.ln hb3).same TA, trivial, fun HB eB tB _ gB => ⟨sz (by decide : 0 ≤ 1000), fun L nL => ?_⟩⟩
  refine neL (q := []) (At.same (k := false) (Same.put nL) gB) upd_same ⟨_, rfl, ifF (by show (!decide (trim (addF p (sclF (-1) p)) = [])) = false; rw [less_self]; simp) ?_⟩
  have UB := Same.trans (Same.trans U1 tB) (Same.put (o := .lst []) nL)
  have TB := Same.trans T8 UB
  refine ⟨_, rfl, sz (by decide : 0 ≤ 1000), fun L2 nL2 => ?_⟩
  have UC := Same.trans UB (Same.put (o := .lst []) nL2)
  have TC := Same.trans T8 UC
  have nilL : ∀ {K1 : Hp} {o : Addr}, At false K1 o [] → Ln false K1 o [] := fun h => ⟨h, cn_nil, by decide, fun z hz => nomatch hz⟩
  refine ⟨false, false, b, L2, p, [], rfl, (Sp_.ln hb3).same TC, nilL upd_same, trivial, fun HD eD2 tD _ gD => ?_⟩
  have UD := Same.trans UC tD
  have TD := Same.trans T8 UD
  refine ⟨_, rfl, neL gD (hb3.same TD) ⟨_, rfl, ifF (by show (!decide (trim (addF p []) = p)) = false; rw [sum_nil Sp_.cn]; simp) ?_⟩⟩
  -- what was told is its own
  have hoD : HD o = some (.lst ((plF p).map V.int)) := ho8.same UD
  refine ⟨_, rfl, .inl ⟨rfl, _, SqL.of hoD⟩, o, _, _, rfl, rfl, hoD, small1000 (by rw [List.length_map]; omega), ?_⟩
  have no3 : H3 o = none := Same.free T7 no
  have nH : H o = none := c1.free (p2.ne (Same.free s3 no3)) (Same.free s3 no3)
  have oa : o ≠ a := p2.ne (Same.free s3 no3)
  have hbE := (hb3.same TD).ovn (v := .lst ((plF p).map V.int ++ [.int 1])) (hb3.ne no3)
  have hDE := (hD3.same TD).ovn (v := .lst ((plF p).map V.int ++ [.int 1])) (hD3.ne no3)
  have pE : PotAt (upd HD o (.lst ((plF p).map V.int ++ [.int 1]))) a := PotAt.ovn (Same.pot (Same.trans s3 TD) p2) oa.symm
  have cE : Chg a H (upd HD o (.lst ((plF p).map V.int ++ [.int 1]))) := Chg.ov nH (Chg.trans c1 (.of (Same.trans s3 TD)))
  refine ⟨_, rfl, D, sclF n p, rfl, lns hDE, ks, fun N1 f1 w1 _ k1 => ?_⟩
  rw [pe] at k1
  refine ⟨_, rfl, b, p, rfl, hbE.same w1, by omega, Sp_.cn, fun z hz => by have := Sp_.sm z hz; omega, fun N2 f2 w2 _ k2 => ?_⟩
  have W2 := Same.trans w1 w2
  refine eqL (At.same (k := false) w2 k1) k2 ⟨_, rfl, ifT (by simp) ?_⟩
  have numL : ∀ {K1 : Hp} {o : Addr}, At false K1 o [n] → Ln false K1 o [n] := fun h => by
    refine ⟨h, fun z hz => ?_, (by decide : 1 ≤ 13), fun z hz => ?_⟩
    · have e : n = z := by simpa using hz
      rw [← e]; exact n0
    · have e : z = n := by simpa using hz
      rw [e]; exact Nat.lt_of_lt_of_le hn4 (Nat.pow_le_pow_right (by decide) (by decide))
  refine ⟨_, rfl, _, rfl, sz (by decide : 1 ≤ 1000), fun L3 nL3 => ?_⟩
  have W3 := Same.trans W2 (Same.put (o := .lst [.int n]) nL3)
  refine ⟨false, false, b, L3, p, [n], rfl, (Sp_.ln hbE).same W3, numL upd_same, Nat.le_trans (mulF_le _ _) (by show p.length + 1 - 1 ≤ 13; omega), fun N4 f4 w4 _ k4 => ?_⟩
  have W4 := Same.trans W3 w4
  refine ⟨_, rfl, eqL k4 (hDE.same W4) ⟨_, rfl, ifT (by rw [mul_num]; simp) ?_⟩⟩
  refine ⟨sz (by decide : 0 ≤ 1000), fun L5 nL5 => ⟨_, rfl, ?_⟩⟩
  have W5 := Same.trans W4 (Same.put (o := .lst []) nL5)
  refine ⟨false, false, L5, b, [], p, rfl, nilL upd_same, (Sp_.ln hbE).same W5, (by show (mulF [] p).length ≤ 13; rw [nil_mul]; decide), fun N6 f6 w6 _ k6 => ⟨sz (by decide : 0 ≤ 1000), fun L7 nL7 => ?_⟩⟩
  refine eqL (q := []) (At.same (k := false) (Same.put nL7) k6) upd_same ?_
  rw [nil_mul, decide_eq_true rfl]
  have W7 := Same.trans (Same.trans W5 w6) (Same.put (o := .lst []) nL7)
  exact q _ (Chg.trans cE (.of W7)) (Same.pot W7 pE)
theorem ok__law_right {P : Program} {w : World} {K : PySem.W.Frag}
    {mg : Str → Option Value} {base : Heap} (T : Top K mg)
    (C__law_drawn : Cl P w K mg base CX0 4 "_law_drawn" s__law_drawn ["_law_pot_here"] (spDrawn))
    (C__law_one_right : Cl P w K mg base CX0 6 "_law_one_right" s__law_one_right ["_law_pot_here", "_law_one"] (spOne))
    (C__law_pair_right : Cl P w K mg base CX0 6 "_law_pair_right" s__law_pair_right ["_law_pot_here", "_law_one", "_law_other"] (spPair))
    (C_line_sum : Cl P w K mg base CX0 5 "line_sum" s_line_sum ["line", "other"] (spLn2 (fun p q => trim (addF p q)) fun _ _ => True))
    (C_line_times : Cl P w K mg base CX0 5 "line_times" s_line_times ["line", "other"] (spLn2 mulF fun p q => (mulF p q).length ≤ 13)) :
    Cl P w K mg base CX0 7 "_law_right" s__law_right ["_law_pot_here"] (spHolds) := by
  refine T.d__law_right.cl fun f fd F => body_0 F S__law_right (fun vs H Q E h => by obtain ⟨_, rfl, _⟩ := h; rfl) ?_
  intro cdv A out s H vs Q E hG hr h
  obtain ⟨a, rfl, hpot, q⟩ := h
  refine ⟨_, (pss_cons (ps_set (i := 1) S__law_right.nd rfl (Or.inl rfl) (pe_lst pa_nil))
    (pss_cons (ps_for PassesOwn.never rfl (pi_range1 (by rfl) T.n_range (pa_cons pe_int pa_nil)) (pg_name (i := 2) S__law_right.nd rfl (Or.inl rfl))
      (pss_one (ps_expr (pe_bm PySem.F.plainAttrs_list PySem.F.slot_list_append PySem.F.type_list_append mt_append (pv 1) (pa_cons (pe_u C__law_drawn hG hr (by decide) (by rfl) pass0 (pa_cons (pv 0) pa_nil)) pa_nil)))))
    (pss_cons (ps_for PassesOwn.never rfl (pi_list (pv 1)) (pg_name (i := 3) S__law_right.nd rfl (Or.inl rfl))
      (pss_one (ps_if (pt_not (pt_val (pe_u C__law_one_right hG hr (by decide) (by rfl) pass0 (pa_cons (pv 0) (pa_cons (pv 3) pa_nil)))))
      (pss_one (ps_ret pe_bl))
      pss_nil)))
    (pss_cons (ps_asg (pv 1) (pg_lst rfl (pgs_cons (pg_name (i := 4) S__law_right.nd rfl (Or.inl rfl)) (pgs_cons (pg_name (i := 5) S__law_right.nd rfl (Or.inl rfl)) (pgs_cons (pg_name (i := 6) S__law_right.nd rfl (Or.inl rfl)) pgs_nil)))))
    (pss_cons (ps_if ((pw_or (pt_not (pt_val (pe_u C__law_pair_right hG hr (by decide) (by rfl) pass0 (pa_cons (pv 0) (pa_cons (pv 4) (pa_cons (pv 5) pa_nil)))))) (pw_or1 (pt_not (pt_val (pe_u C__law_pair_right hG hr (by decide) (by rfl) pass0 (pa_cons (pv 0) (pa_cons (pv 5) (pa_cons (pv 6) pa_nil))))))))).pt
      (pss_one (ps_ret pe_bl))
      pss_nil)
    (pss_cons (ps_if (pt_cmpR op_gt (pe_op op_sub (pe_op op_add (pe_op op_add (pe_callB (call_max2 rfl) (by rfl) T.n_max (by decide +kernel) (pa_cons (pe_callB call_len_seq (by rfl) T.n_len PySem.boot_len (pa_cons (pv 4) pa_nil)) (pa_cons pe_int pa_nil))) (pe_callB (call_max2 rfl) (by rfl) T.n_max (by decide +kernel) (pa_cons (pe_callB call_len_seq (by rfl) T.n_len PySem.boot_len (pa_cons (pv 5) pa_nil)) (pa_cons pe_int pa_nil)))) (pe_callB (call_max2 rfl) (by rfl) T.n_max (by decide +kernel) (pa_cons (pe_callB call_len_seq (by rfl) T.n_len PySem.boot_len (pa_cons (pv 6) pa_nil)) (pa_cons pe_int pa_nil)))) pe_int) pe_int (nomark _))
      (pss_one (ps_ret (pe_cmpR (op_eqD (hu64 hr)) (pe_u C_line_times hG hr (by decide) (by rfl) pass0 (pa_cons (pv 4) (pa_cons (pe_u C_line_sum hG hr (by decide) (by rfl) pass0 (pa_cons (pv 5) (pa_cons (pv 6) pa_nil))) pa_nil))) (pe_u C_line_sum hG hr (by decide) (by rfl) pass0 (pa_cons (pe_u C_line_times hG hr (by decide) (by rfl) pass0 (pa_cons (pv 4) (pa_cons (pv 5) pa_nil))) (pa_cons (pe_u C_line_times hG hr (by decide) (by rfl) pass0 (pa_cons (pv 4) (pa_cons (pv 6) pa_nil))) pa_nil))) (nomark _))))
      pss_nil)
    (pss_one (ps_ret (pe_cmpR (op_eqD (hu64 hr)) (pe_u C_line_times hG hr (by decide) (by rfl) pass0 (pa_cons (pe_u C_line_times hG hr (by decide) (by rfl) pass0 (pa_cons (pv 4) (pa_cons (pv 5) pa_nil))) (pa_cons (pv 6) pa_nil))) (pe_u C_line_times hG hr (by decide) (by rfl) pass0 (pa_cons (pv 4) (pa_cons (pe_u C_line_times hG hr (by decide) (by rfl) pass0 (pa_cons (pv 5) (pa_cons (pv 6) pa_nil))) pa_nil))) (nomark _)))))))))), ?_⟩
  have sz : ∀ {n : Nat}, n ≤ 1000 → n ≤ sizeLine := fun h => Nat.le_of_lt (small1000 h)
  refine ⟨sz (by decide : 0 ≤ 1000), fun o no => ?_⟩
  have oa := hpot.ne no
  have s1 : Same H (upd H o (.lst [])) := Same.put no
  refine ⟨3, rfl, by decide, by decide, ?_⟩
  refine for_range (n := 3) (fun i σ H' => ∃ (y : Option V) (ls : List (Addr × List Int)), σ = [some (.ref a), some (.ref o), y, none, none, none, none] ∧ Chg a H H' ∧ PotAt H' a ∧
    H' o = some (.lst (ls.map fun x => V.ref x.1)) ∧ ls.length = i ∧ ∀ x ∈ ls, At false H' x.1 x.2 ∧ Sm x.2 ∧ x.1 ≠ a ∧ x.1 ≠ o) ?_ ?_ ?_
  · exact ⟨none, [], rfl, .of s1, Same.pot s1 hpot, upd_same, rfl, fun x hx => nomatch hx⟩
  · rintro i σ H1 hi ⟨y, ls, rfl, c1, p1, eo, ll, hl⟩
    refine ⟨_, rfl, .inl ⟨rfl, _, SqL.of eo⟩, _, rfl, a, rfl, p1, fun H2 r p c2 p2 nr ra er lp bp cp => ?_⟩
    have eo2 : H2 o = some (.lst (ls.map fun x => V.ref x.1)) := c2 _ _ oa eo
    refine ⟨o, _, _, rfl, rfl, eo2, small1000 (by rw [List.length_map]; omega), ?_⟩
    have ro : r ≠ o := fun e => by rw [e, eo] at nr; cases nr
    refine ⟨_, ls ++ [(r, p)], rfl, Chg.ov no (Chg.trans c1 c2), PotAt.ovn p2 oa.symm, by rw [upd_same, List.map_append]; rfl, by rw [List.length_append, ll]; rfl, fun x hx => ?_⟩
    rcases List.mem_append.mp hx with hx | hx
    · obtain ⟨h1, h2, h3, h4⟩ := hl x hx
      exact ⟨(h1.chg c2 h3).ovn h4, h2, h3, h4⟩
    · obtain rfl : x = (r, p) := by simpa using hx
      exact ⟨At.ovn (k := false) er ro, ⟨cp, lp, bp⟩, ra, ro⟩
  rintro σ H1 ⟨y, ls, rfl, c1, p1, eo, ll, hl⟩
  refine ⟨_, rfl, o, rfl, ⟨_, SqL.of eo⟩, ?_⟩
  refine for_list (K := K) (xs := ls.map fun x => V.ref x.1) (fun i σ H' => ∃ z : Option V, σ = [some (.ref a), some (.ref o), y, z, none, none, none] ∧ Chg a H1 H' ∧ PotAt H' a) ?_ ?_ ?_ ?_
  · exact ⟨none, rfl, Chg.rfl', p1⟩
  · rintro i σ H' _ ⟨z, rfl, c2, p2⟩
    exact SqL.of (c2 _ _ oa eo)
  · rintro i v σ H' hv ⟨z, rfl, c2, p2⟩
    obtain ⟨x, hx, rfl⟩ := List.mem_map.mp (List.mem_of_getElem? hv)
    obtain ⟨h1, h2, h3, h4⟩ := hl x hx
    exact ⟨_, rfl, _, rfl, a, x.1, x.2, rfl, p2, h1.chg c2 h3, h3, h2, fun H3 c3 p3 => ⟨_, rfl, iteF ⟨_, rfl, Chg.trans c2 c3, p3⟩⟩⟩
  rintro σ H2 ⟨z, rfl, c2, p2⟩
  obtain ⟨r1, f1, r2, f2, r3, f3, rfl⟩ : ∃ r1 f1 r2 f2 r3 f3, ls = [(r1, f1), (r2, f2), (r3, f3)] := by
    match ls, ll with
    | [(r1, f1), (r2, f2), (r3, f3)], _ => exact ⟨r1, f1, r2, f2, r3, f3, rfl⟩
  obtain ⟨h1, m1, n1, o1⟩ := hl (r1, f1) (by simp)
  dsimp only at h1 m1 n1 o1
  obtain ⟨h2, m2, n2, o2⟩ := hl (r2, f2) (by simp)
  dsimp only at h2 m2 n2 o2
  obtain ⟨h3, m3, n3, o3⟩ := hl (r3, f3) (by simp)
  dsimp only at h3 m3 n3 o3
  refine ⟨_, rfl, o, _, rfl, SqL.of (c2 _ _ oa eo), rfl, _, _, rfl, _, _, rfl, _, _, rfl, rfl, ?_⟩
  refine ⟨_, rfl, _, rfl, _, rfl, a, r1, r2, f1, f2, rfl, p2, h1.chg c2 n1, h2.chg c2 n2, n1, n2, m1, m2, fun H3 c3 p3 => ⟨_, rfl, iteF ?_⟩⟩
  have c23 := Chg.trans c2 c3
  refine ⟨_, rfl, _, rfl, _, rfl, a, r2, r3, f2, f3, rfl, p3, h2.chg c23 n2, h3.chg c23 n3, n2, n3, m2, m3, fun H4 c4 p4 => ⟨_, rfl, iteF ?_⟩⟩
  have c34 := Chg.trans c23 c4
  have g1 : At false H4 r1 f1 := h1.chg c34 n1
  have g2 : At false H4 r2 f2 := h2.chg c34 n2
  have g3 : At false H4 r3 f3 := h3.chg c34 n3
  have cg : Chg a H H4 := Chg.trans c1 c34
  have l1 : f1.length ≤ 7 := m1.len
  have l2 : f2.length ≤ 7 := m2.len
  have l3 : f3.length ≤ 7 := m3.len
  have lnm : ∀ {K1 : Hp} {e : Addr} {p r : List Int}, Sm p → Sm r → At false K1 e (mulF p r) → Ln false K1 e (mulF p r) := fun {_ _ p r} sp sr h => by
    have lp := sp.len
    have lr := sr.len
    exact ⟨h, cn_mul sp.cn sr.cn, Nat.le_trans (mulF_le p r) (by omega), (bd_mul (n := 4) sp.bd sr.bd (by omega)).mono (by decide)⟩
  have lns : ∀ {K1 : Hp} {e : Addr} {p r : List Int}, Sm p → Sm r → At false K1 e (trim (addF p r)) → Ln false K1 e (trim (addF p r)) := fun {_ _ p r} sp sr h => by
    have lp := sp.len
    have lr := sr.len
    exact ⟨h, cn_trim _, Nat.le_trans (trim_length _) (by rw [addF_length]; omega), (bd_trim (bd_add sp.bd sr.bd)).mono (by decide)⟩
  have l12 : (mulF f1 f2).length ≤ f1.length + f2.length - 1 := mulF_le f1 f2
  have l13 : (mulF f1 f3).length ≤ f1.length + f3.length - 1 := mulF_le f1 f3
  have l23 : (mulF f2 f3).length ≤ f2.length + f3.length - 1 := mulF_le f2 f3
  have ls23 : (trim (addF f2 f3)).length ≤ 7 := Nat.le_trans (trim_length _) (by rw [addF_length]; omega)
  refine ⟨_, rfl, r1, _, rfl, .inl (SqL.of g1), _, _, rfl, _, rfl, r2, _, rfl, .inl (SqL.of g2), _, _, rfl, _, _, rfl, rfl, _, rfl, r3, _, rfl, .inl (SqL.of g3), _, _, rfl, _, _, rfl, rfl, _, _, rfl, rfl, _, _, rfl, rfl, _, rfl, ?_⟩
  rw [List.length_map, List.length_map, List.length_map]
  refine ite2 (fun _ => ?_) (fun c => ?_)
  · refine ⟨_, rfl, _, rfl, _, rfl, false, false, r2, r3, f2, f3, rfl, m2.ln g2, m3.ln g3, trivial, fun H5 e5 t5 _ k5 => ?_⟩
    refine ⟨false, false, r1, e5, f1, trim (addF f2 f3), rfl, (m1.ln g1).same t5, lns m2 m3 k5, Nat.le_trans (mulF_le _ _) (by omega), fun H6 e6 t6 _ k6 => ?_⟩
    have T6 := Same.trans t5 t6
    refine ⟨_, rfl, _, rfl, false, false, r1, r2, f1, f2, rfl, (m1.ln g1).same T6, (m2.ln g2).same T6, (by show (mulF f1 f2).length ≤ 13; omega), fun H7 e7 t7 _ k7 => ?_⟩
    have T7 := Same.trans T6 t7
    refine ⟨_, rfl, _, rfl, false, false, r1, r3, f1, f3, rfl, (m1.ln g1).same T7, (m3.ln g3).same T7, (by show (mulF f1 f3).length ≤ 13; omega), fun H8 e8 t8 _ k8 => ?_⟩
    have T8 := Same.trans T7 t8
    refine ⟨false, false, e7, e8, mulF f1 f2, mulF f1 f3, rfl, (lnm m1 m2 k7).same t8, lnm m1 m3 k8, trivial, fun H9 e9 t9 _ k9 => ?_⟩
    have T9 := Same.trans T8 t9
    refine eqL (At.same (k := false) (Same.trans (Same.trans t7 t8) t9) k6) k9 ?_
    rw [decide_eq_true (show mulF f1 (trim (addF f2 f3)) = trim (addF (mulF f1 f2) (mulF f1 f3)) from mulF_distrib m1.cn m2.cn m3.cn)]
    exact q H9 (Chg.trans cg (.of T9)) (Same.pot T9 p4)
  · have c0 : f1.length + f2.length + f3.length ≤ 15 := by
      have c9 := fun z => c (decide_eq_true z)
      have mx : ∀ n : Nat, ((if (1 : Int) > n then (1 : Int) else n) : Int) ≥ n := by intro n; split <;> omega
      have A1 := mx f1.length
      have A2 := mx f2.length
      have A3 := mx f3.length
      generalize (if (1 : Int) > (f1.length : Int) then (1 : Int) else f1.length) = x1 at c9 A1
      generalize (if (1 : Int) > (f2.length : Int) then (1 : Int) else f2.length) = x2 at c9 A2
      generalize (if (1 : Int) > (f3.length : Int) then (1 : Int) else f3.length) = x3 at c9 A3
      have c10 : ¬ (x1 + x2 + x3 - 3 > 12) := c9
      omega
    have B12 : Bd 12 (mulF f1 f2) := bd_mul (n := 4) m1.bd m2.bd (by omega)
    refine ⟨_, rfl, _, rfl, false, false, r1, r2, f1, f2, rfl, m1.ln g1, m2.ln g2, (by show (mulF f1 f2).length ≤ 13; omega), fun H5 e5 t5 _ k5 => ?_⟩
    refine ⟨_, rfl, false, false, e5, r3, mulF f1 f2, f3, rfl, lnm m1 m2 k5, (m3.ln g3).same t5, Nat.le_trans (mulF_le _ _) (by omega), fun H6 e6 t6 _ k6 => ?_⟩
    have T6 := Same.trans t5 t6
    refine ⟨_, rfl, _, rfl, _, rfl, false, false, r2, r3, f2, f3, rfl, (m2.ln g2).same T6, (m3.ln g3).same T6, (by show (mulF f2 f3).length ≤ 13; omega), fun H7 e7 t7 _ k7 => ?_⟩
    have T7 := Same.trans T6 t7
    refine ⟨false, false, r1, e7, f1, mulF f2 f3, rfl, (m1.ln g1).same T7, lnm m2 m3 k7, Nat.le_trans (mulF_le _ _) (by omega), fun H8 e8 t8 _ k8 => ?_⟩
    have T8 := Same.trans T7 t8
    refine eqL (At.same (k := false) (Same.trans t7 t8) k6) k8 ?_
    rw [decide_eq_true (mulF_assoc m1.cn m2.cn m3.cn)]
    exact q H8 (Chg.trans cg (.of T8)) (Same.pot T8 p4)
theorem fn_law {P : Program} {w : World} {K : PySem.W.Frag}
    {mg : Str → Option Value} {base : Heap} (T : Top K mg)
    (C__law_pot : Cl P w K mg base CX0 1 "_law_pot" s__law_pot ["_law_script", "_law_k"] (spPot K))
    (C__law_right : Cl P w K mg base CX0 7 "_law_right" s__law_right ["_law_pot_here"] (spHolds))
    {f : Addr} {fd : FuncData} (F : Fun K "law" "law" s_law f fd) :
    FnG P w K mg base CX0 8 f fd ["_law_script"] (spLaw K) := by
  refine body_0 F S_law (fun vs H Q E h => by obtain ⟨_, _, rfl, _⟩ := h; rfl) ?_
  intro cdv A out s H vs Q E hG hr h
  obtain ⟨a, ns, rfl, hS, hl, q⟩ := h
  refine ⟨_, (pss_one (ps_ret (pe_u C__law_right hG hr (by decide) (by rfl) pass0 (pa_cons (pe_u C__law_pot hG hr (by decide) (by rfl) pass0 (pa_cons (pv 0) (pa_cons pe_int pa_nil))) pa_nil)))), ?_⟩
  exact ⟨_, rfl, a, ns, 0, rfl, hS, by decide, by decide, fun H1 p s np pp => ⟨p, rfl, pp, fun H2 _ _ => q H2⟩⟩
/-- what the head leaves, told -/
theorem top_mk {K : PySem.W.Frag} {h : Heap} {mg : Str → Option Value} (X : K.In h) (G : h.Ns mainGlobals mg)
    {f__law_pot : Addr} {od__law_pot an__law_pot : Option Addr} {sl__law_pot : Array (Option Value)} {oc__law_pot kV__law_pot dc__law_pot pm__law_pot cd__law_pot ct__law_pot : Value}
    {f__law_draw : Addr} {od__law_draw an__law_draw : Option Addr} {sl__law_draw : Array (Option Value)} {oc__law_draw kV__law_draw dc__law_draw pm__law_draw cd__law_draw ct__law_draw : Value}
    {f__law_pick : Addr} {od__law_pick an__law_pick : Option Addr} {sl__law_pick : Array (Option Value)} {oc__law_pick kV__law_pick dc__law_pick pm__law_pick cd__law_pick ct__law_pick : Value}
    {f__law_line : Addr} {od__law_line an__law_line : Option Addr} {sl__law_line : Array (Option Value)} {oc__law_line kV__law_line dc__law_line pm__law_line cd__law_line ct__law_line : Value}
    {f_is_integer : Addr} {od_is_integer an_is_integer : Option Addr} {sl_is_integer : Array (Option Value)} {oc_is_integer kV_is_integer dc_is_integer pm_is_integer cd_is_integer ct_is_integer : Value}
    {f_is_list : Addr} {od_is_list an_is_list : Option Addr} {sl_is_list : Array (Option Value)} {oc_is_list kV_is_list dc_is_list pm_is_list cd_is_list ct_is_list : Value}
    {f_check_number : Addr} {od_check_number an_check_number : Option Addr} {sl_check_number : Array (Option Value)} {oc_check_number kV_check_number dc_check_number pm_check_number cd_check_number ct_check_number : Value}
    {f_is_line : Addr} {od_is_line an_is_line : Option Addr} {sl_is_line : Array (Option Value)} {oc_is_line kV_is_line dc_is_line pm_is_line cd_is_line ct_is_line : Value}
    {f_trimmed : Addr} {od_trimmed an_trimmed : Option Addr} {sl_trimmed : Array (Option Value)} {oc_trimmed kV_trimmed dc_trimmed pm_trimmed cd_trimmed ct_trimmed : Value}
    {f_scaled : Addr} {od_scaled an_scaled : Option Addr} {sl_scaled : Array (Option Value)} {oc_scaled kV_scaled dc_scaled pm_scaled cd_scaled ct_scaled : Value}
    {f_poly_sum : Addr} {od_poly_sum an_poly_sum : Option Addr} {sl_poly_sum : Array (Option Value)} {oc_poly_sum kV_poly_sum dc_poly_sum pm_poly_sum cd_poly_sum ct_poly_sum : Value}
    {f_poly_less : Addr} {od_poly_less an_poly_less : Option Addr} {sl_poly_less : Array (Option Value)} {oc_poly_less kV_poly_less dc_poly_less pm_poly_less cd_poly_less ct_poly_less : Value}
    {f_poly_times : Addr} {od_poly_times an_poly_times : Option Addr} {sl_poly_times : Array (Option Value)} {oc_poly_times kV_poly_times dc_poly_times pm_poly_times cd_poly_times ct_poly_times : Value}
    {f_poly_value : Addr} {od_poly_value an_poly_value : Option Addr} {sl_poly_value : Array (Option Value)} {oc_poly_value kV_poly_value dc_poly_value pm_poly_value cd_poly_value ct_poly_value : Value}
    {f_poly_slope : Addr} {od_poly_slope an_poly_slope : Option Addr} {sl_poly_slope : Array (Option Value)} {oc_poly_slope kV_poly_slope dc_poly_slope pm_poly_slope cd_poly_slope ct_poly_slope : Value}
    {f_content : Addr} {od_content an_content : Option Addr} {sl_content : Array (Option Value)} {oc_content kV_content dc_content pm_content cd_content ct_content : Value}
    {f_poly_plain : Addr} {od_poly_plain an_poly_plain : Option Addr} {sl_poly_plain : Array (Option Value)} {oc_poly_plain kV_poly_plain dc_poly_plain pm_poly_plain cd_poly_plain ct_poly_plain : Value}
    {f_check_line : Addr} {od_check_line an_check_line : Option Addr} {sl_check_line : Array (Option Value)} {oc_check_line kV_check_line dc_check_line pm_check_line cd_check_line ct_check_line : Value}
    {f_check_lines : Addr} {od_check_lines an_check_lines : Option Addr} {sl_check_lines : Array (Option Value)} {oc_check_lines kV_check_lines dc_check_lines pm_check_lines cd_check_lines ct_check_lines : Value}
    {f_degree : Addr} {od_degree an_degree : Option Addr} {sl_degree : Array (Option Value)} {oc_degree kV_degree dc_degree pm_degree cd_degree ct_degree : Value}
    {f_line_value : Addr} {od_line_value an_line_value : Option Addr} {sl_line_value : Array (Option Value)} {oc_line_value kV_line_value dc_line_value pm_line_value cd_line_value ct_line_value : Value}
    {f_line_slope : Addr} {od_line_slope an_line_slope : Option Addr} {sl_line_slope : Array (Option Value)} {oc_line_slope kV_line_slope dc_line_slope pm_line_slope cd_line_slope ct_line_slope : Value}
    {f_plain_line : Addr} {od_plain_line an_plain_line : Option Addr} {sl_plain_line : Array (Option Value)} {oc_plain_line kV_plain_line dc_plain_line pm_plain_line cd_plain_line ct_plain_line : Value}
    {f_line_sum : Addr} {od_line_sum an_line_sum : Option Addr} {sl_line_sum : Array (Option Value)} {oc_line_sum kV_line_sum dc_line_sum pm_line_sum cd_line_sum ct_line_sum : Value}
    {f_line_less : Addr} {od_line_less an_line_less : Option Addr} {sl_line_less : Array (Option Value)} {oc_line_less kV_line_less dc_line_less pm_line_less cd_line_less ct_line_less : Value}
    {f_line_times : Addr} {od_line_times an_line_times : Option Addr} {sl_line_times : Array (Option Value)} {oc_line_times kV_line_times dc_line_times pm_line_times cd_line_times ct_line_times : Value}
    {f__law_trim : Addr} {od__law_trim an__law_trim : Option Addr} {sl__law_trim : Array (Option Value)} {oc__law_trim kV__law_trim dc__law_trim pm__law_trim cd__law_trim ct__law_trim : Value}
    {f__law_sum : Addr} {od__law_sum an__law_sum : Option Addr} {sl__law_sum : Array (Option Value)} {oc__law_sum kV__law_sum dc__law_sum pm__law_sum cd__law_sum ct__law_sum : Value}
    {f__law_times : Addr} {od__law_times an__law_times : Option Addr} {sl__law_times : Array (Option Value)} {oc__law_times kV__law_times dc__law_times pm__law_times cd__law_times ct__law_times : Value}
    {f__law_value : Addr} {od__law_value an__law_value : Option Addr} {sl__law_value : Array (Option Value)} {oc__law_value kV__law_value dc__law_value pm__law_value cd__law_value ct__law_value : Value}
    {f__law_slope : Addr} {od__law_slope an__law_slope : Option Addr} {sl__law_slope : Array (Option Value)} {oc__law_slope kV__law_slope dc__law_slope pm__law_slope cd__law_slope ct__law_slope : Value}
    {f__law_greatest : Addr} {od__law_greatest an__law_greatest : Option Addr} {sl__law_greatest : Array (Option Value)} {oc__law_greatest kV__law_greatest dc__law_greatest pm__law_greatest cd__law_greatest ct__law_greatest : Value}
    {f__law_plain : Addr} {od__law_plain an__law_plain : Option Addr} {sl__law_plain : Array (Option Value)} {oc__law_plain kV__law_plain dc__law_plain pm__law_plain cd__law_plain ct__law_plain : Value}
    {f__law_drawn : Addr} {od__law_drawn an__law_drawn : Option Addr} {sl__law_drawn : Array (Option Value)} {oc__law_drawn kV__law_drawn dc__law_drawn pm__law_drawn cd__law_drawn ct__law_drawn : Value}
    {f__law_pair_right : Addr} {od__law_pair_right an__law_pair_right : Option Addr} {sl__law_pair_right : Array (Option Value)} {oc__law_pair_right kV__law_pair_right dc__law_pair_right pm__law_pair_right cd__law_pair_right ct__law_pair_right : Value}
    {f__law_one_right : Addr} {od__law_one_right an__law_one_right : Option Addr} {sl__law_one_right : Array (Option Value)} {oc__law_one_right kV__law_one_right dc__law_one_right pm__law_one_right cd__law_one_right ct__law_one_right : Value}
    {f__law_right : Addr} {od__law_right an__law_right : Option Addr} {sl__law_right : Array (Option Value)} {oc__law_right kV__law_right dc__law_right pm__law_right cd__law_right ct__law_right : Value}
    {f_law : Addr} {od_law an_law : Option Addr} {sl_law : Array (Option Value)} {oc_law kV_law dc_law pm_law cd_law ct_law : Value}
    {t_LINE_DEGREE : Tok}
    (a__law_pot : PySem.W.nsIn K mainGlobals "_law_pot" = some (some (.ref f__law_pot)))
    (l__law_pot : K.lookup f__law_pot = some ⟨oc__law_pot, od__law_pot, .func (PySem.W.fnOf "_law_pot" "_law_pot" (defArgs s__law_pot) (defBody s__law_pot) (defScope s__law_pot) .none kV__law_pot dc__law_pot pm__law_pot an__law_pot cd__law_pot ct__law_pot), sl__law_pot⟩)
    (c__law_pot : PySem.W.codeIn K cd__law_pot "_law_pot" = true)
    (k__law_pot : PySem.W.keepIn K (.ref f__law_pot) = true)
    (a__law_draw : PySem.W.nsIn K mainGlobals "_law_draw" = some (some (.ref f__law_draw)))
    (l__law_draw : K.lookup f__law_draw = some ⟨oc__law_draw, od__law_draw, .func (PySem.W.fnOf "_law_draw" "_law_draw" (defArgs s__law_draw) (defBody s__law_draw) (defScope s__law_draw) .none kV__law_draw dc__law_draw pm__law_draw an__law_draw cd__law_draw ct__law_draw), sl__law_draw⟩)
    (c__law_draw : PySem.W.codeIn K cd__law_draw "_law_draw" = true)
    (k__law_draw : PySem.W.keepIn K (.ref f__law_draw) = true)
    (a__law_pick : PySem.W.nsIn K mainGlobals "_law_pick" = some (some (.ref f__law_pick)))
    (l__law_pick : K.lookup f__law_pick = some ⟨oc__law_pick, od__law_pick, .func (PySem.W.fnOf "_law_pick" "_law_pick" (defArgs s__law_pick) (defBody s__law_pick) (defScope s__law_pick) .none kV__law_pick dc__law_pick pm__law_pick an__law_pick cd__law_pick ct__law_pick), sl__law_pick⟩)
    (c__law_pick : PySem.W.codeIn K cd__law_pick "_law_pick" = true)
    (k__law_pick : PySem.W.keepIn K (.ref f__law_pick) = true)
    (a__law_line : PySem.W.nsIn K mainGlobals "_law_line" = some (some (.ref f__law_line)))
    (l__law_line : K.lookup f__law_line = some ⟨oc__law_line, od__law_line, .func (PySem.W.fnOf "_law_line" "_law_line" (defArgs s__law_line) (defBody s__law_line) (defScope s__law_line) .none kV__law_line dc__law_line pm__law_line an__law_line cd__law_line ct__law_line), sl__law_line⟩)
    (c__law_line : PySem.W.codeIn K cd__law_line "_law_line" = true)
    (k__law_line : PySem.W.keepIn K (.ref f__law_line) = true)
    (a_is_integer : PySem.W.nsIn K mainGlobals "is_integer" = some (some (.ref f_is_integer)))
    (l_is_integer : K.lookup f_is_integer = some ⟨oc_is_integer, od_is_integer, .func (PySem.W.fnOf "is_integer" "is_integer" (defArgs s_is_integer) (defBody s_is_integer) (defScope s_is_integer) .none kV_is_integer dc_is_integer pm_is_integer an_is_integer cd_is_integer ct_is_integer), sl_is_integer⟩)
    (c_is_integer : PySem.W.codeIn K cd_is_integer "is_integer" = true)
    (k_is_integer : PySem.W.keepIn K (.ref f_is_integer) = true)
    (a_is_list : PySem.W.nsIn K mainGlobals "is_list" = some (some (.ref f_is_list)))
    (l_is_list : K.lookup f_is_list = some ⟨oc_is_list, od_is_list, .func (PySem.W.fnOf "is_list" "is_list" (defArgs s_is_list) (defBody s_is_list) (defScope s_is_list) .none kV_is_list dc_is_list pm_is_list an_is_list cd_is_list ct_is_list), sl_is_list⟩)
    (c_is_list : PySem.W.codeIn K cd_is_list "is_list" = true)
    (k_is_list : PySem.W.keepIn K (.ref f_is_list) = true)
    (a_check_number : PySem.W.nsIn K mainGlobals "check_number" = some (some (.ref f_check_number)))
    (l_check_number : K.lookup f_check_number = some ⟨oc_check_number, od_check_number, .func (PySem.W.fnOf "check_number" "check_number" (defArgs s_check_number) (defBody s_check_number) (defScope s_check_number) .none kV_check_number dc_check_number pm_check_number an_check_number cd_check_number ct_check_number), sl_check_number⟩)
    (c_check_number : PySem.W.codeIn K cd_check_number "check_number" = true)
    (k_check_number : PySem.W.keepIn K (.ref f_check_number) = true)
    (a_is_line : PySem.W.nsIn K mainGlobals "is_line" = some (some (.ref f_is_line)))
    (l_is_line : K.lookup f_is_line = some ⟨oc_is_line, od_is_line, .func (PySem.W.fnOf "is_line" "is_line" (defArgs s_is_line) (defBody s_is_line) (defScope s_is_line) .none kV_is_line dc_is_line pm_is_line an_is_line cd_is_line ct_is_line), sl_is_line⟩)
    (c_is_line : PySem.W.codeIn K cd_is_line "is_line" = true)
    (k_is_line : PySem.W.keepIn K (.ref f_is_line) = true)
    (a_trimmed : PySem.W.nsIn K mainGlobals "trimmed" = some (some (.ref f_trimmed)))
    (l_trimmed : K.lookup f_trimmed = some ⟨oc_trimmed, od_trimmed, .func (PySem.W.fnOf "trimmed" "trimmed" (defArgs s_trimmed) (defBody s_trimmed) (defScope s_trimmed) .none kV_trimmed dc_trimmed pm_trimmed an_trimmed cd_trimmed ct_trimmed), sl_trimmed⟩)
    (c_trimmed : PySem.W.codeIn K cd_trimmed "trimmed" = true)
    (k_trimmed : PySem.W.keepIn K (.ref f_trimmed) = true)
    (a_scaled : PySem.W.nsIn K mainGlobals "scaled" = some (some (.ref f_scaled)))
    (l_scaled : K.lookup f_scaled = some ⟨oc_scaled, od_scaled, .func (PySem.W.fnOf "scaled" "scaled" (defArgs s_scaled) (defBody s_scaled) (defScope s_scaled) .none kV_scaled dc_scaled pm_scaled an_scaled cd_scaled ct_scaled), sl_scaled⟩)
    (c_scaled : PySem.W.codeIn K cd_scaled "scaled" = true)
    (k_scaled : PySem.W.keepIn K (.ref f_scaled) = true)
    (a_poly_sum : PySem.W.nsIn K mainGlobals "poly_sum" = some (some (.ref f_poly_sum)))
    (l_poly_sum : K.lookup f_poly_sum = some ⟨oc_poly_sum, od_poly_sum, .func (PySem.W.fnOf "poly_sum" "poly_sum" (defArgs s_poly_sum) (defBody s_poly_sum) (defScope s_poly_sum) .none kV_poly_sum dc_poly_sum pm_poly_sum an_poly_sum cd_poly_sum ct_poly_sum), sl_poly_sum⟩)
    (c_poly_sum : PySem.W.codeIn K cd_poly_sum "poly_sum" = true)
    (k_poly_sum : PySem.W.keepIn K (.ref f_poly_sum) = true)
    (a_poly_less : PySem.W.nsIn K mainGlobals "poly_less" = some (some (.ref f_poly_less)))
    (l_poly_less : K.lookup f_poly_less = some ⟨oc_poly_less, od_poly_less, .func (PySem.W.fnOf "poly_less" "poly_less" (defArgs s_poly_less) (defBody s_poly_less) (defScope s_poly_less) .none kV_poly_less dc_poly_less pm_poly_less an_poly_less cd_poly_less ct_poly_less), sl_poly_less⟩)
    (c_poly_less : PySem.W.codeIn K cd_poly_less "poly_less" = true)
    (k_poly_less : PySem.W.keepIn K (.ref f_poly_less) = true)
    (a_poly_times : PySem.W.nsIn K mainGlobals "poly_times" = some (some (.ref f_poly_times)))
    (l_poly_times : K.lookup f_poly_times = some ⟨oc_poly_times, od_poly_times, .func (PySem.W.fnOf "poly_times" "poly_times" (defArgs s_poly_times) (defBody s_poly_times) (defScope s_poly_times) .none kV_poly_times dc_poly_times pm_poly_times an_poly_times cd_poly_times ct_poly_times), sl_poly_times⟩)
    (c_poly_times : PySem.W.codeIn K cd_poly_times "poly_times" = true)
    (k_poly_times : PySem.W.keepIn K (.ref f_poly_times) = true)
    (a_poly_value : PySem.W.nsIn K mainGlobals "poly_value" = some (some (.ref f_poly_value)))
    (l_poly_value : K.lookup f_poly_value = some ⟨oc_poly_value, od_poly_value, .func (PySem.W.fnOf "poly_value" "poly_value" (defArgs s_poly_value) (defBody s_poly_value) (defScope s_poly_value) .none kV_poly_value dc_poly_value pm_poly_value an_poly_value cd_poly_value ct_poly_value), sl_poly_value⟩)
    (c_poly_value : PySem.W.codeIn K cd_poly_value "poly_value" = true)
    (k_poly_value : PySem.W.keepIn K (.ref f_poly_value) = true)
    (a_poly_slope : PySem.W.nsIn K mainGlobals "poly_slope" = some (some (.ref f_poly_slope)))
    (l_poly_slope : K.lookup f_poly_slope = some ⟨oc_poly_slope, od_poly_slope, .func (PySem.W.fnOf "poly_slope" "poly_slope" (defArgs s_poly_slope) (defBody s_poly_slope) (defScope s_poly_slope) .none kV_poly_slope dc_poly_slope pm_poly_slope an_poly_slope cd_poly_slope ct_poly_slope), sl_poly_slope⟩)
    (c_poly_slope : PySem.W.codeIn K cd_poly_slope "poly_slope" = true)
    (k_poly_slope : PySem.W.keepIn K (.ref f_poly_slope) = true)
    (a_content : PySem.W.nsIn K mainGlobals "content" = some (some (.ref f_content)))
    (l_content : K.lookup f_content = some ⟨oc_content, od_content, .func (PySem.W.fnOf "content" "content" (defArgs s_content) (defBody s_content) (defScope s_content) .none kV_content dc_content pm_content an_content cd_content ct_content), sl_content⟩)
    (c_content : PySem.W.codeIn K cd_content "content" = true)
    (k_content : PySem.W.keepIn K (.ref f_content) = true)
    (a_poly_plain : PySem.W.nsIn K mainGlobals "poly_plain" = some (some (.ref f_poly_plain)))
    (l_poly_plain : K.lookup f_poly_plain = some ⟨oc_poly_plain, od_poly_plain, .func (PySem.W.fnOf "poly_plain" "poly_plain" (defArgs s_poly_plain) (defBody s_poly_plain) (defScope s_poly_plain) .none kV_poly_plain dc_poly_plain pm_poly_plain an_poly_plain cd_poly_plain ct_poly_plain), sl_poly_plain⟩)
    (c_poly_plain : PySem.W.codeIn K cd_poly_plain "poly_plain" = true)
    (k_poly_plain : PySem.W.keepIn K (.ref f_poly_plain) = true)
    (a_check_line : PySem.W.nsIn K mainGlobals "check_line" = some (some (.ref f_check_line)))
    (l_check_line : K.lookup f_check_line = some ⟨oc_check_line, od_check_line, .func (PySem.W.fnOf "check_line" "check_line" (defArgs s_check_line) (defBody s_check_line) (defScope s_check_line) .none kV_check_line dc_check_line pm_check_line an_check_line cd_check_line ct_check_line), sl_check_line⟩)
    (c_check_line : PySem.W.codeIn K cd_check_line "check_line" = true)
    (k_check_line : PySem.W.keepIn K (.ref f_check_line) = true)
    (a_check_lines : PySem.W.nsIn K mainGlobals "check_lines" = some (some (.ref f_check_lines)))
    (l_check_lines : K.lookup f_check_lines = some ⟨oc_check_lines, od_check_lines, .func (PySem.W.fnOf "check_lines" "check_lines" (defArgs s_check_lines) (defBody s_check_lines) (defScope s_check_lines) .none kV_check_lines dc_check_lines pm_check_lines an_check_lines cd_check_lines ct_check_lines), sl_check_lines⟩)
    (c_check_lines : PySem.W.codeIn K cd_check_lines "check_lines" = true)
    (k_check_lines : PySem.W.keepIn K (.ref f_check_lines) = true)
    (a_degree : PySem.W.nsIn K mainGlobals "degree" = some (some (.ref f_degree)))
    (l_degree : K.lookup f_degree = some ⟨oc_degree, od_degree, .func (PySem.W.fnOf "degree" "degree" (defArgs s_degree) (defBody s_degree) (defScope s_degree) .none kV_degree dc_degree pm_degree an_degree cd_degree ct_degree), sl_degree⟩)
    (c_degree : PySem.W.codeIn K cd_degree "degree" = true)
    (k_degree : PySem.W.keepIn K (.ref f_degree) = true)
    (a_line_value : PySem.W.nsIn K mainGlobals "line_value" = some (some (.ref f_line_value)))
    (l_line_value : K.lookup f_line_value = some ⟨oc_line_value, od_line_value, .func (PySem.W.fnOf "line_value" "line_value" (defArgs s_line_value) (defBody s_line_value) (defScope s_line_value) .none kV_line_value dc_line_value pm_line_value an_line_value cd_line_value ct_line_value), sl_line_value⟩)
    (c_line_value : PySem.W.codeIn K cd_line_value "line_value" = true)
    (k_line_value : PySem.W.keepIn K (.ref f_line_value) = true)
    (a_line_slope : PySem.W.nsIn K mainGlobals "line_slope" = some (some (.ref f_line_slope)))
    (l_line_slope : K.lookup f_line_slope = some ⟨oc_line_slope, od_line_slope, .func (PySem.W.fnOf "line_slope" "line_slope" (defArgs s_line_slope) (defBody s_line_slope) (defScope s_line_slope) .none kV_line_slope dc_line_slope pm_line_slope an_line_slope cd_line_slope ct_line_slope), sl_line_slope⟩)
    (c_line_slope : PySem.W.codeIn K cd_line_slope "line_slope" = true)
    (k_line_slope : PySem.W.keepIn K (.ref f_line_slope) = true)
    (a_plain_line : PySem.W.nsIn K mainGlobals "plain_line" = some (some (.ref f_plain_line)))
    (l_plain_line : K.lookup f_plain_line = some ⟨oc_plain_line, od_plain_line, .func (PySem.W.fnOf "plain_line" "plain_line" (defArgs s_plain_line) (defBody s_plain_line) (defScope s_plain_line) .none kV_plain_line dc_plain_line pm_plain_line an_plain_line cd_plain_line ct_plain_line), sl_plain_line⟩)
    (c_plain_line : PySem.W.codeIn K cd_plain_line "plain_line" = true)
    (k_plain_line : PySem.W.keepIn K (.ref f_plain_line) = true)
    (a_line_sum : PySem.W.nsIn K mainGlobals "line_sum" = some (some (.ref f_line_sum)))
    (l_line_sum : K.lookup f_line_sum = some ⟨oc_line_sum, od_line_sum, .func (PySem.W.fnOf "line_sum" "line_sum" (defArgs s_line_sum) (defBody s_line_sum) (defScope s_line_sum) .none kV_line_sum dc_line_sum pm_line_sum an_line_sum cd_line_sum ct_line_sum), sl_line_sum⟩)
    (c_line_sum : PySem.W.codeIn K cd_line_sum "line_sum" = true)
    (k_line_sum : PySem.W.keepIn K (.ref f_line_sum) = true)
    (a_line_less : PySem.W.nsIn K mainGlobals "line_less" = some (some (.ref f_line_less)))
    (l_line_less : K.lookup f_line_less = some ⟨oc_line_less, od_line_less, .func (PySem.W.fnOf "line_less" "line_less" (defArgs s_line_less) (defBody s_line_less) (defScope s_line_less) .none kV_line_less dc_line_less pm_line_less an_line_less cd_line_less ct_line_less), sl_line_less⟩)
    (c_line_less : PySem.W.codeIn K cd_line_less "line_less" = true)
    (k_line_less : PySem.W.keepIn K (.ref f_line_less) = true)
    (a_line_times : PySem.W.nsIn K mainGlobals "line_times" = some (some (.ref f_line_times)))
    (l_line_times : K.lookup f_line_times = some ⟨oc_line_times, od_line_times, .func (PySem.W.fnOf "line_times" "line_times" (defArgs s_line_times) (defBody s_line_times) (defScope s_line_times) .none kV_line_times dc_line_times pm_line_times an_line_times cd_line_times ct_line_times), sl_line_times⟩)
    (c_line_times : PySem.W.codeIn K cd_line_times "line_times" = true)
    (k_line_times : PySem.W.keepIn K (.ref f_line_times) = true)
    (a__law_trim : PySem.W.nsIn K mainGlobals "_law_trim" = some (some (.ref f__law_trim)))
    (l__law_trim : K.lookup f__law_trim = some ⟨oc__law_trim, od__law_trim, .func (PySem.W.fnOf "_law_trim" "_law_trim" (defArgs s__law_trim) (defBody s__law_trim) (defScope s__law_trim) .none kV__law_trim dc__law_trim pm__law_trim an__law_trim cd__law_trim ct__law_trim), sl__law_trim⟩)
    (c__law_trim : PySem.W.codeIn K cd__law_trim "_law_trim" = true)
    (k__law_trim : PySem.W.keepIn K (.ref f__law_trim) = true)
    (a__law_sum : PySem.W.nsIn K mainGlobals "_law_sum" = some (some (.ref f__law_sum)))
    (l__law_sum : K.lookup f__law_sum = some ⟨oc__law_sum, od__law_sum, .func (PySem.W.fnOf "_law_sum" "_law_sum" (defArgs s__law_sum) (defBody s__law_sum) (defScope s__law_sum) .none kV__law_sum dc__law_sum pm__law_sum an__law_sum cd__law_sum ct__law_sum), sl__law_sum⟩)
    (c__law_sum : PySem.W.codeIn K cd__law_sum "_law_sum" = true)
    (k__law_sum : PySem.W.keepIn K (.ref f__law_sum) = true)
    (a__law_times : PySem.W.nsIn K mainGlobals "_law_times" = some (some (.ref f__law_times)))
    (l__law_times : K.lookup f__law_times = some ⟨oc__law_times, od__law_times, .func (PySem.W.fnOf "_law_times" "_law_times" (defArgs s__law_times) (defBody s__law_times) (defScope s__law_times) .none kV__law_times dc__law_times pm__law_times an__law_times cd__law_times ct__law_times), sl__law_times⟩)
    (c__law_times : PySem.W.codeIn K cd__law_times "_law_times" = true)
    (k__law_times : PySem.W.keepIn K (.ref f__law_times) = true)
    (a__law_value : PySem.W.nsIn K mainGlobals "_law_value" = some (some (.ref f__law_value)))
    (l__law_value : K.lookup f__law_value = some ⟨oc__law_value, od__law_value, .func (PySem.W.fnOf "_law_value" "_law_value" (defArgs s__law_value) (defBody s__law_value) (defScope s__law_value) .none kV__law_value dc__law_value pm__law_value an__law_value cd__law_value ct__law_value), sl__law_value⟩)
    (c__law_value : PySem.W.codeIn K cd__law_value "_law_value" = true)
    (k__law_value : PySem.W.keepIn K (.ref f__law_value) = true)
    (a__law_slope : PySem.W.nsIn K mainGlobals "_law_slope" = some (some (.ref f__law_slope)))
    (l__law_slope : K.lookup f__law_slope = some ⟨oc__law_slope, od__law_slope, .func (PySem.W.fnOf "_law_slope" "_law_slope" (defArgs s__law_slope) (defBody s__law_slope) (defScope s__law_slope) .none kV__law_slope dc__law_slope pm__law_slope an__law_slope cd__law_slope ct__law_slope), sl__law_slope⟩)
    (c__law_slope : PySem.W.codeIn K cd__law_slope "_law_slope" = true)
    (k__law_slope : PySem.W.keepIn K (.ref f__law_slope) = true)
    (a__law_greatest : PySem.W.nsIn K mainGlobals "_law_greatest" = some (some (.ref f__law_greatest)))
    (l__law_greatest : K.lookup f__law_greatest = some ⟨oc__law_greatest, od__law_greatest, .func (PySem.W.fnOf "_law_greatest" "_law_greatest" (defArgs s__law_greatest) (defBody s__law_greatest) (defScope s__law_greatest) .none kV__law_greatest dc__law_greatest pm__law_greatest an__law_greatest cd__law_greatest ct__law_greatest), sl__law_greatest⟩)
    (c__law_greatest : PySem.W.codeIn K cd__law_greatest "_law_greatest" = true)
    (k__law_greatest : PySem.W.keepIn K (.ref f__law_greatest) = true)
    (a__law_plain : PySem.W.nsIn K mainGlobals "_law_plain" = some (some (.ref f__law_plain)))
    (l__law_plain : K.lookup f__law_plain = some ⟨oc__law_plain, od__law_plain, .func (PySem.W.fnOf "_law_plain" "_law_plain" (defArgs s__law_plain) (defBody s__law_plain) (defScope s__law_plain) .none kV__law_plain dc__law_plain pm__law_plain an__law_plain cd__law_plain ct__law_plain), sl__law_plain⟩)
    (c__law_plain : PySem.W.codeIn K cd__law_plain "_law_plain" = true)
    (k__law_plain : PySem.W.keepIn K (.ref f__law_plain) = true)
    (a__law_drawn : PySem.W.nsIn K mainGlobals "_law_drawn" = some (some (.ref f__law_drawn)))
    (l__law_drawn : K.lookup f__law_drawn = some ⟨oc__law_drawn, od__law_drawn, .func (PySem.W.fnOf "_law_drawn" "_law_drawn" (defArgs s__law_drawn) (defBody s__law_drawn) (defScope s__law_drawn) .none kV__law_drawn dc__law_drawn pm__law_drawn an__law_drawn cd__law_drawn ct__law_drawn), sl__law_drawn⟩)
    (c__law_drawn : PySem.W.codeIn K cd__law_drawn "_law_drawn" = true)
    (k__law_drawn : PySem.W.keepIn K (.ref f__law_drawn) = true)
    (a__law_pair_right : PySem.W.nsIn K mainGlobals "_law_pair_right" = some (some (.ref f__law_pair_right)))
    (l__law_pair_right : K.lookup f__law_pair_right = some ⟨oc__law_pair_right, od__law_pair_right, .func (PySem.W.fnOf "_law_pair_right" "_law_pair_right" (defArgs s__law_pair_right) (defBody s__law_pair_right) (defScope s__law_pair_right) .none kV__law_pair_right dc__law_pair_right pm__law_pair_right an__law_pair_right cd__law_pair_right ct__law_pair_right), sl__law_pair_right⟩)
    (c__law_pair_right : PySem.W.codeIn K cd__law_pair_right "_law_pair_right" = true)
    (k__law_pair_right : PySem.W.keepIn K (.ref f__law_pair_right) = true)
    (a__law_one_right : PySem.W.nsIn K mainGlobals "_law_one_right" = some (some (.ref f__law_one_right)))
    (l__law_one_right : K.lookup f__law_one_right = some ⟨oc__law_one_right, od__law_one_right, .func (PySem.W.fnOf "_law_one_right" "_law_one_right" (defArgs s__law_one_right) (defBody s__law_one_right) (defScope s__law_one_right) .none kV__law_one_right dc__law_one_right pm__law_one_right an__law_one_right cd__law_one_right ct__law_one_right), sl__law_one_right⟩)
    (c__law_one_right : PySem.W.codeIn K cd__law_one_right "_law_one_right" = true)
    (k__law_one_right : PySem.W.keepIn K (.ref f__law_one_right) = true)
    (a__law_right : PySem.W.nsIn K mainGlobals "_law_right" = some (some (.ref f__law_right)))
    (l__law_right : K.lookup f__law_right = some ⟨oc__law_right, od__law_right, .func (PySem.W.fnOf "_law_right" "_law_right" (defArgs s__law_right) (defBody s__law_right) (defScope s__law_right) .none kV__law_right dc__law_right pm__law_right an__law_right cd__law_right ct__law_right), sl__law_right⟩)
    (c__law_right : PySem.W.codeIn K cd__law_right "_law_right" = true)
    (k__law_right : PySem.W.keepIn K (.ref f__law_right) = true)
    (a_law : PySem.W.nsIn K mainGlobals "law" = some (some (.ref f_law)))
    (l_law : K.lookup f_law = some ⟨oc_law, od_law, .func (PySem.W.fnOf "law" "law" (defArgs s_law) (defBody s_law) (defScope s_law) .none kV_law dc_law pm_law an_law cd_law ct_law), sl_law⟩)
    (c_law : PySem.W.codeIn K cd_law "law" = true)
    (k_law : PySem.W.keepIn K (.ref f_law) = true)
    (z_abs : PySem.W.nsIn K mainGlobals "abs" = some none)
    (z_all : PySem.W.nsIn K mainGlobals "all" = some none)
    (z_bool : PySem.W.nsIn K mainGlobals "bool" = some none)
    (z_LINE_DEGREE : PySem.W.nsIn K mainGlobals "LINE_DEGREE" = some (some (.int 12 t_LINE_DEGREE)))
    (z_divmod : PySem.W.nsIn K mainGlobals "divmod" = some none)
    (z_enumerate : PySem.W.nsIn K mainGlobals "enumerate" = some none)
    (z_int : PySem.W.nsIn K mainGlobals "int" = some none)
    (z_isinstance : PySem.W.nsIn K mainGlobals "isinstance" = some none)
    (z_len : PySem.W.nsIn K mainGlobals "len" = some none)
    (z_list : PySem.W.nsIn K mainGlobals "list" = some none)
    (z_gcd : PySem.W.nsIn K mainGlobals "gcd" = some (some (.builtin "math.gcd")))
    (z_max : PySem.W.nsIn K mainGlobals "max" = some none)
    (z_range : PySem.W.nsIn K mainGlobals "range" = some none)
    (z_repr : PySem.W.nsIn K mainGlobals "repr" = some none)
    (z_tuple : PySem.W.nsIn K mainGlobals "tuple" = some none)
    (z_zip : PySem.W.nsIn K mainGlobals "zip" = some none) :
    Top K mg where
  d__law_pot := ⟨_, _, fun_mk l__law_pot c__law_pot k__law_pot, PySem.W.mg_of X G a__law_pot, (fun_mk l__law_pot c__law_pot k__law_pot).binds (ps := ["_law_script", "_law_k"]) fun _ _ _ _ _ _ us hl => match us, hl with | [_, _], _ => rfl⟩
  d__law_draw := ⟨_, _, fun_mk l__law_draw c__law_draw k__law_draw, PySem.W.mg_of X G a__law_draw, (fun_mk l__law_draw c__law_draw k__law_draw).binds (ps := ["_law_pot_here", "_law_many"]) fun _ _ _ _ _ _ us hl => match us, hl with | [_, _], _ => rfl⟩
  d__law_pick := ⟨_, _, fun_mk l__law_pick c__law_pick k__law_pick, PySem.W.mg_of X G a__law_pick, (fun_mk l__law_pick c__law_pick k__law_pick).binds (ps := ["_law_pot_here", "_law_some"]) fun _ _ _ _ _ _ us hl => match us, hl with | [_, _], _ => rfl⟩
  d__law_line := ⟨_, _, fun_mk l__law_line c__law_line k__law_line, PySem.W.mg_of X G a__law_line, (fun_mk l__law_line c__law_line k__law_line).binds (ps := ["_law_pot_here", "_law_most", "_law_wide"]) fun _ _ _ _ _ _ us hl => match us, hl with | [_, _, _], _ => rfl⟩
  d_is_integer := ⟨_, _, fun_mk l_is_integer c_is_integer k_is_integer, PySem.W.mg_of X G a_is_integer, (fun_mk l_is_integer c_is_integer k_is_integer).binds (ps := ["value"]) fun _ _ _ _ _ _ us hl => match us, hl with | [_], _ => rfl⟩
  d_is_list := ⟨_, _, fun_mk l_is_list c_is_list k_is_list, PySem.W.mg_of X G a_is_list, (fun_mk l_is_list c_is_list k_is_list).binds (ps := ["value"]) fun _ _ _ _ _ _ us hl => match us, hl with | [_], _ => rfl⟩
  d_check_number := ⟨_, _, fun_mk l_check_number c_check_number k_check_number, PySem.W.mg_of X G a_check_number, (fun_mk l_check_number c_check_number k_check_number).binds (ps := ["number"]) fun _ _ _ _ _ _ us hl => match us, hl with | [_], _ => rfl⟩
  d_is_line := ⟨_, _, fun_mk l_is_line c_is_line k_is_line, PySem.W.mg_of X G a_is_line, (fun_mk l_is_line c_is_line k_is_line).binds (ps := ["value"]) fun _ _ _ _ _ _ us hl => match us, hl with | [_], _ => rfl⟩
  d_trimmed := ⟨_, _, fun_mk l_trimmed c_trimmed k_trimmed, PySem.W.mg_of X G a_trimmed, (fun_mk l_trimmed c_trimmed k_trimmed).binds (ps := ["numbers"]) fun _ _ _ _ _ _ us hl => match us, hl with | [_], _ => rfl⟩
  d_scaled := ⟨_, _, fun_mk l_scaled c_scaled k_scaled, PySem.W.mg_of X G a_scaled, (fun_mk l_scaled c_scaled k_scaled).binds (ps := ["numbers", "factor"]) fun _ _ _ _ _ _ us hl => match us, hl with | [_, _], _ => rfl⟩
  d_poly_sum := ⟨_, _, fun_mk l_poly_sum c_poly_sum k_poly_sum, PySem.W.mg_of X G a_poly_sum, (fun_mk l_poly_sum c_poly_sum k_poly_sum).binds (ps := ["one", "two"]) fun _ _ _ _ _ _ us hl => match us, hl with | [_, _], _ => rfl⟩
  d_poly_less := ⟨_, _, fun_mk l_poly_less c_poly_less k_poly_less, PySem.W.mg_of X G a_poly_less, (fun_mk l_poly_less c_poly_less k_poly_less).binds (ps := ["one", "two"]) fun _ _ _ _ _ _ us hl => match us, hl with | [_, _], _ => rfl⟩
  d_poly_times := ⟨_, _, fun_mk l_poly_times c_poly_times k_poly_times, PySem.W.mg_of X G a_poly_times, (fun_mk l_poly_times c_poly_times k_poly_times).binds (ps := ["one", "two"]) fun _ _ _ _ _ _ us hl => match us, hl with | [_, _], _ => rfl⟩
  d_poly_value := ⟨_, _, fun_mk l_poly_value c_poly_value k_poly_value, PySem.W.mg_of X G a_poly_value, (fun_mk l_poly_value c_poly_value k_poly_value).binds (ps := ["numbers", "place"]) fun _ _ _ _ _ _ us hl => match us, hl with | [_, _], _ => rfl⟩
  d_poly_slope := ⟨_, _, fun_mk l_poly_slope c_poly_slope k_poly_slope, PySem.W.mg_of X G a_poly_slope, (fun_mk l_poly_slope c_poly_slope k_poly_slope).binds (ps := ["numbers"]) fun _ _ _ _ _ _ us hl => match us, hl with | [_], _ => rfl⟩
  d_content := ⟨_, _, fun_mk l_content c_content k_content, PySem.W.mg_of X G a_content, (fun_mk l_content c_content k_content).binds (ps := ["numbers"]) fun _ _ _ _ _ _ us hl => match us, hl with | [_], _ => rfl⟩
  d_poly_plain := ⟨_, _, fun_mk l_poly_plain c_poly_plain k_poly_plain, PySem.W.mg_of X G a_poly_plain, (fun_mk l_poly_plain c_poly_plain k_poly_plain).binds (ps := ["numbers"]) fun _ _ _ _ _ _ us hl => match us, hl with | [_], _ => rfl⟩
  d_check_line := ⟨_, _, fun_mk l_check_line c_check_line k_check_line, PySem.W.mg_of X G a_check_line, (fun_mk l_check_line c_check_line k_check_line).binds (ps := ["line"]) fun _ _ _ _ _ _ us hl => match us, hl with | [_], _ => rfl⟩
  d_check_lines := ⟨_, _, fun_mk l_check_lines c_check_lines k_check_lines, PySem.W.mg_of X G a_check_lines, (fun_mk l_check_lines c_check_lines k_check_lines).binds (ps := ["line", "other"]) fun _ _ _ _ _ _ us hl => match us, hl with | [_, _], _ => rfl⟩
  d_degree := ⟨_, _, fun_mk l_degree c_degree k_degree, PySem.W.mg_of X G a_degree, (fun_mk l_degree c_degree k_degree).binds (ps := ["line"]) fun _ _ _ _ _ _ us hl => match us, hl with | [_], _ => rfl⟩
  d_line_value := ⟨_, _, fun_mk l_line_value c_line_value k_line_value, PySem.W.mg_of X G a_line_value, (fun_mk l_line_value c_line_value k_line_value).binds (ps := ["line", "number"]) fun _ _ _ _ _ _ us hl => match us, hl with | [_, _], _ => rfl⟩
  d_line_slope := ⟨_, _, fun_mk l_line_slope c_line_slope k_line_slope, PySem.W.mg_of X G a_line_slope, (fun_mk l_line_slope c_line_slope k_line_slope).binds (ps := ["line"]) fun _ _ _ _ _ _ us hl => match us, hl with | [_], _ => rfl⟩
  d_plain_line := ⟨_, _, fun_mk l_plain_line c_plain_line k_plain_line, PySem.W.mg_of X G a_plain_line, (fun_mk l_plain_line c_plain_line k_plain_line).binds (ps := ["line"]) fun _ _ _ _ _ _ us hl => match us, hl with | [_], _ => rfl⟩
  d_line_sum := ⟨_, _, fun_mk l_line_sum c_line_sum k_line_sum, PySem.W.mg_of X G a_line_sum, (fun_mk l_line_sum c_line_sum k_line_sum).binds (ps := ["line", "other"]) fun _ _ _ _ _ _ us hl => match us, hl with | [_, _], _ => rfl⟩
  d_line_less := ⟨_, _, fun_mk l_line_less c_line_less k_line_less, PySem.W.mg_of X G a_line_less, (fun_mk l_line_less c_line_less k_line_less).binds (ps := ["line", "other"]) fun _ _ _ _ _ _ us hl => match us, hl with | [_, _], _ => rfl⟩
  d_line_times := ⟨_, _, fun_mk l_line_times c_line_times k_line_times, PySem.W.mg_of X G a_line_times, (fun_mk l_line_times c_line_times k_line_times).binds (ps := ["line", "other"]) fun _ _ _ _ _ _ us hl => match us, hl with | [_, _], _ => rfl⟩
  d__law_trim := ⟨_, _, fun_mk l__law_trim c__law_trim k__law_trim, PySem.W.mg_of X G a__law_trim, (fun_mk l__law_trim c__law_trim k__law_trim).binds (ps := ["_law_numbers"]) fun _ _ _ _ _ _ us hl => match us, hl with | [_], _ => rfl⟩
  d__law_sum := ⟨_, _, fun_mk l__law_sum c__law_sum k__law_sum, PySem.W.mg_of X G a__law_sum, (fun_mk l__law_sum c__law_sum k__law_sum).binds (ps := ["_law_line_here", "_law_other", "_law_factor"]) fun _ _ _ _ _ _ us hl => match us, hl with | [_, _, _], _ => rfl⟩
  d__law_times := ⟨_, _, fun_mk l__law_times c__law_times k__law_times, PySem.W.mg_of X G a__law_times, (fun_mk l__law_times c__law_times k__law_times).binds (ps := ["_law_line_here", "_law_other"]) fun _ _ _ _ _ _ us hl => match us, hl with | [_, _], _ => rfl⟩
  d__law_value := ⟨_, _, fun_mk l__law_value c__law_value k__law_value, PySem.W.mg_of X G a__law_value, (fun_mk l__law_value c__law_value k__law_value).binds (ps := ["_law_line_here", "_law_number"]) fun _ _ _ _ _ _ us hl => match us, hl with | [_, _], _ => rfl⟩
  d__law_slope := ⟨_, _, fun_mk l__law_slope c__law_slope k__law_slope, PySem.W.mg_of X G a__law_slope, (fun_mk l__law_slope c__law_slope k__law_slope).binds (ps := ["_law_line_here"]) fun _ _ _ _ _ _ us hl => match us, hl with | [_], _ => rfl⟩
  d__law_greatest := ⟨_, _, fun_mk l__law_greatest c__law_greatest k__law_greatest, PySem.W.mg_of X G a__law_greatest, (fun_mk l__law_greatest c__law_greatest k__law_greatest).binds (ps := ["_law_some"]) fun _ _ _ _ _ _ us hl => match us, hl with | [_], _ => rfl⟩
  d__law_plain := ⟨_, _, fun_mk l__law_plain c__law_plain k__law_plain, PySem.W.mg_of X G a__law_plain, (fun_mk l__law_plain c__law_plain k__law_plain).binds (ps := ["_law_line_here"]) fun _ _ _ _ _ _ us hl => match us, hl with | [_], _ => rfl⟩
  d__law_drawn := ⟨_, _, fun_mk l__law_drawn c__law_drawn k__law_drawn, PySem.W.mg_of X G a__law_drawn, (fun_mk l__law_drawn c__law_drawn k__law_drawn).binds (ps := ["_law_pot_here"]) fun _ _ _ _ _ _ us hl => match us, hl with | [_], _ => rfl⟩
  d__law_pair_right := ⟨_, _, fun_mk l__law_pair_right c__law_pair_right k__law_pair_right, PySem.W.mg_of X G a__law_pair_right, (fun_mk l__law_pair_right c__law_pair_right k__law_pair_right).binds (ps := ["_law_pot_here", "_law_one", "_law_other"]) fun _ _ _ _ _ _ us hl => match us, hl with | [_, _, _], _ => rfl⟩
  d__law_one_right := ⟨_, _, fun_mk l__law_one_right c__law_one_right k__law_one_right, PySem.W.mg_of X G a__law_one_right, (fun_mk l__law_one_right c__law_one_right k__law_one_right).binds (ps := ["_law_pot_here", "_law_one"]) fun _ _ _ _ _ _ us hl => match us, hl with | [_, _], _ => rfl⟩
  d__law_right := ⟨_, _, fun_mk l__law_right c__law_right k__law_right, PySem.W.mg_of X G a__law_right, (fun_mk l__law_right c__law_right k__law_right).binds (ps := ["_law_pot_here"]) fun _ _ _ _ _ _ us hl => match us, hl with | [_], _ => rfl⟩
  d_law := ⟨_, _, fun_mk l_law c_law k_law, PySem.W.mg_of X G a_law, (fun_mk l_law c_law k_law).binds (ps := ["_law_script"]) fun _ _ _ _ _ _ us hl => match us, hl with | [_], _ => rfl⟩
  n_abs := PySem.W.mg_none_of X G z_abs
  n_all := PySem.W.mg_none_of X G z_all
  n_bool := PySem.W.mg_none_of X G z_bool
  c_LINE_DEGREE := ⟨_, PySem.W.mg_of X G z_LINE_DEGREE⟩
  n_divmod := PySem.W.mg_none_of X G z_divmod
  n_enumerate := PySem.W.mg_none_of X G z_enumerate
  n_int := PySem.W.mg_none_of X G z_int
  n_isinstance := PySem.W.mg_none_of X G z_isinstance
  n_len := PySem.W.mg_none_of X G z_len
  n_list := PySem.W.mg_none_of X G z_list
  m_gcd := PySem.W.mg_of X G z_gcd
  n_max := PySem.W.mg_none_of X G z_max
  n_range := PySem.W.mg_none_of X G z_range
  n_repr := PySem.W.mg_none_of X G z_repr
  n_tuple := PySem.W.mg_none_of X G z_tuple
  n_zip := PySem.W.mg_none_of X G z_zip
theorem law_mk {P : Program} {w : World} {K : PySem.W.Frag} {mg : Str → Option Value} {fa : Addr} (T : Top K mg) (hfa : mg "law" = some (.ref fa)) :
    ∃ fd : FuncData, (∀ (s : Shared) (u : Value), BindsTo s fd ⟨[u], []⟩ [("_law_script", u)]) ∧
      ∀ base : Heap, K.In base → base.Ns mainGlobals mg → FnG P w K mg base CX0 8 fa fd ["_law_script"] (spLaw K) := by
  obtain ⟨f, fd, F, g, b⟩ := T.d_law.ex
  cases hfa.symm.trans g
  refine ⟨fd, fun s u => ?_, fun base _ _ => ?_⟩
  · obtain ⟨oc, od, kV, doc, pm, an, cdv, ct, osl, rfl, _, _⟩ := F.ex
    exact .of_eq rfl
  · skip
    have C__law_pot := ok__law_pot (P := P) (w := w) (base := base) T
    have C__law_draw := ok__law_draw (P := P) (w := w) (base := base) T
    have C__law_pick := ok__law_pick (P := P) (w := w) (base := base) T C__law_draw
    have C__law_line := ok__law_line (P := P) (w := w) (base := base) T C__law_draw C__law_pick
    have C_is_integer := ok_is_integer (P := P) (w := w) (base := base) T
    have C_is_list := ok_is_list (P := P) (w := w) (base := base) T
    have C_check_number := ok_check_number (P := P) (w := w) (base := base) T C_is_integer
    have C_is_line := ok_is_line (P := P) (w := w) (base := base) T C_is_integer C_is_list
    have C_trimmed := ok_trimmed (P := P) (w := w) (base := base) T
    have C_scaled := ok_scaled (P := P) (w := w) (base := base) T C_trimmed
    have C_poly_sum := ok_poly_sum (P := P) (w := w) (base := base) T C_trimmed
    have C_poly_less := ok_poly_less (P := P) (w := w) (base := base) T C_poly_sum C_scaled
    have C_poly_times := ok_poly_times (P := P) (w := w) (base := base) T
    have C_poly_value := ok_poly_value (P := P) (w := w) (base := base) T
    have C_poly_slope := ok_poly_slope (P := P) (w := w) (base := base) T
    have C_content := ok_content (P := P) (w := w) (base := base) T
    have C_poly_plain := ok_poly_plain (P := P) (w := w) (base := base) T C_content
    have C_check_line := ok_check_line (P := P) (w := w) (base := base) T C_is_line
    have C_check_lines := ok_check_lines (P := P) (w := w) (base := base) T C_check_line
    have C_degree := ok_degree (P := P) (w := w) (base := base) T C_check_line
    have C_line_value := ok_line_value (P := P) (w := w) (base := base) T C_check_line C_check_number C_poly_value
    have C_line_slope := ok_line_slope (P := P) (w := w) (base := base) T C_check_line C_poly_slope
    have C_plain_line := ok_plain_line (P := P) (w := w) (base := base) T C_check_line C_poly_plain
    have C_line_sum := ok_line_sum (P := P) (w := w) (base := base) T C_check_lines C_poly_sum
    have C_line_less := ok_line_less (P := P) (w := w) (base := base) T C_check_lines C_poly_less
    have C_line_times := ok_line_times (P := P) (w := w) (base := base) T C_check_lines C_poly_times
    have C__law_trim := ok__law_trim (P := P) (w := w) (base := base) T
    have C__law_sum := ok__law_sum (P := P) (w := w) (base := base) T C__law_trim
    have C__law_times := ok__law_times (P := P) (w := w) (base := base) T C__law_trim
    have C__law_value := ok__law_value (P := P) (w := w) (base := base) T
    have C__law_slope := ok__law_slope (P := P) (w := w) (base := base) T
    have C__law_greatest := ok__law_greatest (P := P) (w := w) (base := base) T
    have C__law_plain := ok__law_plain (P := P) (w := w) (base := base) T C__law_greatest
    have C__law_drawn := ok__law_drawn (P := P) (w := w) (base := base) T C__law_draw C__law_line
    have C__law_pair_right := ok__law_pair_right (P := P) (w := w) (base := base) T C__law_draw C__law_slope C__law_sum C__law_times C__law_value C_line_less C_line_slope C_line_sum C_line_times C_line_value
    have C__law_one_right := ok__law_one_right (P := P) (w := w) (base := base) T C__law_pick C__law_plain C__law_slope C_degree C_line_less C_line_slope C_line_sum C_line_times C_plain_line
    have C__law_right := ok__law_right (P := P) (w := w) (base := base) T C__law_drawn C__law_one_right C__law_pair_right C_line_sum C_line_times
    exact fn_law T C__law_pot C__law_right F
end Kr
open PySem PySem.W PyProof.Rows
set_option maxHeartbeats 0 in
theorem PySem.Challenge.cw_curvepieces_k11_whole_sums_products_valu_holds : PySem.Challenge.rw_curvepieces_k11_whole_sums_products_valu.Holds := by
  w_on; o_law; k_head; (case hw => w_witness2)
  k_fill
  refine Kr.walkG (l := PySem.Challenge.rw_curvepieces_k11_whole_sums_products_valu) (n := 63) (k := 8) (x := "_law_script") (sp := fun K => Kr.spLaw K) rfl (by decide) rfl ⟨rfl, by decide, by decide⟩ (fun w h Y => PySem.W.kIn_of Y) ?F (fun _ _ a ns hl hS => ⟨a, ns, rfl, hS, hl, fun _ => rfl⟩)
  case F =>
    intro w mg fa h KX G hmg
    refine' Kr.law_mk (Kr.top_mk KX G ?a__law_pot ?l__law_pot ?c__law_pot ?k__law_pot ?a__law_draw ?l__law_draw ?c__law_draw ?k__law_draw ?a__law_pick ?l__law_pick ?c__law_pick ?k__law_pick ?a__law_line ?l__law_line ?c__law_line ?k__law_line ?a_is_integer ?l_is_integer ?c_is_integer ?k_is_integer ?a_is_list ?l_is_list ?c_is_list ?k_is_list ?a_check_number ?l_check_number ?c_check_number ?k_check_number ?a_is_line ?l_is_line ?c_is_line ?k_is_line ?a_trimmed ?l_trimmed ?c_trimmed ?k_trimmed ?a_scaled ?l_scaled ?c_scaled ?k_scaled ?a_poly_sum ?l_poly_sum ?c_poly_sum ?k_poly_sum ?a_poly_less ?l_poly_less ?c_poly_less ?k_poly_less ?a_poly_times ?l_poly_times ?c_poly_times ?k_poly_times ?a_poly_value ?l_poly_value ?c_poly_value ?k_poly_value ?a_poly_slope ?l_poly_slope ?c_poly_slope ?k_poly_slope ?a_content ?l_content ?c_content ?k_content ?a_poly_plain ?l_poly_plain ?c_poly_plain ?k_poly_plain ?a_check_line ?l_check_line ?c_check_line ?k_check_line ?a_check_lines ?l_check_lines ?c_check_lines ?k_check_lines ?a_degree ?l_degree ?c_degree ?k_degree ?a_line_value ?l_line_value ?c_line_value ?k_line_value ?a_line_slope ?l_line_slope ?c_line_slope ?k_line_slope ?a_plain_line ?l_plain_line ?c_plain_line ?k_plain_line ?a_line_sum ?l_line_sum ?c_line_sum ?k_line_sum ?a_line_less ?l_line_less ?c_line_less ?k_line_less ?a_line_times ?l_line_times ?c_line_times ?k_line_times ?a__law_trim ?l__law_trim ?c__law_trim ?k__law_trim ?a__law_sum ?l__law_sum ?c__law_sum ?k__law_sum ?a__law_times ?l__law_times ?c__law_times ?k__law_times ?a__law_value ?l__law_value ?c__law_value ?k__law_value ?a__law_slope ?l__law_slope ?c__law_slope ?k__law_slope ?a__law_greatest ?l__law_greatest ?c__law_greatest ?k__law_greatest ?a__law_plain ?l__law_plain ?c__law_plain ?k__law_plain ?a__law_drawn ?l__law_drawn ?c__law_drawn ?k__law_drawn ?a__law_pair_right ?l__law_pair_right ?c__law_pair_right ?k__law_pair_right ?a__law_one_right ?l__law_one_right ?c__law_one_right ?k__law_one_right ?a__law_right ?l__law_right ?c__law_right ?k__law_right ?a_law ?l_law ?c_law ?k_law ?z_abs ?z_all ?z_bool ?z_LINE_DEGREE ?z_divmod ?z_enumerate ?z_int ?z_isinstance ?z_len ?z_list ?z_gcd ?z_max ?z_range ?z_repr ?z_tuple ?z_zip) hmg
    (case a__law_pot => k_is)
    (case l__law_pot => k_is)
    (case c__law_pot => k_is)
    (case k__law_pot => k_is)
    (case a__law_draw => k_is)
    (case l__law_draw => k_is)
    (case c__law_draw => k_is)
    (case k__law_draw => k_is)
    (case a__law_pick => k_is)
    (case l__law_pick => k_is)
    (case c__law_pick => k_is)
    (case k__law_pick => k_is)
    (case a__law_line => k_is)
    (case l__law_line => k_is)
    (case c__law_line => k_is)
    (case k__law_line => k_is)
    (case a_is_integer => k_is)
    (case l_is_integer => k_is)
    (case c_is_integer => k_is)
    (case k_is_integer => k_is)
    (case a_is_list => k_is)
    (case l_is_list => k_is)
    (case c_is_list => k_is)
    (case k_is_list => k_is)
    (case a_check_number => k_is)
    (case l_check_number => k_is)
    (case c_check_number => k_is)
    (case k_check_number => k_is)
    (case a_is_line => k_is)
    (case l_is_line => k_is)
    (case c_is_line => k_is)
    (case k_is_line => k_is)
    (case a_trimmed => k_is)
    (case l_trimmed => k_is)
    (case c_trimmed => k_is)
    (case k_trimmed => k_is)
    (case a_scaled => k_is)
    (case l_scaled => k_is)
    (case c_scaled => k_is)
    (case k_scaled => k_is)
    (case a_poly_sum => k_is)
    (case l_poly_sum => k_is)
    (case c_poly_sum => k_is)
    (case k_poly_sum => k_is)
    (case a_poly_less => k_is)
    (case l_poly_less => k_is)
    (case c_poly_less => k_is)
    (case k_poly_less => k_is)
    (case a_poly_times => k_is)
    (case l_poly_times => k_is)
    (case c_poly_times => k_is)
    (case k_poly_times => k_is)
    (case a_poly_value => k_is)
    (case l_poly_value => k_is)
    (case c_poly_value => k_is)
    (case k_poly_value => k_is)
    (case a_poly_slope => k_is)
    (case l_poly_slope => k_is)
    (case c_poly_slope => k_is)
    (case k_poly_slope => k_is)
    (case a_content => k_is)
    (case l_content => k_is)
    (case c_content => k_is)
    (case k_content => k_is)
    (case a_poly_plain => k_is)
    (case l_poly_plain => k_is)
    (case c_poly_plain => k_is)
    (case k_poly_plain => k_is)
    (case a_check_line => k_is)
    (case l_check_line => k_is)
    (case c_check_line => k_is)
    (case k_check_line => k_is)
    (case a_check_lines => k_is)
    (case l_check_lines => k_is)
    (case c_check_lines => k_is)
    (case k_check_lines => k_is)
    (case a_degree => k_is)
    (case l_degree => k_is)
    (case c_degree => k_is)
    (case k_degree => k_is)
    (case a_line_value => k_is)
    (case l_line_value => k_is)
    (case c_line_value => k_is)
    (case k_line_value => k_is)
    (case a_line_slope => k_is)
    (case l_line_slope => k_is)
    (case c_line_slope => k_is)
    (case k_line_slope => k_is)
    (case a_plain_line => k_is)
    (case l_plain_line => k_is)
    (case c_plain_line => k_is)
    (case k_plain_line => k_is)
    (case a_line_sum => k_is)
    (case l_line_sum => k_is)
    (case c_line_sum => k_is)
    (case k_line_sum => k_is)
    (case a_line_less => k_is)
    (case l_line_less => k_is)
    (case c_line_less => k_is)
    (case k_line_less => k_is)
    (case a_line_times => k_is)
    (case l_line_times => k_is)
    (case c_line_times => k_is)
    (case k_line_times => k_is)
    (case a__law_trim => k_is)
    (case l__law_trim => k_is)
    (case c__law_trim => k_is)
    (case k__law_trim => k_is)
    (case a__law_sum => k_is)
    (case l__law_sum => k_is)
    (case c__law_sum => k_is)
    (case k__law_sum => k_is)
    (case a__law_times => k_is)
    (case l__law_times => k_is)
    (case c__law_times => k_is)
    (case k__law_times => k_is)
    (case a__law_value => k_is)
    (case l__law_value => k_is)
    (case c__law_value => k_is)
    (case k__law_value => k_is)
    (case a__law_slope => k_is)
    (case l__law_slope => k_is)
    (case c__law_slope => k_is)
    (case k__law_slope => k_is)
    (case a__law_greatest => k_is)
    (case l__law_greatest => k_is)
    (case c__law_greatest => k_is)
    (case k__law_greatest => k_is)
    (case a__law_plain => k_is)
    (case l__law_plain => k_is)
    (case c__law_plain => k_is)
    (case k__law_plain => k_is)
    (case a__law_drawn => k_is)
    (case l__law_drawn => k_is)
    (case c__law_drawn => k_is)
    (case k__law_drawn => k_is)
    (case a__law_pair_right => k_is)
    (case l__law_pair_right => k_is)
    (case c__law_pair_right => k_is)
    (case k__law_pair_right => k_is)
    (case a__law_one_right => k_is)
    (case l__law_one_right => k_is)
    (case c__law_one_right => k_is)
    (case k__law_one_right => k_is)
    (case a__law_right => k_is)
    (case l__law_right => k_is)
    (case c__law_right => k_is)
    (case k__law_right => k_is)
    (case a_law => k_is)
    (case l_law => k_is)
    (case c_law => k_is)
    (case k_law => k_is)
    (case z_abs => k_is)
    (case z_all => k_is)
    (case z_bool => k_is)
    (case z_LINE_DEGREE => k_is)
    (case z_divmod => k_is)
    (case z_enumerate => k_is)
    (case z_int => k_is)
    (case z_isinstance => k_is)
    (case z_len => k_is)
    (case z_list => k_is)
    (case z_gcd => k_is)
    (case z_max => k_is)
    (case z_range => k_is)
    (case z_repr => k_is)
    (case z_tuple => k_is)
    (case z_zip => k_is)
